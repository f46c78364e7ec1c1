import Derived.Lib.ValidLaws
import Derived.Test.YtmphmjkinmkidaaGreatDoorS41
set_option linter.defProp false
open Go.Proofs.Tryz
set_option maxRecDepth 8000
set_option maxHeartbeats 4000000
namespace Go.Proofs.YtmphmjkinmkidaaGreatDoor
variable{p:Prop}
section
open Go.RowKit Go.Extern.Stop Go.Stop Go.Extern
def Z62(h:p:=by
 have hty:=run_eql_iface_types (P:=prog) 88 200 (.pointer (some ⟨pb,po,none⟩)) (.pointer (some b)) underlying57 Ke w
 go_enter func32,ntmps32
 go_wp2
 refine wp_loop_rounds 2 ?_
 rw [rounds_succ]
 go_wp2
 rw [rounds_succ]
 go_wp2
 go_ret
 exact ⟨rfl,rfl⟩):p:=h
theorem Tryz.noIsR(v:Value)(xT:TypeId)(w:World):(Instr.typeAssert (.iface 88 v) xT 171 true).run prog w=.ok (.tuple #[.nilIface,.bool false]) w:=run_typeAssert_lacksB underlying171 (by kernel_rfl) (by kernel_rfl) v xT w
theorem Tryz.hasUnwrapR(v:Value)(xT:TypeId)(w:World):(Instr.typeAssert (.iface 88 v) xT 174 true).run prog w=.ok (.tuple #[.iface 88 v,.bool true]) w:=run_typeAssert_hasB underlying174 (by kernel_rfl) v xT w
theorem Tryz.methodUnwrapR(v:Value)(w:World):(Go.method 413 88 v "Unwrap").run prog w=.ok (232,v) w:=by kernel_rfl
theorem Tryz.call8R(v:Value)(w:World):(callFunc 51 #[.iface 88 v]).run prog w=.ok (.value (.iface 169 (.agg #[.pointer (some ⟨34,88,none⟩)]))) w:=by
 exact Z105
theorem Tryz.call53R(w:World):(callFunc 239 #[.agg #[.pointer (some ⟨34,88,none⟩)],.iface 169 (.agg #[.pointer (some ⟨34,95,none⟩)])]).run prog w=.ok (.value (.bool false)) w:=by
 exact Z89
theorem Tryz.noAsR(v:Value)(xT:TypeId)(w:World):(Instr.typeAssert (.iface 88 v) xT 180 true).run prog w=.ok (.tuple #[.nilIface,.bool false]) w:=run_typeAssert_lacksB underlying180 (by kernel_rfl) (by kernel_rfl) v xT w
theorem AX(pb po:Nat)(b:Addr)(w:World)(h1:w.cell? ⟨pb,po,none⟩=some (.iface 200 (.pointer (some b)))):
  Calls prog 32 #[.iface 88 (.pointer (some ⟨pb,po,none⟩)),.iface 200 (.pointer (some b))] w λe w'=>e=.returned (.bool true)/\w'=w:=by
 obtain ⟨i,hi,hcmp⟩:=Y205
 obtain ⟨j,hj,hjs⟩:=Y206
 have c8:=Tryz.call8E
 have c54:=Tryz.call54
 have mR:=Tryz.isMethodComparable
 have nW:=Tryz.noIsR
 have uW:=Tryz.hasUnwrapR
 have mU:=Tryz.methodUnwrapR
 have heq:=run_eql_iface_ptr_same (P:=prog) w b underlying57 underlying200 hi hcmp hj
 exact Z62
theorem AJ(pb po:Nat)(b a:Addr)(ca cb:Array Value)(ta tb:TypeId)(w:World)(h1:w.cell? ⟨pb,po,none⟩=some (.iface 200 (.pointer (some a))))(hne:a≠b)(ha:w.heap[a.block]?=some (.cells ca ta (0,0)))(hb:w.heap[b.block]?=some (.cells cb tb (0,0))):
  Calls prog 32 #[.iface 88 (.pointer (some ⟨pb,po,none⟩)),.iface 200 (.pointer (some b))] w λe w'=>e=.returned (.bool false)/\w'=w:=by
 obtain ⟨i,hi,hcmp⟩:=Y205
 obtain ⟨j,hj,hjs⟩:=Y206
 have c8:=Tryz.call8E
 have c54:=Tryz.call54
 have mR:=Tryz.isMethodComparable
 have nE:=Tryz.noIsE
 have uE:=Tryz.noUnwrapE
 have vE:=Tryz.noUnwrapsE
 have nW:=Tryz.noIsR
 have uW:=Tryz.hasUnwrapR
 have mU:=Tryz.methodUnwrapR
 have heq:=Y207
 exact Z62
theorem Cq(rb:Nat)(e t:Addr)(w:World)(r0:w.cell? ⟨rb,0,none⟩=some (.iface 200 (.pointer (some e))))(hg:w.cell? ⟨17,0,none⟩=some (.iface 169 (.agg #[.pointer (some ⟨34,57,none⟩)]))):
  Calls prog 33 #[.iface 88 (.pointer (some ⟨rb,0,none⟩)),.iface 97 (.pointer (some t))] w λev w'=>ev=.returned (.bool false)/\Ext w w':=by
 have c8:=Tryz.call8E
 have c8R:=Tryz.call8R
 have a53R:=Tryz.call53R
 have nAR:=Tryz.noAsR
 have uW:=Tryz.hasUnwrapR
 have mU:=Tryz.methodUnwrapR
 have hrb:rb<w.heap.size:=by
  rcases Nat.lt_or_ge rb w.heap.size with h|h
  ·exact h
  simp [World.cell?,Array.getElem?_eq_none h] at r0
 have hb1:rb<w.heap.size+1:=Kc
 have hb2:rb<w.heap.size+1+1:=Kc
 have hb3:rb<w.heap.size+1+1+1:=Kc
 have hb4:rb<w.heap.size+1+1+1+1:=Kc
 have mA:=Tryz.methodAssignableTo
 have a53:=Tryz.call53E
 have f10:=Tryz.call10
 have f11:=Tryz.call11
 have mK:=Tryz.methodKind
 have mE:=Tryz.methodElem
 have mI:=Tryz.methodImplements
 have k36:=Tryz.call30
 have k28:=Tryz.call30F
 have e36:=Tryz.call55
 have i28:=Tryz.call56
 have nA:=Tryz.noAsE
 have uE:=Tryz.noUnwrapE
 have vE:=Tryz.noUnwrapsE
 have n12:=Y208
 have hlt:17<w.heap.size:=by
  exact Z137
 have hg2:((w.alloc (.cells #[.pointer (some t)] 97)).alloc (.cells #[.pointer (some ⟨34,97,none⟩),.pointer (some ⟨w.heap.size,0,none⟩),.int .u64 150] 131)).cell? ⟨17,0,none⟩=some (.iface 169 (.agg #[.pointer (some ⟨34,57,none⟩)])):=by
  exact Z134
 go_enter func33,ntmps33
 go_wp2
 refine wp_loop_rounds 2 ?_
 rw [rounds_succ]
 go_wp2
 exact Z101
theorem pO(a:Nat->Addr)(k:Nat)(hk:k<16)(w:World)(M:Met a w)(rb:Nat)(r0:w.cell? ⟨rb,0,none⟩=some (.iface 200 (.pointer (some (a k))))):
  Calls prog 19 #[.iface 88 (.pointer (some ⟨rb,0,none⟩))] w λe w'=>e=.returned (.tuple #[.int .i64 (k+1),.int .i64 (-1)])/\Ext w w':=by
 have e0:=M.cell 0 Ke
 have e1:=M.cell 1 Ke
 have e2:=M.cell 2 Ke
 have e3:=M.cell 3 Ke
 have e4:=M.cell 4 Ke
 have e5:=M.cell 5 Ke
 have e6:=M.cell 6 Ke
 have e7:=M.cell 7 Ke
 have e8:=M.cell 8 Ke
 have e9:=M.cell 9 Ke
 have e10:=M.cell 10 Ke
 have e11:=M.cell 11 Ke
 have e12:=M.cell 12 Ke
 have e13:=M.cell 13 Ke
 have e14:=M.cell 14 Ke
 have e15:=M.cell 15 Ke
 have hrows:=M.row
 have hap:=M.apart
 have hg:=M.handle
 have hx1:=Y209
 have hx2:=Y210
 have hgA:=hx2.cell _ _ hg
 obtain ⟨ck,tk,hrk0⟩:=hrows k hk
 have hrk:=hx1.row _ _ hrk0
 have r0A:=hx1.cell _ _ r0
 have r0B:=hx2.cell _ _ r0
 clear M
 go_enter func19,ntmps19
 go_wp2_with fail
 clear e0 e1 e2 e3 e4 e5 e6 e7 e8 e9 e10 e11 e12 e13 e14 e15
 go_loop [4,28] (λn i=>∃j:Nat,j<=16/\i=.int .i64 j/\n=.int .i64 (if k<j then (k:Int)+1 else 0)) (λ_ i=>16-(intOf i).toNat)
 case atStart=>exact ⟨0,by omega,rfl,by simp⟩
 obtain ⟨j,hj,rfl,rfl⟩:=hrel
 by_cases hend:j<16
 ·have hcell:=DX a j hend
  obtain ⟨cj,tj,hrj0⟩:=hrows j hend
  have hrj:=hx1.row _ _ hrj0
  have hnew:=En w a j hend
  simp only [EL] at hcell hnew
  by_cases hjk:j=k
  ·subst hjk
   have hz:(if j<j then (j:Int)+1 else 0)=0:=Kh
   rw [hz]
   go_wp2_with (go_at_call 32;refine (AX rb 0 _ _ r0A).mono ?_;rintro e w' ⟨rfl,rfl⟩)
   exact Z142
  have hne:=hap k j hk hend (λh=>hjk h.symm)
  have hz:(if k<j+1 then (k:Int)+1 else 0)=(if k<j then (k:Int)+1 else 0):=by
   exact Z154
  generalize hn:(if k<j then (k:Int)+1 else 0)=n0 at hz ⊢
  go_wp2_with (go_at_call 32;refine (AJ rb 0 _ _ _ _ _ _ _ r0A hne hrk hrj).mono ?_;rintro e w' ⟨rfl,rfl⟩)
  exact Z139
 obtain rfl:j=16:=Kc
 have hz:=Y211
 rw [hz]
 go_wp2_with (go_at_call 33;refine (Cq rb _ _ _ r0B hgA).mono ?_;rintro e w' ⟨rfl,hx⟩)
 go_ret2
 exact ⟨rfl,hx2.trans hx⟩
end
section
open Go Go.RowKit Go.Extern.Stop Go.Stop Go.Extern
variable{q:Nat->Addr}{w w':World}
structure Met4(q:Nat->Addr)(w:World):Prop where
 short:w.cell? ⟨18,0,none⟩=some (.iface 200 (.pointer (some (q 0))))
 range:w.cell? ⟨21,0,none⟩=some (.iface 200 (.pointer (some (q 1))))
 deep:w.cell? ⟨19,0,none⟩=some (.iface 200 (.pointer (some (q 2))))
 many:w.cell? ⟨20,0,none⟩=some (.iface 200 (.pointer (some (q 3))))
 apart:∀i j,i<4->j<4->i≠j->q i≠q j
 row:∀i,i<4->∃c t,w.heap[(q i).block]?=some (.cells c t (0,0))
def wv(q:Nat->Addr)(i:Nat):Value:=.iface 200 (.pointer (some (q i)))
theorem Met4.werr(h:Met4 q w):WErr w (wv q 0) (wv q 1) (wv q 2) (wv q 3):=⟨⟨_,rfl,h.short⟩,⟨_,rfl,h.range⟩,⟨_,rfl,h.deep⟩,⟨_,rfl,h.many⟩⟩
theorem Met4.add(h:Met4 q w)(a:Add w w'):Met4 q w':=
 ⟨a.cell h.short,a.cell h.range,a.cell h.deep,a.cell h.many,h.apart,λi hi=>by obtain ⟨c,t,hr⟩:=h.row i hi;exact ⟨c,t,(a.old _ (Oh hr).1).trans hr⟩⟩
theorem Add.ext(a:Add w w'):Ext w w':=⟨a.os,a.output,a.size,a.old⟩
theorem Ext.add(a:Ext w w'):Add w w':=⟨a.1,a.2.1,a.2.2.1,a.2.2.2⟩
structure Glb(a q:Nat->Addr)(w:World):Prop where
 st:STbl w
 met:Met a w
 met4:Met4 q w
theorem Glb.add{a:Nat->Addr}(h:Glb a q w)(k:Add w w'):Glb a q w':=⟨h.st.add k,h.met.ext k.ext,h.met4.add k⟩
theorem rW(w:World):Calls prog 19 #[.nilIface] w λe w'=>e=.returned (.tuple #[.int .i64 0,.int .i64 (-1)])/\w'=w:=by
 go_enter func19,ntmps19
 go_wp2
 go_ret2
 exact ⟨rfl,rfl⟩
theorem mB{sb b:Nat}(h:w.cell? ⟨sb,0,none⟩=some (ptr b)):Calls prog 16 #[.pointer (some ⟨sb,0,none⟩)] w λe w'=>e=.returned (.bool true)/\w'=w:=by
 unfold ptr at h
 go_enter func16,ntmps16
 go_wp2
 go_ret
 exact ⟨rfl,rfl⟩
structure SchAt(w:World)(sb:Nat)(s:Sch):Prop where
 read:∃(t:ByteArray) (j:J),iN t=some j/\rdS 33 j ByteArray.empty []=some (s,dM s)
 good:Good s
 le:(dM s).length<=16
 cell:∃(W0:World) (ok:Nat->Prop) (b:Nat) (Bs:List Nat),w.cell? ⟨sb,0,none⟩=some (ptr b)/\Add W0 w/\s.at ok W0 w (dM s) Bs b
theorem SchAt.add{sb:Nat}{s:Sch}(h:SchAt w sb s)(k:Add w w'):SchAt w' sb s:=by
 obtain ⟨W0,ok,b,Bs,h1,h2,h3⟩:=h.cell
 exact ⟨h.read,h.good,h.le,W0,ok,b,Bs,k.cell h1,h2.trans k,cO ⟨k.size,λi _ hl=>k.old i hl⟩ (λ_ h _=>h) (NN _) (NN _) _ _ h3⟩
def Ch(w w':World)(sb:Nat)(s:Sch):Prop:=w.heap.size<=sb/\∃(W0:World) (b:Nat) (Bs:List Nat),w'.cell? ⟨sb,0,none⟩=some (ptr b)/\Add w W0/\Add W0 w'/\s.at (λi=>w.heap.size<=i) W0 w' (dM s) Bs b
def AParP(a:Nat->Addr)(t:ByteArray)(w:World)(e:Ending)(w':World):Prop:=
 Add w w'/\((∃k rb,k<16/\e=.returned (.tuple #[.pointer none,.iface 88 (.pointer (some ⟨rb,0,none⟩))])/\w'.cell? ⟨rb,0,none⟩=some (.iface 200 (.pointer (some (a k))))/\∀j s E,iN t=some j->rdS 33 j ByteArray.empty []=some (s,E)->¬ nF s) \/
  (∃s sb j,e=.returned (.tuple #[.pointer (some ⟨sb,0,none⟩),.nilIface])/\iN t=some j/\rdS 33 j ByteArray.empty []=some (s,dM s)/\SchAt w' sb s/\Ch w w' sb s))
end
section
open Go Go.RowKit Go.Extern.Stop Go.Stop Go.Extern
theorem qP{t:ByteArray}{j:J}(h:iN t=some j):j.within 32/\j.cost<=4000:=by
 unfold iN at h
 split at h
 ·cases h
 split at h
 ·obtain ⟨h1,h2⟩:=Gz h
  have h3:(lI t).length<=t.size:=ou _ _ _
  exact ⟨h1,by omega⟩
 cases h
theorem Dc{a q:Nat->Addr}{w:World}(hG:Glb a q w)(t:ByteArray)(ht:t.size<=70368744177000):
  Calls prog 18 #[.string t] w λe w'=>AParP a t w e w':=by
 have hrd:=Jo t w hG.st.tbl ht
 cases hp:iN t with
 |none=>
  rw [hp] at hrd
  have HP:=bf hp
  have HG:=bf hG
  clear hp hG
  go_enter func18,ntmps18
  go_upto_region 3 with (go_at_call 30;refine hrd.mono ?_;rintro e w1 ⟨⟨T,v,rfl⟩,hA1⟩)
  have hA2:=hA1.trans (ae w1 (.cells #[.int .i64 0,.int .i64 0,.string ⟨#[]⟩,.slice none 0 0,.slice none 0 0,.map none] 85 (0,0)))
  generalize w1.alloc (.cells #[.int .i64 0,.int .i64 0,.string ⟨#[]⟩,.slice none 0 0,.slice none 0 0,.map none] 85 (0,0))=w2 at *
  have hm:=(HG.out.add hA2).met.cell 0 Ke
  have HA2:=bf hA2
  clear hA2 hA1 hrd
  go_region
  all_goals go_wp2
  all_goals go_ret2
  all_goals exact ⟨HA2.out.trans ((ae w2 _).trans (af _)),.inl ⟨0,w2.heap.size,by decide,rfl,(by show (w2.alloc _).cell? _=_;unfold World.cell?;rw [dD];rfl),λj s E h=>by rw [HP.out] at h;cases h⟩⟩
 |some j=>
  rw [hp] at hrd
  obtain ⟨hw32,hcost⟩:=qP hp
  have HP:=bf hp
  have HG:=bf hG
  have HW:=bf hw32
  have HC:=bf hcost
  clear hp hG hw32 hcost
  go_enter func18,ntmps18
  go_upto_region 4 with (go_at_call 30;refine hrd.mono ?_;rintro e w1 ⟨⟨cs,rfl,hl⟩,hA1⟩;obtain ⟨n6,t6,a6,na6,l6,c6,nl6,nc6,m6,rfl⟩:=J.lies_cells hl;unfold jc;have HL:=bf hl;clear hl)
  have hA2:=ae w1 (.cells #[.int .i64 j.kindI,.int .i64 n6,.string t6,.slice a6 l6 c6,.slice na6 nl6 nc6,.map m6] 85 (0,0))
  have hb2:=dD w1 (.cells #[.int .i64 j.kindI,.int .i64 n6,.string t6,.slice a6 l6 c6,.slice na6 nl6 nc6,.map m6] 85 (0,0))
  have hl2:=bL HL.out hA2
  obtain ⟨q0,q1,q2,q3,q4,q5,-⟩:=dF hb2
  generalize hW2:w1.alloc (.cells #[.int .i64 j.kindI,.int .i64 n6,.string t6,.slice a6 l6 c6,.slice na6 nl6 nc6,.map m6] 85 (0,0))=w2 at *
  have hG2:=HG.out.add (hA1.trans hA2)
  have hsr:=FR hl2 HW.out (by have:=HC.out;omega) hG2.st
  have HST:=bf (ur _ _ hl2)
  have HA2:=bf (hA1.trans hA2)
  unfold jc at hsr
  clear hA1 hA2 hl2 hb2 hG2 hrd hW2 HL
  go_wp2_with (go_at_call 31;refine hsr.mono ?_;rintro e w3 ⟨hA3,⟨T,v,rfl,hnd⟩|⟨s,b,Bs,rfl,hrs,h16,hat⟩⟩;all_goals (have hA3':=HA2.out.trans hA3;have hm:=(HG.out.add hA3').met.cell 1 Ke;have HA3:=bf hA3';try unfold ptr))
  ·go_region
   all_goals go_wp2
   all_goals go_ret2
   all_goals exact ⟨HA3.out.trans ((ae w3 _).trans (af _)),.inl ⟨1,w3.heap.size,by decide,rfl,(by show (w3.alloc _).cell? _=_;unfold World.cell?;rw [dD];rfl),λj' s E h h2=>by rw [HP.out] at h;cases h;exact hnd s E h2⟩⟩
  go_ret2
  have hAf:=ae w3 (.cells #[ptr b] 55 (0,0))
  have hcb:(w3.alloc (.cells #[ptr b] 55 (0,0))).cell? ⟨w3.heap.size,0,none⟩=some (ptr b):=by
   unfold World.cell?
   rw [dD]
   rfl
  have hat':=cO ⟨hAf.size,λi _ hl=>hAf.old i hl⟩ (λ_ h _=>h) (NN _) (NN _) _ _ hat
  exact ⟨HA3.out.trans hAf,.inr ⟨s,w3.heap.size,j,rfl,HP.out,hrs,⟨⟨t,j,HP.out,hrs⟩,(EY hrs HW.out HST.out (by have:=HC.out;omega)).1,h16,w2,_,b,Bs,hcb,hA3.trans hAf,hat'⟩,HA3.out.size,w2,b,Bs,hcb,HA2.out,hA3.trans hAf,cO ⟨NL _,λ_ _ _=>rfl⟩ (λi h _=>NM HA2.out.size h) (NN _) (NN _) _ _ hat'⟩⟩
def IW(t:ByteArray)(w:World)(e:Ending)(w':World):Prop:=
 Add w w'/\((∃n:Int,n≠0/\e=.returned (.tuple #[.pointer none,.int .i64 n])/\∀j s E,iN t=some j->rdS 33 j ByteArray.empty []=some (s,E)->¬ nF s) \/
  (∃s sb j,e=.returned (.tuple #[.pointer (some ⟨sb,0,none⟩),.int .i64 0])/\iN t=some j/\rdS 33 j ByteArray.empty []=some (s,dM s)/\SchAt w' sb s/\Ch w w' sb s))
theorem rE{a q:Nat->Addr}{w:World}(hG:Glb a q w)(t:ByteArray)(ht:t.size<=70368744177000):
  Calls prog 7 #[.string t] w λe w'=>IW t w e w':=by
 have hp:=Dc hG t ht
 have HG:=bf hG
 clear hG
 go_enter func7,ntmps7
 go_upto_region 2 with (go_at_call 18;refine hp.mono ?_;rintro e w1 ⟨hA1,⟨k,rb,hk,rfl,hc,hno⟩|⟨s,sb,j,rfl,hj,hr,hS,hI⟩⟩)
 ·have hn:=pO a k hk w1 (HG.out.add hA1).met rb hc
  clear hc hp
  go_wp2_with (go_at_call 19;refine hn.mono ?_;rintro e w2 ⟨rfl,hE⟩)
  go_ret2
  exact ⟨hA1.trans hE.add,.inl ⟨(k:Int)+1,by omega,rfl,hno⟩⟩
 have hn:=rW w1
 clear hp
 go_wp2_with (go_at_call 19;refine hn.mono ?_;rintro e w2 ⟨rfl,hw2⟩;obtain rfl:w1=w2:=hw2.symm;clear hw2)
 go_ret2
 exact ⟨hA1,.inr ⟨s,sb,j,rfl,hj,hr,hS,hI⟩⟩
end
section
open Go Go.RowKit
def Z188(h:p:=by
 split
 ·exact lm
 exact jH Ke lm):p:=h
def nG(l:List UInt8):Prop:=∀b∈l,b.toNat<128
theorem kE{a b:List UInt8}(h:nG a)(k:nG b):nG (a++b):=λx hx=>(List.mem_append.1 hx).elim (h x) (k x)
theorem jH{a:UInt8}{b:List UInt8}(h:a.toNat<128)(k:nG b):nG (a::b):=λx hx=>by
 rcases List.mem_cons.1 hx with rfl|hx
 ·exact h
 exact k x hx
theorem lm:nG []:=λ_ h=>by cases h
theorem tT{s:ByteArray}(h:fM s):nG (qB s):=by
 unfold qB
 refine jH Ke (kE (λb hb=>?_) (jH Ke lm))
 have:=h b hb
 unfold mD at this
 simp only [Bool.and_eq_true,decide_eq_true_eq] at this
 omega
theorem vD(s:ByteArray)(h:nG s.data.toList):∀(f pos:Nat),pos+f=s.size->gM s f pos=rn (s.data.toList.drop pos)
 |0,pos,hf=>by
  rw [gM,List.drop_eq_nil_of_le (by have:s.data.toList.length=s.size:=Kh;omega)]
  rfl
 |f+1,pos,hf=>by
  have hlt:pos<s.size:=Kc
  have hb:s[pos].toNat<128:=h _ (by rw [show s[pos]=s.data.toList[pos]'(by simpa using hlt) from rfl];exact NS _)
  rw [gM,if_pos hlt,(uX s pos hlt).1 hb,xO s pos hlt,zY]
  congr 1
  exact vD s h f (pos+1) Kc
theorem BM(l:List UInt8)(h:nG l):Lib.validD l=true:=by
 rw [Lib.validD_ascii l.length l (λb hb=>h b (List.mem_of_mem_take hb)),List.drop_length]
 rfl
theorem se{l:List UInt8}(h:nG l)(hl:l.length<=4000):iN ⟨l.toArray⟩=yG (rn l):=by
 have hs:(⟨l.toArray⟩:ByteArray).size=l.length:=by simp [ByteArray.size]
 have hd:(⟨l.toArray⟩:ByteArray).data.toList=l:=Kh
 unfold iN
 rw [if_neg Kc,if_pos (by rw [hd];exact BM l h)]
 unfold lI
 rw [vD ⟨l.toArray⟩ (by rw [hd];exact h) _ 0 Kc,hd,List.drop_zero]
theorem DY{n:Int}(h0:0<=n)(h1:n<=64):nG (Lib.itoa n):=by
 obtain ⟨m,rfl⟩:∃m:Nat,n=(m:Int):=⟨n.toNat,by omega⟩
 intro b hb
 have hm:b.toNat∈rn (Lib.itoa (m:Int)):=List.mem_map_of_mem hb
 by_cases h:m<10
 ·rw [mH m h] at hm
  have:=List.mem_singleton.1 hm
  omega
 rw [pX m Kc Kc] at hm
 simp only [List.mem_cons,List.not_mem_nil,or_false] at hm
 rcases hm with e|e <;> omega
mutual
theorem sN:∀(k:Nat) (j:J),j.plain k->nG (jB j)
 |_,.null,h=>by rw [J.plain] at h;exact h.elim
 |_,.bool _,h=>by rw [J.plain] at h;exact h.elim
 |_,.num n,h=>by rw [J.plain] at h;rw [jB];exact DY h.1 h.2
 |_,.str s,h=>by rw [J.plain] at h;rw [jB];exact tT h
 |0,.arr _,h=>by rw [J.plain] at h;exact h.elim
 |k+1,.arr l,h=>by
  rw [J.plain] at h
  rw [jB]
  exact jH Ke (kE (zM k true l h) (jH Ke lm))
 |0,.obj _ _,h=>by rw [J.plain] at h;exact h.elim
 |k+1,.obj ns vs,h=>by
  rw [J.plain] at h
  rw [jB]
  exact jH Ke (kE (zg k true ns vs h.1 h.2.2.2.1 h.2.2.2.2) (jH Ke lm))
theorem zM:∀(k:Nat) (b:Bool) (l:List J),bT k l->nG (jBs b l)
 |_,_,[],_=>by rw [jBs];exact lm
 |k,b,v::r,h=>by
  rw [bT] at h
  rw [jBs]
  refine kE ?_ (kE (sN k v h.1) (zM k false r h.2))
  exact Z188
theorem zg:∀(k:Nat) (b:Bool) (ns:List ByteArray) (l:List J),ns.length=l.length->(∀n∈ns,fM n)->bT k l->nG (jBo b ns l)
 |_,_,_,[],_,_,_=>by rw [jBo];exact lm
 |_,_,[],_::_,hl,_,_=>by simp at hl
 |k,b,n::ns,v::r,hl,hn,h=>by
  rw [bT] at h
  rw [jBo]
  refine kE ?_ (kE (tT (hn _ Kh)) (jH Ke (kE (sN k v h.1) (zg k false ns r LQ (λx hx=>hn x Lg) h.2))))
  exact Z188
end
theorem BX{s:Sch}{t:ByteArray}{j:J}(h1:iN t=some j)(h2:rdS 33 j ByteArray.empty []=some (s,dM s))(hs:shp s)(h46:(46:UInt8) ∉ jB (jOf s)):iN ⟨(jB (jOf s)).toArray⟩=some (jOf s)/\rdS 33 (jOf s) ByteArray.empty []=some (eO s,dM s):=by
 have hn:=GW s hs h46
 obtain ⟨w1,w2⟩:=qP h1
 have hE:gj []:=λp hp=>by cases hp
 obtain ⟨c1,c2⟩:=Io 33 j _ [] s _ h2 hE hn 32 w1
 refine ⟨?_,reread 33 j _ [] s _ h2 hE hn⟩
 rw [se (sN 32 _ c1) Kc]
 exact wU _ c1
def alB:ByteArray:=⟨#[123,34,116,121,112,101,34,58,34,97,114,114,97,121,34,44,34,105,116,101,109,115,34,58,34,105,110,116,34,125]⟩
def alJ:J:=.obj [⟨#[116,121,112,101]⟩,⟨#[105,116,101,109,115]⟩] [.str ⟨#[97,114,114,97,121]⟩,.str ⟨#[105,110,116]⟩]
def alS:Sch:=.mk 11 ByteArray.empty [] 0 [lQ 3] []
theorem Ih:alB=⟨(jB alJ).toArray⟩:=Kl
theorem Cr:alJ.plain 32:=by
 unfold alJ
 rw [J.plain]
 refine ⟨rfl,by simp,by decide,λn hn=>?_,?_⟩
 ·simp only [List.mem_cons,List.not_mem_nil,or_false] at hn
  rcases hn with rfl|rfl <;> (unfold fM;decide)
 rw [bT,J.plain,bT,J.plain,bT]
 exact ⟨by unfold fM;decide,by unfold fM;decide,trivial⟩
theorem Cd:iN alB=some alJ:=by
 rw [Ih,se (sN 32 _ Cr) Ke]
 exact wU _ Cr
theorem Fl:rdS 33 alJ ByteArray.empty []=some (alS,[]):=Kf
theorem oW{g:Dat->Nat->Option Nat} : ∀(ks:List Dat) (l l':Nat),eu g ks l=some l'->∀x∈ks,∃l1 l2,g x l1=some l2
 |[],_,_,_,x,hx=>by cases hx
 |d::r,l,l',h,x,hx=>by
  rw [eu] at h
  cases hg:g d l with
  |none=>rw [hg] at h;cases h
  |some l1=>
   rw [hg] at h
   rcases List.mem_cons.1 hx with rfl|hx
   ·exact ⟨l,l1,hg⟩
   exact oW r l1 l' h x hx
theorem Bo{g:Nat->Dat->Nat->Option Nat} : ∀(ids:List Nat) (ks:List Dat) (l l':Nat),jM g ids ks l=some l'->ks.length=ids.length->∀x∈ks,∃id l1 l2,g id x l1=some l2
 |[],[],_,_,_,_,x,hx=>by cases hx
 |[],_::_,_,_,_,hl,_,_=>by simp at hl
 |_::_,[],_,_,_,_,x,hx=>by cases hx
 |id::r,d::ks,l,l',h,hl,x,hx=>by
  rw [jM] at h
  cases hg:g id d l with
  |none=>rw [hg] at h;cases h
  |some l1=>
   rw [hg] at h
   rcases List.mem_cons.1 hx with rfl|hx
   ·exact ⟨id,l,l1,hg⟩
   exact Bo r ks l1 l' h LQ x hx
theorem qf{d:Dat}{ks:List Dat}(h:d∈ks):d.sz<=aY ks:=by
 induction ks with
 |nil=>cases h
 |cons x r ih=>
  rw [aY]
  exact Z182
theorem tV:∀ {ks:List Dat},(∀d∈ks,d.shaped)->aT ks
 |[],_=>by rw [aT];trivial
 |d::r,h=>by rw [aT];exact ⟨h d Kh,tV λx hx=>h x Lg⟩
theorem nI:∀ {ks:List Dat},(∀d∈ks,d.shapedT)->aV ks
 |[],_=>by rw [aV];trivial
 |d::r,h=>by rw [aV];exact ⟨h d Kh,nI λx hx=>h x Lg⟩
theorem vB{s:ByteArray}{ns:List ByteArray}(h:s∈ns):s.size<=eH ns:=by
 induction ns with
 |nil=>cases h
 |cons x r ih=>
  rw [eH]
  exact Z182
theorem xB:∀(N:Nat) (d:Dat),d.count<=N->d.sz<=70368744177000->d.shapedT
 |0,.mk _ _ _ _ _ _,h,_=>by rw [Dat.count] at h;omega
 |N+1,.mk k n b t ns ks,h,hz=>by
  rw [Dat.sz] at hz
  rw [Dat.count] at h
  have h1:=pI ns
  have h2:=ll ks
  rw [Dat.shapedT]
  exact ⟨by omega,by omega,λs hs=>by have:=vB hs;omega,by omega,nI λd hd=>xB N d ND NE⟩
theorem xP{d:Dat}{ks:List Dat}(h:aS ks)(hd:d∈ks):d.rng:=by
 induction ks with
 |nil=>cases hd
 |cons x r ih=>
  rw [aS] at h
  exact Z177
theorem Ga{tab:List TNode}(hf:∀n∈tab,n.fields.length<=12){f id:Nat}{k i:Int}{b:Nat}{t:ByteArray}{ns:List ByteArray}{ks:List Dat}{l l':Nat}(h:eZ tab (f+1) id (.mk k i b t ns ks) l=some l'):(∀x∈ks,∃id l1 l2,eZ tab f id x l1=some l2)/\(k=12->ns.length=ks.length)/\ks.length<=1000/\ns.length<=1000:=by
 rw [eZ] at h
 cases hn:tab[id]? with
 |none=>exact Z241
 |some n=>
  rw [hn] at h
  simp only at h
  have hfn:=hf n (List.mem_of_getElem? hn)
  split at h
  ·rename_i hc
   obtain ⟨hk,hb,ho⟩:=hc
   have hns:n.kind≠12->ns=[]:=λh12=>by
    unfold gu at hb
    simp only [Bool.and_eq_true,Bool.or_eq_true,decide_eq_true_eq] at hb
    rcases hb.1.2 with e|e
    ·exact absurd e h12
    exact e
   have hns0:n.kind≠12->ns.length<=1000:=λh12=>by rw [hns h12];exact NQ _
   unfold gT at h
   split at h
   ·rename_i h9
    have hl:ks.length=n.fields.length:=by simpa [ofB,h9] using ho
    exact ⟨Bo _ _ _ _ h (by rw [List.length_map];exact hl),λh12=>by omega,by omega,hns0 Kc⟩
   rename_i h9
   unfold gR at h
   split at h
   ·rename_i h13
    have hl:ks.length=1:=by
     have:gq i n.branches.length=true/\ks.length=1:=by simpa [ofB,h13] using ho
     exact this.2
    refine ⟨λy hy=>?_,λh12=>by omega,by omega,hns0 Kc⟩
    match ks,hl with
    |[x],_=>
     rw [List.mem_singleton.1 hy]
     cases hbr:n.branches[i.toNat]? with
     |none=>rw [hbr] at h;cases h
     |some bb=>rw [hbr] at h;exact ⟨bb,l,l',h⟩
   rename_i h13
   split at h
   ·rename_i h11
    unfold gL at h
    split at h
    ·cases h
    exact ⟨λx hx=>⟨_,oW _ _ _ h x hx⟩,λh12=>by omega,by omega,hns0 Kc⟩
   rename_i h11
   split at h
   ·rename_i h12
    split at h
    ·rename_i hnk
     unfold gL at h
     split at h
     ·rename_i l2 h2
      split at h2
      ·cases h2
      exact ⟨λx hx=>⟨_,oW _ _ _ h2 x hx⟩,λ_=>hnk,by omega,by omega⟩
     cases h
    cases h
   rename_i h12
   have hks:ks=[]:=by
    unfold gu at hb
    simp only [Bool.and_eq_true,Bool.or_eq_true,decide_eq_true_eq] at hb
    rcases hb.2 with e|e
    ·omega
    exact e
   rw [hks]
   exact ⟨λx hx=>(by cases hx),λe=>absurd Kc h12,by simp,hns0 h12⟩
  cases h
theorem AF{tab:List TNode}(hf:∀n∈tab,n.fields.length<=12):∀(f id:Nat) (d:Dat) (l l':Nat),eZ tab f id d l=some l'->d.rng->d.shaped/\d.shapedT
 |0,_,_,_,_,h,_=>by rw [eZ] at h;cases h
 |f+1,id,.mk k i b t ns ks,l,l',h,hr=>by
  obtain ⟨h1,h2,h3,h4⟩:=Ga hf h
  rw [Dat.rng] at hr
  have ih:∀x∈ks,x.shaped/\x.shapedT:=λx hx=>by
   obtain ⟨id',l1,l2,hx'⟩:=h1 x hx
   exact AF hf f id' x l1 l2 hx' (xP hr.2.2.2.2 hx)
  rw [Dat.shaped,Dat.shapedT]
  exact ⟨⟨h2,by omega,tV λx hx=>(ih x hx).1⟩,hr.2.2.1,by omega,hr.2.2.2.1,by omega,nI λx hx=>(ih x hx).2⟩
theorem zo:∀ {ks:List Dat},(∀d∈ks,d.rng)->aS ks
 |[],_=>by rw [aS];trivial
 |d::r,h=>by rw [aS];exact ⟨h d Kh,zo λx hx=>h x Lg⟩
theorem Ct{w:World} : ∀(N:Nat) (d:Dat) (cs:List Value),d.count<=N->d.lies w cs->d.sz<=70368744177000->d.rng
 |0,.mk _ _ _ _ _ _,_,h,_,_=>by rw [Dat.count] at h;omega
 |N+1,.mk k n b t ns ks,cs,h,hl,hz=>by
  rw [Dat.sz] at hz
  rw [Dat.count] at h
  rw [Dat.lies] at hl
  obtain ⟨na,nc,ka,kc,-,-,h2,h3,-,h5⟩:=hl
  rw [Dat.rng]
  refine ⟨h2,h3,by omega,λs hs=>by have:=vB hs;omega,zo λd hd=>?_⟩
  obtain ⟨j,hj,rfl⟩:=List.getElem_of_mem hd
  obtain ⟨_,_,cx,-,-,-,-,hx⟩:=Dat.lieAll_get ks 0 h5 j hj
  exact Ct N _ cx ND hx NE
theorem wM:∀(ks:List Dat),(∀d∈ks,d.enc.length<=30*d.sz)->(aB ks).length<=30*aY ks
 |[],_=>by simp [aB]
 |d::r,h=>by
  rw [aB,aY,List.length_append]
  have h1:=h d Kh
  have h2:=wM r λx hx=>h x Lg
  omega
theorem tO:∀(ns:List ByteArray) (ks:List Dat),(∀s∈ns,s.size<=70368744177000)->(∀d∈ks,d.enc.length<=30*d.sz)->(aG ns ks).length<=30*(eH ns+aY ks)
 |[],ks,_,_=>by simp [aG]
 |_::_,[],_,_=>by simp [aG]
 |s::ss,d::r,hs,h=>by
  rw [aG,aY,eH]
  simp only [List.length_append]
  have h1:=h d Kh
  have h2:=tO ss r (λx hx=>hs x Lg) λx hx=>h x Lg
  have h3:=fO (zig s.size) (jT _ Kc (by have:=hs s Kh;omega))
  have h4:s.data.toList.length=s.size:=Kh
  omega
theorem EK:∀(N:Nat) (d:Dat),d.count<=N->d.rng->d.sz<=70368744177000->d.enc.length<=30*d.sz
 |0,.mk _ _ _ _ _ _,h,_,_=>by rw [Dat.count] at h;omega
 |N+1,.mk k n b t ns ks,h,hr,hz=>by
  rw [Dat.sz] at hz ⊢
  rw [Dat.count] at h
  rw [Dat.rng] at hr
  have hk:∀d∈ks,d.enc.length<=30*d.sz:=λd hd=>EK N d ND (xP hr.2.2.2.2 hd) NE
  have ha:=wM ks hk
  have hp:=tO ns ks hr.2.2.2.1 hk
  have hv:=fO (zig n) (jT _ hr.1.1 hr.1.2)
  have ht:=fO (zig t.size) (jT _ Kc (by have:=hr.2.2.1;omega))
  have hc:=fO (zig ks.length) (jT _ Kc (by have:=ll ks;omega))
  have h0:(eQ (zig 0)).length<=10:=fO _ (jT 0 Ke Ke)
  have htl:t.data.toList.length=t.size:=Kh
  rw [Dat.enc]
  repeat' split
  all_goals ((try simp only [List.length_append,List.length_cons,List.length_nil,kr]);omega)
end
section
open Go Go.RowKit Go.Extern.Stop Go.Stop Go.Extern
variable{w:World}{sb:Nat}{s:Sch}{a q:Nat->Addr}{d:Dat}{cs:List Value}
def Y212(h:p:=by exact (ae w (.cells #[.int .i64 d.kind,.int .i64 d.int,.int .u64 (d.bits:Int),.string d.text,.slice na d.names.length nc,.slice ka d.kids.length kc] 42 (0,0)))):p:=h
def Y213(h:p:=by exact (dD w (.cells #[.int .i64 d.kind,.int .i64 d.int,.int .u64 (d.bits:Int),.string d.text,.slice na d.names.length nc,.slice ka d.kids.length kc] 42 (0,0)))):p:=h
theorem SchAt.lay(h:SchAt w sb s):∃pl,Lay w (fH s) pl/\w.cell? ⟨sb,0,none⟩=some (.pointer (some ⟨pl 0,0,none⟩))/\0<(fH s).length:=by
 obtain ⟨W0,ok,b,Bs,h1,h2,h3⟩:=h.cell
 obtain ⟨pl,l1,l2,l3,-⟩:=Ho h2 h.good.shp h.good.closed h.good.nodup h.good.cnt h3
 exact ⟨pl,l1,by rw [l2];exact h1,l3⟩
theorem ym(hG:Glb a q w)(hS:SchAt w sb s):
  Calls prog 6 #[.pointer (some ⟨sb,0,none⟩)] w λe w'=>e=.returned (.string ⟨(jB (jOf s)).toArray⟩)/\Add w w':=by
 obtain ⟨W0,ok,b,Bs,h1,h2,h3⟩:=hS.cell
 have hc:=yQ h3 hS.good.shp hS.good.rdy hS.good.nm hS.good.nodup (by have:=hS.le;omega) hS.good.len hG.st.words (NK Ke hG.st.tbl.ng) hG.st.tbl.pow
 have hm:=mB h1
 unfold ptr at h1
 clear h2 h3 hS hG
 go_enter func6,ntmps6
 go_wp2_with (first|(go_at_call 16;refine hm.mono ?_;rintro e w1 ⟨rfl,hw1⟩;obtain rfl:w=w1:=hw1.symm;clear hw1)|(go_at_call 17;refine hc.mono ?_;rintro e w2 ⟨rfl,hA2⟩))
 go_ret
 exact ⟨rfl,hA2⟩
theorem uS(hG:Glb a q w)(hS:SchAt w sb s)(hd:d.lies w cs)(hsh:d.shapedT):
  Calls prog 11 #[.pointer (some ⟨sb,0,none⟩),.agg cs.toArray] w λe w'=>e=.returned (.bool (eZ (fH s) 64 0 d 0).isSome)/\Add w w':=by
 obtain ⟨na,nc,ka,kc,rfl,-⟩:=Dat.lies_cells hd
 have hal:=Y212
 obtain ⟨q0,q1,q2,q3,q4,q5,-⟩:=dF (dD w (.cells #[.int .i64 d.kind,.int .i64 d.int,.int .u64 (d.bits:Int),.string d.text,.slice na d.names.length nc,.slice ka d.kids.length kc] 42 (0,0)))
 obtain ⟨pl,hL,hc,hp⟩:=(hS.add hal).lay
 have hG1:=hG.add hal
 have hd1:=Dat.lies_carry (Old.add hal) _ _ hd
 generalize hW1:w.alloc (.cells #[.int .i64 d.kind,.int .i64 d.int,.int .u64 (d.bits:Int),.string d.text,.slice na d.names.length nc,.slice ka d.kids.length kc] 42 (0,0))=w1 at *
 have hm:=mB (w:=w1.drew) (sb:=sb) (b:=pl 0) hc
 have hf:=FN (w:=w1.drew) (hL.old (Old.drew w1)) (hG1.add (af w1)).st.tbl.tabs hG1.st.tbl.ng 0 hp d _ (Dat.lies_carry (Old.drew w1) _ _ hd1) hsh
 generalize hbo:(eZ (fH s) 64 0 d 0).isSome=fb at *
 clear hL hG hG1 hd1 hd hS hsh hp hbo
 have HAL:=bf hal
 clear hal
 go_enter func11,ntmps11
 go_upto_region 1 with fail
 clear hW1
 refine wp_region_held_drew (S:=(λw'=>w'.cell? ⟨sb,0,none⟩=some (.pointer (some ⟨pl 0,0,none⟩))/\w'.cell? ⟨w.heap.size,0,none⟩=some (.int .i64 d.kind)/\w'.cell? ⟨w.heap.size,1,none⟩=some (.int .i64 d.int)/\w'.cell? ⟨w.heap.size,2,none⟩=some (.int .u64 (d.bits:Int))/\w'.cell? ⟨w.heap.size,3,none⟩=some (.string d.text)/\w'.cell? ⟨w.heap.size,4,none⟩=some (.slice na d.names.length nc)/\w'.cell? ⟨w.heap.size,5,none⟩=some (.slice ka d.kids.length kc))) Kf ?_ (λhH=>?_)
 ·exact ⟨hc,q0,q1,q2,q3,q4,q5⟩
 apply tk 0
 apply rd 1
 intro K hK
 go_simp
 go_wp2_with (go_at_call 16;refine hm.mono ?_;rintro e w2 ⟨rfl,hw2⟩;subst hw2)
 refine hK.out _ _ ⟨hc,q0,q1,q2,q3,q4,q5⟩ (λhH=>?_)
 clear hK K
 try simp only [Act.put,List.getElem_toArray,List.getElem_cons_zero,List.getElem_cons_succ,List.setIfInBounds_toArray,List.set_cons_zero,List.set_cons_succ]
 apply tk 2
 apply tk 3
 apply tk 4
 apply tk 5
 apply tk 6
 apply tk 7
 apply rd 8
 intro K hK
 go_simp
 go_wp2_with (go_at_call 22;refine hf.mono ?_;rintro e w3 ⟨rfl,hA3⟩)
 refine hK.out _ _ ⟨hA3.cell hc,hA3.cell q0,hA3.cell q1,hA3.cell q2,hA3.cell q3,hA3.cell q4,hA3.cell q5⟩ (λhH=>?_)
 clear hK K
 try simp only [Act.put,List.getElem_toArray,List.getElem_cons_zero,List.getElem_cons_succ,List.setIfInBounds_toArray,List.set_cons_zero,List.set_cons_succ]
 apply tk 9
 apply tk 10
 refine wpAnyH_done Kf ?_ _
 go_wp2
 go_ret
 exact ⟨rfl,HAL.out.trans ((af w1).trans hA3)⟩
structure DOk(d:Dat):Prop where
 shT:d.shapedT
 rng:d.rng
 len:d.enc.length<=70368744000000
theorem SchAt.fields(h:SchAt w sb s):∀n∈fH s,n.fields.length<=12:=λn hn=>by
 obtain ⟨pl,hL,-⟩:=h.lay
 obtain ⟨i,hi,rfl⟩:=List.getElem_of_mem hn
 exact (hL.sizes i hi).2.2.2
def AEncP(a:Nat->Addr)(tab:List TNode)(d:Dat)(w:World)(e:Ending)(w':World):Prop:=
 Add w w'/\(((eZ tab 64 0 d 0).isSome=true/\e=.returned (.tuple #[.string (kP d.enc),.nilIface]))\/((eZ tab 64 0 d 0).isSome=false/\e=.returned (.tuple #[.string ⟨#[]⟩,.iface 200 (.pointer (some (a 2)))])))
theorem Jg(hG:Glb a q w)(hS:SchAt w sb s)(hd:d.lies w cs)(hz:DOk d):
  Calls prog 23 #[.pointer (some ⟨sb,0,none⟩),.agg cs.toArray] w λe w'=>AEncP a (fH s) d w e w':=by
 obtain ⟨na,nc,ka,kc,rfl,-⟩:=Dat.lies_cells hd
 have hal:=Y212
 have hb:=Y213
 obtain ⟨q0,q1,q2,q3,q4,q5,-⟩:=dF hb
 have hd1:=Dat.lies_carry (Old.add hal) _ _ hd
 have hf:=uS (hG.add hal) (hS.add hal) hd1 hz.shT
 have hlt:w.heap.size<(w.alloc (.cells #[.int .i64 d.kind,.int .i64 d.int,.int .u64 (d.bits:Int),.string d.text,.slice na d.names.length nc,.slice ka d.kids.length kc] 42 (0,0))).heap.size:=Km
 have HG:=bf hG
 generalize hW1:w.alloc (.cells #[.int .i64 d.kind,.int .i64 d.int,.int .u64 (d.bits:Int),.string d.text,.slice na d.names.length nc,.slice ka d.kids.length kc] 42 (0,0))=w1 at *
 cases hb':(eZ (fH s) 64 0 d 0).isSome with
 |true=>
  obtain ⟨l',hl'⟩:=Option.isSome_iff_exists.1 hb'
  have hsh:=(AF hS.fields _ _ _ _ _ hl' hz.rng).1
  have he:=λW (k:Add w1 W)=>DK d W _ (Dat.lies_carry (Old.add k) _ _ hd1) hsh (by have:=hz.len;omega)
  rw [hb'] at hf
  have HB:=bf hb'
  have HAL:=bf hal
  have HBX:=bf hb
  have HLT:=bf hlt
  clear hG hS hd hd1 hal hsh hl' hb' hb hlt
  go_enter func23,ntmps23
  go_wp2_with (first|(go_at_call 11;refine hf.mono ?_;rintro e w2 ⟨rfl,hA2⟩;obtain ⟨p0,p1,p2,p3,p4,p5,-⟩:=dF ((hA2.old _ HLT.out).trans HBX.out))|(go_at_call 39;refine (he _ hA2).mono ?_;rintro e w3 ⟨rfl,hO3,ho3,hu3⟩))
  go_ret2
  exact ⟨HAL.out.trans (hA2.trans ⟨ho3,hu3,hO3.size,hO3.old⟩),.inl ⟨HB.out,rfl⟩⟩
 |false=>
  rw [hb'] at hf
  have HB:=bf hb'
  have HAL:=bf hal
  clear hG hS hd hd1 hal hb' hb hlt
  go_enter func23,ntmps23
  go_upto_region 2 with (go_at_call 11;refine hf.mono ?_;rintro e w2 ⟨rfl,hA2⟩)
  have hm:=(HG.out.add (HAL.out.trans hA2)).met.cell 2 Ke
  have HA2:=bf (HAL.out.trans hA2)
  clear hA2 hf hW1
  go_quiet (fail)
  go_wp2
  go_ret2
  exact ⟨HA2.out.trans ⟨rfl,rfl,NL _,λ_ _=>rfl⟩,.inr ⟨HB.out,rfl⟩⟩
def PEncP(tab:List TNode)(d:Dat)(w:World)(e:Ending)(w':World):Prop:=
 Add w w'/\(((eZ tab 64 0 d 0).isSome=true/\e=.returned (.tuple #[.string (kP d.enc),.int .i64 0]))\/((eZ tab 64 0 d 0).isSome=false/\e=.returned (.tuple #[.string ⟨#[]⟩,.int .i64 3])))
theorem yq(hG:Glb a q w)(hS:SchAt w sb s)(hd:d.lies w cs)(hz:DOk d):
  Calls prog 12 #[.pointer (some ⟨sb,0,none⟩),.agg cs.toArray] w λe w'=>PEncP (fH s) d w e w':=by
 obtain ⟨na,nc,ka,kc,rfl,-⟩:=Dat.lies_cells hd
 have hal:=Y212
 have hb:=Y213
 obtain ⟨q0,q1,q2,q3,q4,q5,-⟩:=dF hb
 have he:=Jg (hG.add hal) (hS.add hal) (Dat.lies_carry (Old.add hal) _ _ hd) hz
 have HG:=bf hG
 have HAL:=bf hal
 generalize hW1:w.alloc (.cells #[.int .i64 d.kind,.int .i64 d.int,.int .u64 (d.bits:Int),.string d.text,.slice na d.names.length nc,.slice ka d.kids.length kc] 42 (0,0))=w1 at *
 clear hG hS hd hal hb
 go_enter func12,ntmps12
 go_upto_region 2 with (go_at_call 23;refine he.mono ?_;rintro e w2 ⟨hA2,⟨hB,rfl⟩|⟨hB,rfl⟩⟩)
 ·have hn:=rW w2
  clear he hW1
  go_wp2_with (go_at_call 19;refine hn.mono ?_;rintro e w3 ⟨rfl,hw3⟩;obtain rfl:w2=w3:=hw3.symm;clear hw3)
  go_ret2
  exact ⟨HAL.out.trans hA2,.inl ⟨hB,rfl⟩⟩
 have hn:=Ap a 2 Ke w2 (HG.out.add (HAL.out.trans hA2)).met
 clear he hW1
 go_wp2_with (go_at_call 19;refine hn.mono ?_;rintro e w3 ⟨rfl,hE⟩)
 go_ret2
 exact ⟨HAL.out.trans (hA2.trans hE.add),.inr ⟨hB,rfl⟩⟩
end
section
open Go Go.RowKit
def alD:Dat:=.mk 11 0 0 ⟨#[]⟩ [] [.mk 3 5 0 ⟨#[]⟩ [] [],.mk 3 (-6) 0 ⟨#[]⟩ [] []]
theorem CU:alD.enc=[4,10,11,0]:=by
 unfold alD
 simp [Dat.enc,aB,kV,zig]
theorem JK:kP alD.enc=⟨#[4,10,11,0]⟩:=by
 rw [CU];rfl
theorem Ji:alD.rng:=by
 unfold alD
 rw [Dat.rng,aS,aS,aS,Dat.rng,Dat.rng,aS]
 exact ⟨by decide,by decide,by decide,(λs h=>by cases h),⟨by decide,by decide,by decide,(λs h=>by cases h),trivial⟩,⟨by decide,by decide,by decide,(λs h=>by cases h),trivial⟩,trivial⟩
theorem Ha:alD.shapedT:=by
 unfold alD
 rw [Dat.shapedT,aV,aV,aV,Dat.shapedT,Dat.shapedT,aV]
 exact ⟨by decide,by decide,(λs h=>by cases h),by decide,⟨by decide,by decide,(λs h=>by cases h),by decide,trivial⟩,⟨by decide,by decide,(λs h=>by cases h),by decide,trivial⟩,trivial⟩
theorem al_ok:DOk alD:=⟨Ha,Ji,by rw [CU];decide⟩
theorem Em:∃l,eZ (fH alS) 64 0 alD 0=some l:=⟨2,by kernel_rfl⟩
theorem al_dec:∃l,jt ⟨#[4,10,11,0]⟩ (fH alS) 64 0 0 0=some (alD,4,l):=by
 obtain ⟨l,hl⟩:=Em
 refine ⟨l,?_⟩
 have hk:∀n∈fH alS,1<=n.kind/\n.kind<=14:=by
  have:fH alS=[⟨11,ByteArray.empty,[],[],0,1,[]⟩,⟨3,ByteArray.empty,[],[],0,0,[]⟩]:=Kf
  intro n hn
  rw [this] at hn
  simp only [List.mem_cons,List.not_mem_nil,or_false] at hn
  rcases hn with rfl|rfl <;> decide
 have:=EO (kP alD.enc) (fH alS) hk 64 0 alD 0 0 l hl Ji ⟨[],by unfold kP;simp⟩ (NQ _)
 rw [NV,JK,CU] at this
 exact this
end
end Go.Proofs.YtmphmjkinmkidaaGreatDoor
