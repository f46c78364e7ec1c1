import Derived.Test.YtceinlbeeahkeaaGreatDoorS29
set_option linter.defProp false
open Go.Proofs.Tryz
set_option maxRecDepth 8000
set_option maxHeartbeats 4000000
namespace Go.Proofs.YtceinlbeeahkeaaGreatDoor
variable{p:Prop}
section
open Go Go.RowKit Go.Extern.Stop Go.Stop Go.Extern Go.Maps
variable{w w':World}{B m mm wb:Nat}{A ns:List ByteArray}{acc:List UInt8}
def Z58(h:p:=by
 have hkey:=Tryz.keyLaw.key (qH F hF)
 refine ⟨w',hrun,⟨_,by rw [List.length_append];exact r1,hD.put _ _,λs=>?_⟩,r2⟩
 rw [wO]
 by_cases hs:s=F
 ·subst hs
  rw [has_put_same hD hkey]
  simp
 exact Z259):p:=h
def nH(w:World)(m:Nat)(ns:List ByteArray):Prop:=∃D:DataW Unit,w.ownsMap prog 9 (plainElem prog 3) m ns.length D/\IsMap D/\∀s:ByteArray,Maps.has D (.string s.data.toList)=dU s ns
theorem nH.carry(h:nH w m ns)(hb:w'.heap[m]?=w.heap[m]?):nH w' m ns:=by
 obtain ⟨D,⟨es,clock,h0,F,hs,hD⟩,h2,h3⟩:=h
 exact ⟨D,⟨es,clock,hb.trans h0,F,hs,hD⟩,h2,h3⟩
theorem nH.lt(h:nH w m ns):m<w.heap.size:=by
 obtain ⟨D,hown,_⟩:=h
 exact hown.lt
theorem nH.look(h:nH w m ns)(F:ByteArray)(hF:F.size<=70368744177000):∃c:Int,∀W:World,W.heap[m]?=w.heap[m]? -> (Instr.lookup 74 (.map (some m)) (.string F) true).run prog W=.ok (.tuple #[.int .i64 c,.bool (dU F ns)]) W:=by
 obtain ⟨D,hown,hD,hhas⟩:=h
 have hex:∀W:World,W.heap[m]?=w.heap[m]? -> ∃c:Int,(Instr.lookup 74 (.map (some m)) (.string F) true).run prog W=.ok (.tuple #[.int .i64 c,.bool (dU F ns)]) W/\D.atKey (.string F.data.toList) (.lit (.int .i64 0))=.lit (.int .i64 c):=λW hW=>by
  exact Z44
 obtain ⟨c,_,hc⟩:=hex w rfl
 refine ⟨c,λW hW=>?_⟩
 exact Z189
theorem nH.put(h:nH w m ns)(F:ByteArray)(hF:F.size<=70368744177000)(hl:ns.length<=5000):∃x:Int,(∀W:World,W.heap[m]?=w.heap[m]? -> (Builtin.len_ #[74] 3 #[.map (some m)]).run prog W=.ok (.int .i64 x) W) /\
  ∀W:World,W.heap[m]?=w.heap[m]? -> ∃w',(Instr.mapUpdate 74 (.map (some m)) (.string F) (.int .i64 x)).run prog W=.ok () w'/\nH w' m (ns++[F])/\W.grownBy w' (some m):=by
 obtain ⟨D,⟨es,clock,h0,Ft,hs,hDD⟩,hD,hhas⟩:=h
 have hown:∀W:World,W.heap[m]?=w.heap[m]? -> W.ownsMap prog 9 (plainElem prog 3) m ns.length D:=λW hW=>⟨es,clock,hW.trans h0,Ft,hs,hDD⟩
 refine ⟨(Maps.size D:Nat),λW hW=>(hown W hW).len underlying74 3,λW hW=>?_⟩
 have hsz:=(hown W hW).size_le
 obtain ⟨w',hrun,r1,r2⟩:=(hown W hW).update Tryz.keyLaw underlying74 Ki (qH F hF) (plainElem_int underlying3 (a:=((Maps.size D:Nat):Int)) (WalkArith.wf_i64 Kc))
 exact Z58
structure Wr(B wb mm:Nat)(w:World)(acc:List UInt8)(A:List ByteArray):Prop where
 bld:Bld w B wb acc
 c2:w.cell? ⟨wb,2,none⟩=some (.map (some mm))
 map:nH w mm A
 ne:mm≠wb
 ge:B<=mm
structure Wk(B wb mm:Nat)(w w':World):Prop where
 os:w'.os=w.os
 output:w'.output=w.output
 size:w.heap.size<=w'.heap.size
 below:∀i,i<B->w'.heap[i]?=w.heap[i]?
 old:∀i,i<w.heap.size->i≠wb->i≠mm->nV w i->w'.heap[i]?=w.heap[i]?
theorem Wk.refl(B wb mm:Nat)(w:World):Wk B wb mm w w:=⟨rfl,rfl,NL _,λ_ _=>rfl,λ_ _ _ _ _=>rfl⟩
theorem Wk.trans{a c:World}(h:Wk B wb mm a w)(k:Wk B wb mm w c):Wk B wb mm a c:=
 ⟨k.os.trans h.os,k.output.trans h.output,NM h.size k.size,λi hi=>(k.below i hi).trans (h.below i hi),λi hi h1 h2 hn=>(k.old i (NK hi h.size) h1 h2 (by unfold nV;rw [h.old i hi h1 h2 hn];exact hn)).trans (h.old i hi h1 h2 hn)⟩
theorem Add.wk(h:Add w w')(hB:B<=w.heap.size):Wk B wb mm w w':=⟨h.os,h.output,h.size,λi hi=>h.old i Kc,λi hi _ _ _=>h.old i hi⟩
theorem Bk.wk(h:Bk B wb w w')(mm:Nat):Wk B wb mm w w':=⟨h.os,h.output,h.size,h.below,λi hi h1 _ hn=>h.old i hi h1 hn⟩
theorem nH.notU8(h:nH w m A):nV w m:=by
 obtain ⟨D,⟨es,clock,h0,_⟩,_⟩:=h
 intro cs fz e
 rw [h0] at e
 cases e
theorem Wr.lt(h:Wr B wb mm w acc A):wb<w.heap.size:=h.bld.lt
theorem Wr.base(h:Wr B wb mm w acc A):B<=w.heap.size:=Nat.le_of_lt (Nat.lt_of_le_of_lt h.bld.ge h.lt)
theorem Wr.add(h:Wr B wb mm w acc A)(a:Add w w'):Wr B wb mm w' acc A:=
 ⟨h.bld.keep λi _ hi=>a.old i hi,a.cell h.c2,h.map.carry (a.old mm h.map.lt),h.ne,h.ge⟩
theorem Wr.bk{acc':List UInt8}(h:Wr B wb mm w acc A)(b:Bld w' B wb acc')(k:Bk B wb w w'):Wr B wb mm w' acc' A:=
 ⟨b,(k.rest 2 (NL _)).1.trans h.c2,h.map.carry (k.old mm h.map.lt h.ne h.map.notU8),h.ne,h.ge⟩
def CwP(B wb mm:Nat)(w:World)(acc:List UInt8)(A:List ByteArray)(e:Ending)(w':World):Prop:=e=.returned (.tuple #[])/\Wr B wb mm w' acc A/\Wk B wb mm w w'
def fu:List ByteArray->List UInt8
 |[]=>[]
 |s::r=>s.data.toList++fu r
theorem Bw:∀a b:List ByteArray,fu (a++b)=fu a++fu b
 |[],b=>rfl
 |s::a,b=>by rw [List.cons_append,fu,fu,Bw a b,List.append_assoc]
theorem FQ(l:List ByteArray)(j:Nat)(h:j<l.length):fu (l.take (j+1))=fu (l.take j)++l[j].data.toList:=by
 rw [List.take_add_one,NP h,Option.toList_some,Bw]
 simp [fu]
theorem Aa:∀(l:List ByteArray) (j:Nat),(fu (l.take j)).length<=(fu l).length
 |[],j=>by simp
 |s::r,0=>by simp [fu]
 |s::r,j+1=>by
  have:=Aa r j
  simp [fu]
  omega
theorem Ci:∀(l:List ByteArray),∀x∈l,x.size<=(fu l).length
 |[],x,h=>by cases h
 |s::r,x,h=>by
  rw [fu,List.length_append]
  rcases List.mem_cons.1 h with rfl|h
  ·have:x.data.toList.length=x.size:=Kh
   omega
  have:=Ci r x h
  omega
def EU(wb mm:Nat)(w:World)(b:Nat)(l:List ByteArray):Prop:=b≠wb/\b≠mm/\b<w.heap.size/\nV w b/\∀i (h:i<l.length),w.cell? ⟨b,i,none⟩=some (.string l[i])
theorem EZ(hW:Wr B wb mm w acc A)(b:Nat)(l:List ByteArray)(hT:EU wb mm w b l)(hl:l.length<=3)(hlen:acc.length+(fu l).length<=10000000000000):
  Calls prog 40 #[.pointer (some ⟨wb,0,none⟩),.slice (some ⟨b,0,none⟩) l.length l.length] w λe w'=>CwP B wb mm w (acc++fu l) A e w':=by
 obtain ⟨hb1,hb2,hb3,hb4,hT⟩:=hT
 have HW:=bf hW
 have HB:=bf hb1
 have HB2:=bf hb2
 have HU:=bf hb4
 have HB3:=bf hb3
 obtain ⟨N,hN⟩:=Y55
 rw [hN] at hl ⊢
 have HN:=bf hN
 have HL:=bf hlen
 have H3:=bf hl
 clear hb1 hb2 hb3 hb4 hN hlen hl
 go_enter func40,ntmps40
 go_wp2
 go_loopw [8] (λcnt wr=>∃j:Nat,j<=N/\cnt=.int .i64 j/\Wr B wb mm wr (acc++fu (l.take j)) A/\Wk B wb mm w wr) (λcnt _=>N-(intOf cnt).toNat)
 case atStart=>exact ⟨0,NQ _,rfl,by simpa [fu] using hW,Wk.refl _ _ _ _⟩
 obtain ⟨j,hj,rfl,hr,hk⟩:=hrel
 clear hW
 by_cases hlt:j<N
 ·have hlt':j<l.length:=KC
  have ji:=Y51
  have j0:=Y52
  have j1:=Y53
  have j3:j<=3:=by have:=H3.out;omega
  have hc:=(NY (a:=⟨b,j,none⟩) (hk.old b HB3.out HB.out HB2.out HU.out)).trans (hT j hlt')
  have hlj:=Aa l (j+1)
  have hle:=Aa l j
  have hws:=yO hr.bld l[j] (by have:=HL.out;rw [List.length_append];omega) (by have:=HL.out;have:=Ci l l[j] (NS hlt');omega)
  have e:=FQ l j hlt'
  rw [List.append_assoc,<-e] at hws
  clear e
  generalize l[j]=x at hc hws
  have HR:=bf hr
  have HK:=bf hk
  clear hr hk hlj hle
  go_wp2_with (go_at_call 64;refine hws.mono ?_;rintro e w2 ⟨⟨v,rfl⟩,hb2,hk2⟩)
  go_roundw
  case rel=>exact ⟨j+1,by omega,by go_num,HR.out.bk hb2 hk2,HK.out.trans (hk2.wk mm)⟩
  simp only [intOf];exact oK hlt
 have ji:=Y54
 have HR:=bf hr
 have HK:=bf hk
 obtain rfl:j=N:=Kc
 clear hr hk
 go_wp2
 go_end0
 exact ⟨rfl,by have:=HR.out;rwa [<-HN.out,List.take_length] at this,HK.out⟩
def qS(n:ByteArray):ByteArray:=⟨(qB n).toArray⟩
theorem qS_eq(n:ByteArray):qS n=(ByteArray.mk #[34])++n++(ByteArray.mk #[34]):=by
 apply jP
 unfold qS qB
 simp
theorem rF(n:ByteArray)(w:World)(hn:n.size<=10000000000000):
  Calls prog 44 #[.string n] w λe w'=>e=.returned (.string (qS n))/\w'=w:=by
 have h1:(9223372036854775807<1+n.size)=False:=eq_false Kc
 have h2:(9223372036854775807<1+n.size+1)=False:=eq_false Kc
 go_enter func44,ntmps44
 go_wp2
 go_ret
 exact ⟨congrArg (λs=>Ending.returned (.string s)) (qS_eq n).symm,rfl⟩
end
section
open Go Go.RowKit Go.Extern.Stop Go.Stop Go.Extern
def Y123(h:p:=by exact (EZ (hr.add (ae wr (.cells #[.string ⟨#[44]⟩] 9 (0,0)))) wr.heap.size [⟨#[44]⟩] hT Kh (by rw [et] at hle1;have:=HLEN.out;simp [fu] at hle1 ⊢;omega))):p:=h
def Y124(h:p:=by exact (HIT.out j hlt' wr _ hr hk (by have h2:=HLEN.out;rw [et] at hle1;simp at hle1 ⊢;omega))):p:=h
def Z70(h:p:=by
 have ji:=Y54
 have HR:=bf hr
 have HK:=bf hk
 obtain rfl:j=N:=Kc
 clear hr hk
 go_wp2
 go_end0
 exact ⟨rfl,by have:=HR.out;rwa [<-HL.out,List.take_length,HL.out] at this,HK.out⟩):p:=h
def Z80(h:p:=by
 intro j
 induction hd:ts.length-j generalizing j with
 |zero=>rw [List.take_of_length_le Kc];exact NL _
 |succ n ih=>
  refine NM ?_ (ih (j+1) Kc)
  rw [sV ts j Kc]
  simp):p:=h
def Z82(h:p:=by
 go_roundw
 case rel=>exact ⟨j+1,by omega,by go_num,by rw [HE.out];simpa [fu] using hr3,HK.out.trans (((ae _ _).wk HR.out.base).trans (HK2.out.trans hk3))⟩
 simp only [intOf];exact oK hlt):p:=h
def Z104(h:p:=by
 go_roundw
 case rel=>exact ⟨j+1,by omega,by go_num,by rw [HE.out];simpa using hr3,HK.out.trans hk3⟩
 simp only [intOf];exact oK hlt):p:=h
theorem qu{B wb mm:Nat}{w:World}{acc:List UInt8}{A:List ByteArray}(hW:Wr B wb mm w acc A)(l:List ByteArray):EU wb mm (w.alloc (.cells (l.map Value.string).toArray 9 (0,0))) w.heap.size l:=by
 have hb:=dD w (.cells (l.map Value.string).toArray 9 (0,0))
 have h1:=hW.lt
 have h2:=hW.map.lt
 refine ⟨by omega,by omega,by rw [dE];omega,λcs fz e=>?_,λi hi=>?_⟩
 ·rw [hb] at e
  simp at e
 unfold World.cell?
 rw [hb]
 simp [hi]
theorem list_un{B wb mm:Nat}(c1 c2:Value)(N:Nat)(hN:N<=12)(ts:List J)(hL:ts.length=N)(nm:Nat->List ByteArray){acc:List UInt8}{w:World}(hW:Wr B wb mm w acc (nm 0))(hlen:acc.length+(jBs true ts).length<=10000000000000)
  (hit:∀j (h:j<ts.length) W acc',Wr B wb mm W acc' (nm j)->Wk B wb mm w W->acc'.length+(jB ts[j]).length<=10000000000000->Calls prog 42 #[.int .i64 j,c1,c2] W λe w'=>CwP B wb mm W (acc'++jB ts[j]) (nm (j+1)) e w'):
  Calls prog 41 #[.pointer (some ⟨wb,0,none⟩),.int .i64 N,.func (.func 42) #[] #[c1,c2]] w λe w'=>CwP B wb mm w (acc++jBs true ts) (nm N) e w':=by
 have HL:=bf hL
 have HLEN:=bf hlen
 have HN:=bf hN
 have HIT:=bf hit
 have hle:∀j,(jBs true (ts.take j)).length<=(jBs true ts).length:=by
  exact Z80
 have HLE:=bf hle
 clear hle hlen hL hit hN
 go_enter func41,ntmps41
 go_wp2
 go_loopw [8] (λcnt wr=>∃j:Nat,j<=N/\cnt=.int .i64 j/\Wr B wb mm wr (acc++jBs true (ts.take j)) (nm j)/\Wk B wb mm w wr) (λcnt _=>N-(intOf cnt).toNat)
 case atStart=>exact ⟨0,NQ _,rfl,by simpa [jBs] using hW,Wk.refl _ _ _ _⟩
 obtain ⟨j,hj,rfl,hr,hk⟩:=hrel
 clear hW
 by_cases hlt:j<N
 ·have hlt':j<ts.length:=Nl
  have ji:=Y51
  have j12:j<=12:=LP
  have et:=sV ts j hlt'
  have hle1:=HLE.out (j+1)
  have HR:=bf hr
  have HK:=bf hk
  by_cases hp:0<j
  ·have hp':(0<j)=True:=eq_true hp
   rw [if_pos hp] at et
   have hT:=qu hr [⟨#[44]⟩]
   have hpt:=Y123
   have HE:=bf et
   have HL1:=bf hle1
   clear hr hk et hle1 hT hp
   go_wp2_with (first
    |(go_at_call 40;refine hpt.mono ?_;rintro e w2 ⟨rfl,hr2,hk2⟩;have HR2:=bf hr2;have HK2:=bf hk2;have hitm:=HIT.out j hlt' w2 _ hr2 (HK.out.trans (((ae _ _).wk HR.out.base).trans hk2)) KG;clear hr2 hk2)
    |(go_at_call 42;refine hitm.mono ?_;rintro e w3 ⟨rfl,hr3,hk3⟩))
   exact Z82
  have hp':(0<j)=False:=eq_false hp
  rw [if_neg hp] at et
  have hitm:=Y124
  have HE:=bf et
  clear hr hk et hle1 hp
  go_wp2_with (go_at_call 42;refine hitm.mono ?_;rintro e w3 ⟨rfl,hr3,hk3⟩)
  exact Z104
 exact Z70
theorem Ic{B wb mm:Nat}(c1 c2:Value)(N:Nat)(hN:N<=12)(ts:List J)(hL:ts.length=N)(nm:Nat->List ByteArray){acc:List UInt8}{w:World}(hW:Wr B wb mm w acc (nm 0))(hlen:acc.length+(jBs true ts).length<=10000000000000)
  (hit:∀j (h:j<ts.length) W acc',Wr B wb mm W acc' (nm j)->Wk B wb mm w W->acc'.length+(jB ts[j]).length<=10000000000000->Calls prog 65 #[.int .i64 j,c1,c2] W λe w'=>CwP B wb mm W (acc'++jB ts[j]) (nm (j+1)) e w'):
  Calls prog 41 #[.pointer (some ⟨wb,0,none⟩),.int .i64 N,.func (.func 65) #[] #[c1,c2]] w λe w'=>CwP B wb mm w (acc++jBs true ts) (nm N) e w':=by
 have HL:=bf hL
 have HLEN:=bf hlen
 have HN:=bf hN
 have HIT:=bf hit
 have hle:∀j,(jBs true (ts.take j)).length<=(jBs true ts).length:=by
  exact Z80
 have HLE:=bf hle
 clear hle hlen hL hit hN
 go_enter func41,ntmps41
 go_wp2
 go_loopw [8] (λcnt wr=>∃j:Nat,j<=N/\cnt=.int .i64 j/\Wr B wb mm wr (acc++jBs true (ts.take j)) (nm j)/\Wk B wb mm w wr) (λcnt _=>N-(intOf cnt).toNat)
 case atStart=>exact ⟨0,NQ _,rfl,by simpa [jBs] using hW,Wk.refl _ _ _ _⟩
 obtain ⟨j,hj,rfl,hr,hk⟩:=hrel
 clear hW
 by_cases hlt:j<N
 ·have hlt':j<ts.length:=Nl
  have ji:=Y51
  have j12:j<=12:=LP
  have et:=sV ts j hlt'
  have hle1:=HLE.out (j+1)
  have HR:=bf hr
  have HK:=bf hk
  by_cases hp:0<j
  ·have hp':(0<j)=True:=eq_true hp
   rw [if_pos hp] at et
   have hT:=qu hr [⟨#[44]⟩]
   have hpt:=Y123
   have HE:=bf et
   have HL1:=bf hle1
   clear hr hk et hle1 hT hp
   go_wp2_with (first
    |(go_at_call 40;refine hpt.mono ?_;rintro e w2 ⟨rfl,hr2,hk2⟩;have HR2:=bf hr2;have HK2:=bf hk2;have hitm:=HIT.out j hlt' w2 _ hr2 (HK.out.trans (((ae _ _).wk HR.out.base).trans hk2)) KG;clear hr2 hk2)
    |(go_at_call 65;refine hitm.mono ?_;rintro e w3 ⟨rfl,hr3,hk3⟩))
   exact Z82
  have hp':(0<j)=False:=eq_false hp
  rw [if_neg hp] at et
  have hitm:=Y124
  have HE:=bf et
  clear hr hk et hle1 hp
  go_wp2_with (go_at_call 65;refine hitm.mono ?_;rintro e w3 ⟨rfl,hr3,hk3⟩)
  exact Z104
 exact Z70
theorem IC{B wb mm:Nat}(c1 c2:Value)(N:Nat)(hN:N<=12)(ts:List J)(hL:ts.length=N)(nm:Nat->List ByteArray){acc:List UInt8}{w:World}(hW:Wr B wb mm w acc (nm 0))(hlen:acc.length+(jBs true ts).length<=10000000000000)
  (hit:∀j (h:j<ts.length) W acc',Wr B wb mm W acc' (nm j)->Wk B wb mm w W->acc'.length+(jB ts[j]).length<=10000000000000->Calls prog 67 #[.int .i64 j,c1,c2] W λe w'=>CwP B wb mm W (acc'++jB ts[j]) (nm (j+1)) e w'):
  Calls prog 41 #[.pointer (some ⟨wb,0,none⟩),.int .i64 N,.func (.func 67) #[] #[c1,c2]] w λe w'=>CwP B wb mm w (acc++jBs true ts) (nm N) e w':=by
 have HL:=bf hL
 have HLEN:=bf hlen
 have HN:=bf hN
 have HIT:=bf hit
 have hle:∀j,(jBs true (ts.take j)).length<=(jBs true ts).length:=by
  exact Z80
 have HLE:=bf hle
 clear hle hlen hL hit hN
 go_enter func41,ntmps41
 go_wp2
 go_loopw [8] (λcnt wr=>∃j:Nat,j<=N/\cnt=.int .i64 j/\Wr B wb mm wr (acc++jBs true (ts.take j)) (nm j)/\Wk B wb mm w wr) (λcnt _=>N-(intOf cnt).toNat)
 case atStart=>exact ⟨0,NQ _,rfl,by simpa [jBs] using hW,Wk.refl _ _ _ _⟩
 obtain ⟨j,hj,rfl,hr,hk⟩:=hrel
 clear hW
 by_cases hlt:j<N
 ·have hlt':j<ts.length:=Nl
  have ji:=Y51
  have j12:j<=12:=LP
  have et:=sV ts j hlt'
  have hle1:=HLE.out (j+1)
  have HR:=bf hr
  have HK:=bf hk
  by_cases hp:0<j
  ·have hp':(0<j)=True:=eq_true hp
   rw [if_pos hp] at et
   have hT:=qu hr [⟨#[44]⟩]
   have hpt:=Y123
   have HE:=bf et
   have HL1:=bf hle1
   clear hr hk et hle1 hT hp
   go_wp2_with (first
    |(go_at_call 40;refine hpt.mono ?_;rintro e w2 ⟨rfl,hr2,hk2⟩;have HR2:=bf hr2;have HK2:=bf hk2;have hitm:=HIT.out j hlt' w2 _ hr2 (HK.out.trans (((ae _ _).wk HR.out.base).trans hk2)) KG;clear hr2 hk2)
    |(go_at_call 67;refine hitm.mono ?_;rintro e w3 ⟨rfl,hr3,hk3⟩))
   exact Z82
  have hp':(0<j)=False:=eq_false hp
  rw [if_neg hp] at et
  have hitm:=Y124
  have HE:=bf et
  clear hr hk et hle1 hp
  go_wp2_with (go_at_call 67;refine hitm.mono ?_;rintro e w3 ⟨rfl,hr3,hk3⟩)
  exact Z104
 exact Z70
end
section
open Go Go.RowKit Go.Extern.Stop Go.Stop Go.Extern
variable{B mm wb:Nat}{w:World}{acc:List UInt8}{A:List ByteArray}
def Y125(h:p:=by exact ((ae w (.cells #[.pointer (some ⟨wb,0,none⟩)] 73 (0,0))).trans (ae _ (.cells #[.pointer (some ⟨b,0,none⟩)] 53 (0,0))))):p:=h
def Y126(h:p:=by exact (hal.cell ((hO.cell hlt).trans hn))):p:=h
def Y127(h:p:=by exact (hW1.map.look n Kc)):p:=h
def Y128(h:p:=by exact (λW=>rF n W Kc)):p:=h
structure Bx(wb mm b:Nat)(w:World)(B2 B3:Nat):Prop where
 c2:w.cell? ⟨B2,0,none⟩=some (.pointer (some ⟨wb,0,none⟩))
 c3:w.cell? ⟨B3,0,none⟩=some (.pointer (some ⟨b,0,none⟩))
 u2:nV w B2
 u3:nV w B3
 l2:B2<w.heap.size
 l3:B3<w.heap.size
 d2:B2≠wb/\B2≠mm
 d3:B3≠wb/\B3≠mm
theorem Bx.wk{b:Nat}{w':World}{B2 B3:Nat}(h:Bx wb mm b w B2 B3)(k:Wk B wb mm w w'):Bx wb mm b w' B2 B3:=by
 have e2:=k.old B2 h.l2 h.d2.1 h.d2.2 h.u2
 have e3:=k.old B3 h.l3 h.d3.1 h.d3.2 h.u3
 exact ⟨(NY (a:=⟨B2,0,none⟩) e2).trans h.c2,(NY (a:=⟨B3,0,none⟩) e3).trans h.c3,by unfold nV;rw [e2];exact h.u2,by unfold nV;rw [e3];exact h.u3,NK h.l2 k.size,NK h.l3 k.size,h.d2,h.d3⟩
theorem Bx.new(hW:Wr B wb mm w acc A)(b:Nat):Bx wb mm b ((w.alloc (.cells #[.pointer (some ⟨wb,0,none⟩)] 73 (0,0))).alloc (.cells #[.pointer (some ⟨b,0,none⟩)] 53 (0,0))) w.heap.size (w.heap.size+1):=by
 have h1:=hW.lt
 have h2:=hW.map.lt
 have s1:=dE w (.cells #[.pointer (some ⟨wb,0,none⟩)] 73 (0,0))
 have b1:=dD w (.cells #[.pointer (some ⟨wb,0,none⟩)] 73 (0,0))
 generalize w.alloc (.cells #[.pointer (some ⟨wb,0,none⟩)] 73 (0,0))=G at *
 have s2:=dE G (.cells #[.pointer (some ⟨b,0,none⟩)] 53 (0,0))
 have b2:=dD G (.cells #[.pointer (some ⟨b,0,none⟩)] 53 (0,0))
 have b3:=((ae G (.cells #[.pointer (some ⟨b,0,none⟩)] 53 (0,0))).old w.heap.size Kc).trans b1
 rw [s1] at b2
 generalize G.alloc (.cells #[.pointer (some ⟨b,0,none⟩)] 53 (0,0))=H at *
 refine ⟨by unfold World.cell?;rw [b3];rfl,by unfold World.cell?;rw [b2];rfl,λcs fz e=>?_,λcs fz e=>?_,by omega,by omega,⟨by omega,by omega⟩,⟨by omega,by omega⟩⟩
 ·rw [b3] at e;simp at e
 rw [b2] at e;simp at e
theorem qE(hW:Wr B wb mm w acc A)(l:List ByteArray)(hl:l.length<=3)(hlen:acc.length+(fu l).length<=10000000000000):
  Calls prog 40 #[.pointer (some ⟨wb,0,none⟩),.slice (some ⟨w.heap.size,0,none⟩) l.length l.length] (w.alloc (.cells (l.map Value.string).toArray 9 (0,0))) λe w'=>CwP B wb mm w (acc++fu l) A e w':=by
 refine (EZ (hW.add (ae _ _)) w.heap.size l (qu hW l) hl hlen).mono ?_
 rintro e w' ⟨h1,h2,h3⟩
 exact ⟨h1,h2,((ae _ _).wk hW.base).trans h3⟩
theorem gJ(n:ByteArray):(qS n).data.toList=qB n:=by unfold qS;simp
theorem Wk.oldL{w' wL:World}(k:Wk B wb mm w w')(hO:Old wL w)(hB:B=wL.heap.size):Old wL w':=⟨NM hO.size k.size,λi hi=>(k.below i Kc).trans (hO.old i hi)⟩
theorem Gy{b:Nat}{wL:World}{n:ByteArray}(hW:Wr B wb mm w acc A)(hO:Old wL w)(hBL:B=wL.heap.size)(hlt:b<wL.heap.size)(hn:wL.cell? ⟨b,1,none⟩=some (.string n))(hin:dU n A=true)(hz:n.size<=3000000)(hlen:acc.length+(qB n).length<=10000000000000):
  Calls prog 43 #[.pointer (some ⟨wb,0,none⟩),.pointer (some ⟨b,0,none⟩)] w λe w'=>CwP B wb mm w (acc++qB n) A e w':=by
 have hal:=Y125
 have hbx:=Bx.new hW b
 have HB:=bf hW.base
 go_enter func43,ntmps43
 go_upto_region 1 with fail
 generalize (w.alloc (.cells #[.pointer (some ⟨wb,0,none⟩)] 73 (0,0))).alloc (.cells #[.pointer (some ⟨b,0,none⟩)] 53 (0,0))=w1 at *
 have hW1:=hW.add hal
 have n1:=Y126
 have m2:=hW1.c2
 have q2:=hbx.c2
 have q3:=hbx.c3
 obtain ⟨c,hlook⟩:=Y127
 rw [hin] at hlook
 have hlk:=hlook w1 rfl
 have hlk1:=hlook w1.drew rfl
 have hqu:=Y128
 have HAL:=bf hal
 have HW1:=bf hW1
 have hpt:=qE (hW1.add ((af w1).trans (af w1.drew))) [qS n] Kh MZ
 have hk0:Wk B wb mm w1 w1.drew.drew:=((af w1).trans (af w1.drew)).wk hW1.base
 have HBX:=bf (hbx.wk hk0)
 have HK0:=bf ((hal.wk hW.base).trans hk0)
 have HO2:=bf (hk0.oldL (hO.trans (Old.add hal)) hBL)
 have HN:=bf hn
 have HLT:=bf hlt
 have HBL:=bf hBL
 clear hlook hbx hal hW hO hn hW1 hin hz hlen hk0
 go_cut [4,5] (λs4 s5 wx=>s4=.int .i64 c/\s5=.bool true/\wx=w1.drew)
 case first=>
  exact Z192
 obtain ⟨rfl,rfl,rfl⟩:=hcut
 go_upto_region 3 with fail
 go_region_held_law (λw'=>w'.cell? ⟨w.heap.size,0,none⟩=some (.pointer (some ⟨wb,0,none⟩))/\w'.cell? ⟨w.heap.size+1,0,none⟩=some (.pointer (some ⟨b,0,none⟩))/\w'.cell? ⟨b,1,none⟩=some (.string n)) (first|(with_reducible exact ⟨k2,k3,kn⟩)|(with_reducible exact ⟨q2,q3,n1⟩)|go_keep)
  (first
  |(go_at_call 44;refine (hqu _).mono ?_;rintro e w2 ⟨rfl,rfl⟩)
  |(go_at_call 40;refine hpt.mono ?_;rintro e w2 ⟨rfl,hr2,hk2⟩;have hb2:=HBX.out.wk hk2;have k2:=hb2.c2;have k3:=hb2.c3;have kn:=((hk2.oldL HO2.out HBL.out).cell HLT.out).trans HN.out;have HR2:=bf hr2;have HK2:=bf hk2;clear hr2 hk2 hb2))
 all_goals go_wp2
 all_goals go_end0
 all_goals exact ⟨rfl,by have:=HR2.out;simpa [fu,gJ] using this,HK0.out.trans HK2.out⟩
end
section
open Go Go.RowKit Go.Extern.Stop Go.Stop Go.Extern
def WOk(B wb mm:Nat)(wL:World)(s:Sch)(b:Nat)(A:List ByteArray):Prop:=∀(acc:List UInt8) (w:World),Wr B wb mm w acc A->Old wL w->acc.length+(jB (jOf s)).length<=10000000000000 ->
 Calls prog 28 #[.pointer (some ⟨wb,0,none⟩),.pointer (some ⟨b,0,none⟩)] w λe w'=>CwP B wb mm w (acc++jB (jOf s)) (A++(dM s).map Prod.fst) e w'
theorem jBf_len(fn:ByteArray)(s:Sch):(jB (fJ fn s)).length=(qB fn).length+(jB (jOf s)).length+17:=by
 rw [xI]
 simp [jo,Cm]
 omega
theorem jBf_cat(acc:List UInt8)(fn:ByteArray)(s:Sch):acc++fu [⟨#[123,34,110,97,109,101,34,58]⟩,qS fn,⟨#[44,34,116,121,112,101,34,58]⟩]++jB (jOf s)++fu [⟨#[125]⟩]=acc++jB (fJ fn s):=by
 rw [xI]
 simp [fu,gJ,jo,Cm]
theorem field_w{B wb mm kb:Nat}{w wL:World}{acc:List UInt8}{A:List ByteArray}{s:Sch}(hk:WOk B wb mm wL s kb A)(hW:Wr B wb mm w acc A)(hO:Old wL w)(hBL:B=wL.heap.size)(fn:ByteArray)(aa:Option Addr)(al ac:Nat)(k i:Int)(t:ByteArray)(a na:Option Addr)(l c nl nc:Nat)(m:Option Nat)(d:Bool)(hz:fn.size<=3000000)(hlen:acc.length+(jB (fJ fn s)).length<=10000000000000):
  Calls prog 66 #[.pointer (some ⟨wb,0,none⟩),.agg (fcs fn aa al ac kb k i t a na l c nl nc m d).toArray] w λe w'=>CwP B wb mm w (acc++jB (fJ fn s)) (A++(dM s).map Prod.fst) e w':=by
 unfold fcs
 have hal:=ae w (.cells #[.string fn,.slice aa al ac,.pointer (some ⟨kb,0,none⟩),.int .i64 k,.int .i64 i,.string t,.slice a l c,.slice na nl nc,.map m,.bool d] 150 (0,0))
 have hb:=dD w (.cells #[.string fn,.slice aa al ac,.pointer (some ⟨kb,0,none⟩),.int .i64 k,.int .i64 i,.string t,.slice a l c,.slice na nl nc,.map m,.bool d] 150 (0,0))
 have hln:=jBf_len fn s
 have HLN:=bf hln
 have HLEN:=bf hlen
 go_enter func66,ntmps66
 go_upto_region 1 with fail
 generalize w.alloc (.cells #[.string fn,.slice aa al ac,.pointer (some ⟨kb,0,none⟩),.int .i64 k,.int .i64 i,.string t,.slice a l c,.slice na nl nc,.map m,.bool d] 150 (0,0))=w1 at *
 have hW1:=hW.add hal
 have hU:nV w1 w.heap.size:=λcs fz e=>by rw [hb] at e;simp at e
 have HU:=bf hU
 have HB:=bf hb
 have HL:=bf (Oh hb).1
 have HNE:Hid (w.heap.size≠wb/\w.heap.size≠mm):=⟨NR hW.lt,NR hW.map.lt⟩
 have f0:=(dN hb).1
 have hqu:=λW=>rF fn W Kc
 have hpt:=qE hW1 [⟨#[123,34,110,97,109,101,34,58]⟩,qS fn,⟨#[44,34,116,121,112,101,34,58]⟩] Kh (by simp [fu,gJ];omega)
 have HK0:=bf (hal.wk (wb:=wb) (mm:=mm) hW.base)
 have HO1:=bf (hO.trans (Old.add hal))
 have HK:=bf hk
 have HBL:=bf hBL
 clear hU hal hW hO hW1 hb hk hln hlen hz
 go_wp2_with (first
  |(go_at_call 44;refine (hqu _).mono ?_;rintro e w2 ⟨rfl,rfl⟩)
  |(go_at_call 28;refine hsc.mono ?_;rintro e w4 ⟨rfl,hr4,hk4⟩;have hpu:=qE hr4 [⟨#[125]⟩] Kh Lu;have HK4:=bf hk4;clear hr4 hk4)
  |(go_at_call 40;refine hpu.mono ?_;rintro e w5 ⟨rfl,hr5,hk5⟩)
  |(go_at_call 40;refine hpt.mono ?_;rintro e w3 ⟨rfl,hr3,hk3⟩;have f2:=(dN ((hk3.old _ HL.out HNE.out.1 HNE.out.2 HU.out).trans HB.out)).2.2.1;have hsc:=HK.out _ w3 hr3 (hk3.oldL HO1.out HBL.out) Lu;have HK3:=bf hk3;clear hr3 hk3))
 go_end0
 exact ⟨rfl,by rw [jBf_cat] at hr5;exact hr5,HK0.out.trans (HK3.out.trans (HK4.out.trans hk5))⟩
def Y129(h:p:=by exact (show Hid (Wk B wb mm w w.drew) from (af w).wk hW.base)):p:=h
theorem clo_un{B wb mm b B2 B3 g o cp N j kb:Nat}{w wL:World}{acc:List UInt8}{A:List ByteArray}{s:Sch}(hk:WOk B wb mm wL s kb A)(hbx:Bx wb mm b w B2 B3)(hW:Wr B wb mm w acc A)(hO:Old wL w)(hBL:B=wL.heap.size)(hlt:b<wL.heap.size)(h8:wL.cell? ⟨b,8,none⟩=some (.slice (some ⟨g,o,none⟩) N cp))(hg:g<wL.heap.size)(hj:j<N)(hc:wL.cell? ⟨g,o+j,none⟩=some (.pointer (some ⟨kb,0,none⟩)))(hlen:acc.length+(jB (jOf s)).length<=10000000000000):
  Calls prog 42 #[.int .i64 j,.pointer (some ⟨B2,0,none⟩),.pointer (some ⟨B3,0,none⟩)] w λe w'=>CwP B wb mm w (acc++jB (jOf s)) (A++(dM s).map Prod.fst) e w':=by
 have q2:=hbx.c2
 have q3:=hbx.c3
 have q8:=(hO.cell hlt).trans h8
 have qc:=(hO.cell hg).trans hc
 have j0:=Y52
 have j1:=Y53
 have HBX:=bf hbx
 have HO:=bf hO
 have HBL:=bf hBL
 have H8:Hid (b<wL.heap.size/\wL.cell? ⟨b,8,none⟩=some (.slice (some ⟨g,o,none⟩) N cp)/\g<wL.heap.size/\wL.cell? ⟨g,o+j,none⟩=some (.pointer (some ⟨kb,0,none⟩))):=⟨hlt,h8,hg,hc⟩
 have hsc:=hk acc w.drew (hW.add (af w)) (hO.trans (Old.drew w)) hlen
 have HK0:=Y129
 clear hk hbx hW hO hlt h8 hg hc hlen hBL
 go_enter func42,ntmps42
 go_upto_region 0 with fail
 go_region_held_law (λw'=>w'.cell? ⟨B2,0,none⟩=some (.pointer (some ⟨wb,0,none⟩))/\w'.cell? ⟨B3,0,none⟩=some (.pointer (some ⟨b,0,none⟩))/\w'.cell? ⟨b,8,none⟩=some (.slice (some ⟨g,o,none⟩) N cp)/\w'.cell? ⟨g,o+j,none⟩=some (.pointer (some ⟨kb,0,none⟩))) (first|(with_reducible exact ⟨k2,k3,k8,kc⟩)|(with_reducible exact ⟨q2,q3,q8,qc⟩)|go_keep)
  (first
  |(go_at_call 28;refine hsc.mono ?_;rintro e w2 ⟨rfl,hr2,hk2⟩;have hb2:=HBX.out.wk (HK0.out.trans hk2);have ho2:=(HK0.out.trans hk2).oldL HO.out HBL.out;have k2:=hb2.c2;have k3:=hb2.c3;have k8:=(ho2.cell H8.out.1).trans H8.out.2.1;have kc:=(ho2.cell H8.out.2.2.1).trans H8.out.2.2.2;have HR2:=bf hr2;have HK2:=bf hk2;clear hr2 hk2 hb2 ho2))
 all_goals go_wp2
 all_goals go_end0
 all_goals exact ⟨rfl,HR2.out,HK0.out.trans HK2.out⟩
theorem clo_enu{B wb mm b B2 B3 g o cp N j:Nat}{w wL:World}{acc:List UInt8}{A:List ByteArray}{n:ByteArray}(hbx:Bx wb mm b w B2 B3)(hW:Wr B wb mm w acc A)(hO:Old wL w)(hBL:B=wL.heap.size)(hlt:b<wL.heap.size)(h8:wL.cell? ⟨b,4,none⟩=some (.slice (some ⟨g,o,none⟩) N cp))(hg:g<wL.heap.size)(hj:j<N)(hc:wL.cell? ⟨g,o+j,none⟩=some (.string n))(hz:n.size<=3000000)(hlen:acc.length+(jB (.str n)).length<=10000000000000):
  Calls prog 67 #[.int .i64 j,.pointer (some ⟨B2,0,none⟩),.pointer (some ⟨B3,0,none⟩)] w λe w'=>CwP B wb mm w (acc++jB (.str n)) A e w':=by
 rw [jB] at hlen ⊢
 have q2:=hbx.c2
 have q3:=hbx.c3
 have q8:=(hO.cell hlt).trans h8
 have qc:=(hO.cell hg).trans hc
 have j0:=Y52
 have j1:=Y53
 have HBX:=bf hbx
 have HO:=bf hO
 have HBL:=bf hBL
 have H8:Hid (b<wL.heap.size/\wL.cell? ⟨b,4,none⟩=some (.slice (some ⟨g,o,none⟩) N cp)/\g<wL.heap.size/\wL.cell? ⟨g,o+j,none⟩=some (.string n)):=⟨hlt,h8,hg,hc⟩
 have hqu:=Y128
 have hpt:=qE (hW.add (af w)) [qS n] Kh MZ
 have HK0:=Y129
 clear hbx hW hO hlt h8 hg hc hlen hBL hz
 go_enter func67,ntmps67
 go_upto_region 0 with fail
 go_region_held_law (λw'=>w'.cell? ⟨B2,0,none⟩=some (.pointer (some ⟨wb,0,none⟩))/\w'.cell? ⟨B3,0,none⟩=some (.pointer (some ⟨b,0,none⟩))/\w'.cell? ⟨b,4,none⟩=some (.slice (some ⟨g,o,none⟩) N cp)/\w'.cell? ⟨g,o+j,none⟩=some (.string n)) (first|(with_reducible exact ⟨k2,k3,k8,kc⟩)|(with_reducible exact ⟨q2,q3,q8,qc⟩)|go_keep)
  (first
  |(go_at_call 44;refine (hqu _).mono ?_;rintro e w2 ⟨rfl,rfl⟩)
  |(go_at_call 40;refine hpt.mono ?_;rintro e w2 ⟨rfl,hr2,hk2⟩;have hb2:=HBX.out.wk (HK0.out.trans hk2);have ho2:=(HK0.out.trans hk2).oldL HO.out HBL.out;have k2:=hb2.c2;have k3:=hb2.c3;have k8:=(ho2.cell H8.out.1).trans H8.out.2.1;have kc:=(ho2.cell H8.out.2.2.1).trans H8.out.2.2.2;have HR2:=bf hr2;have HK2:=bf hk2;clear hr2 hk2 hb2 ho2))
 all_goals go_wp2
 all_goals go_end0
 all_goals exact ⟨rfl,by have:=HR2.out;simpa [fu,gJ] using this,HK0.out.trans HK2.out⟩
theorem clo_rec{B wb mm b B2 B3 g o cp N j kb:Nat}{w wL:World}{acc:List UInt8}{A:List ByteArray}{s:Sch}(hk:WOk B wb mm wL s kb A)(hbx:Bx wb mm b w B2 B3)(hW:Wr B wb mm w acc A)(hO:Old wL w)(hBL:B=wL.heap.size)(hlt:b<wL.heap.size)(h8:wL.cell? ⟨b,3,none⟩=some (.slice (some ⟨g,o,none⟩) N cp))(hg:g<wL.heap.size)(hj:j<N)(fn:ByteArray)(aa:Option Addr)(al ac:Nat)(k i:Int)(t:ByteArray)(a na:Option Addr)(l c nl nc:Nat)(m:Option Nat)(d:Bool)
  (hc:∀f,f<10->wL.cell? ⟨g,o+j*10+f,none⟩=(fcs fn aa al ac kb k i t a na l c nl nc m d)[f]?) (hz:fn.size<=3000000) (hlen:acc.length+(jB (fJ fn s)).length<=10000000000000):
  Calls prog 65 #[.int .i64 j,.pointer (some ⟨B2,0,none⟩),.pointer (some ⟨B3,0,none⟩)] w λe w'=>CwP B wb mm w (acc++jB (fJ fn s)) (A++(dM s).map Prod.fst) e w':=by
 have q2:=hbx.c2
 have q3:=hbx.c3
 have q8:=(hO.cell hlt).trans h8
 have hfc:∀W,Old wL W->∀f,f<10->W.cell? ⟨g,o+j*10+f,none⟩=(fcs fn aa al ac kb k i t a na l c nl nc m d)[f]?:=λW hW f hf=>(hW.cell hg).trans (hc f hf)
 have HFC:=bf hfc
 have hfw:=field_w hk (hW.add (af w)) (hO.trans (Old.drew w)) hBL fn aa al ac k i t a na l c nl nc m d hz hlen
 unfold fcs at hfc hfw
 have c0:w.cell? ⟨g,o+j*10,none⟩=some (.string fn):=hfc w hO 0 Kc
 have c1:w.cell? ⟨g,o+j*10+1,none⟩=some (.slice aa al ac):=hfc w hO 1 Kc
 have c2:w.cell? ⟨g,o+j*10+2,none⟩=some (.pointer (some ⟨kb,0,none⟩)):=hfc w hO 2 Kc
 have c3:w.cell? ⟨g,o+j*10+3,none⟩=some (.int .i64 k):=hfc w hO 3 Kc
 have c4:w.cell? ⟨g,o+j*10+4,none⟩=some (.int .i64 i):=hfc w hO 4 Kc
 have c5:w.cell? ⟨g,o+j*10+5,none⟩=some (.string t):=hfc w hO 5 Kc
 have c6:w.cell? ⟨g,o+j*10+6,none⟩=some (.slice a l c):=hfc w hO 6 Kc
 have c7:w.cell? ⟨g,o+j*10+7,none⟩=some (.slice na nl nc):=hfc w hO 7 Kc
 have c8:w.cell? ⟨g,o+j*10+8,none⟩=some (.map m):=hfc w hO 8 Kc
 have c9:w.cell? ⟨g,o+j*10+9,none⟩=some (.bool d):=hfc w hO 9 Kc
 have j0:=Y52
 have j1:=Y53
 have HBX:=bf hbx
 have HO:=bf hO
 have HBL:=bf hBL
 have H8:Hid (b<wL.heap.size/\wL.cell? ⟨b,3,none⟩=some (.slice (some ⟨g,o,none⟩) N cp)):=⟨hlt,h8⟩
 have HK0:=Y129
 clear hk hbx hW hO hlt h8 hg hc hlen hBL hfc hz
 go_enter func65,ntmps65
 go_upto_region 0 with fail
 go_region_held_law (λw'=>w'.cell? ⟨B2,0,none⟩=some (.pointer (some ⟨wb,0,none⟩))/\w'.cell? ⟨B3,0,none⟩=some (.pointer (some ⟨b,0,none⟩))/\w'.cell? ⟨b,3,none⟩=some (.slice (some ⟨g,o,none⟩) N cp)/\w'.cell? ⟨g,o+j*10,none⟩=some (.string fn)/\w'.cell? ⟨g,o+j*10+1,none⟩=some (.slice aa al ac)/\w'.cell? ⟨g,o+j*10+2,none⟩=some (.pointer (some ⟨kb,0,none⟩))/\w'.cell? ⟨g,o+j*10+3,none⟩=some (.int .i64 k)/\w'.cell? ⟨g,o+j*10+4,none⟩=some (.int .i64 i)/\w'.cell? ⟨g,o+j*10+5,none⟩=some (.string t)/\w'.cell? ⟨g,o+j*10+6,none⟩=some (.slice a l c)/\w'.cell? ⟨g,o+j*10+7,none⟩=some (.slice na nl nc)/\w'.cell? ⟨g,o+j*10+8,none⟩=some (.map m)/\w'.cell? ⟨g,o+j*10+9,none⟩=some (.bool d)) (first|(with_reducible exact ⟨k2,k3,k8,e0,e1,e2,e3,e4,e5,e6,e7,e8,e9⟩)|(with_reducible exact ⟨q2,q3,q8,c0,c1,c2,c3,c4,c5,c6,c7,c8,c9⟩)|go_keep)
  (first
  |(go_at_call 66;refine hfw.mono ?_;rintro e w2 ⟨rfl,hr2,hk2⟩;have hb2:=HBX.out.wk (HK0.out.trans hk2);have ho2:=(HK0.out.trans hk2).oldL HO.out HBL.out;have k2:=hb2.c2;have k3:=hb2.c3;have k8:=(ho2.cell H8.out.1).trans H8.out.2;have kf:=HFC.out w2 ho2;have e0:w2.cell? ⟨g,o+j*10,none⟩=some (.string fn):=kf 0 Kc;have e1:w2.cell? ⟨g,o+j*10+1,none⟩=some (.slice aa al ac):=kf 1 Kc;have e2:w2.cell? ⟨g,o+j*10+2,none⟩=some (.pointer (some ⟨kb,0,none⟩)):=kf 2 Kc;have e3:w2.cell? ⟨g,o+j*10+3,none⟩=some (.int .i64 k):=kf 3 Kc;have e4:w2.cell? ⟨g,o+j*10+4,none⟩=some (.int .i64 i):=kf 4 Kc;have e5:w2.cell? ⟨g,o+j*10+5,none⟩=some (.string t):=kf 5 Kc;have e6:w2.cell? ⟨g,o+j*10+6,none⟩=some (.slice a l c):=kf 6 Kc;have e7:w2.cell? ⟨g,o+j*10+7,none⟩=some (.slice na nl nc):=kf 7 Kc;have e8:w2.cell? ⟨g,o+j*10+8,none⟩=some (.map m):=kf 8 Kc;have e9:w2.cell? ⟨g,o+j*10+9,none⟩=some (.bool d):=kf 9 Kc;have HR2:=bf hr2;have HK2:=bf hk2;clear hr2 hk2 hb2 ho2 kf))
 all_goals go_wp2
 all_goals go_end0
 all_goals exact ⟨rfl,HR2.out,HK0.out.trans HK2.out⟩
end
end Go.Proofs.YtceinlbeeahkeaaGreatDoor
