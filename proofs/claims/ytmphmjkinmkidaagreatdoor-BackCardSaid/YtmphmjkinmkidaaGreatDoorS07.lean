import Derived.Laws.DeepNot64
import Derived.Ground.MpProg
import Derived.Shelf.Unicode.ValidAny
import Derived.Shelf.Pu.Clone
import Derived.Test.YtmphmjkinmkidaaGreatDoorS05
import Derived.Test.YtmphmjkinmkidaaGreatDoorS06
set_option linter.defProp false
open Go.Proofs.Tryz
set_option maxRecDepth 8000
set_option maxHeartbeats 4000000
namespace Go.Proofs.YtmphmjkinmkidaaGreatDoor
variable{p:Prop}
section
open Go Go.RowKit Go.Extern.Stop Go.Stop Go.Extern Go.Maps Go.WideMaps
variable{w w2 w4 w5 wr:World}{B0 rb:Nat}{ns:List ByteArray}{vs:List J}{nv nv5 v v5:Value}{cells:List Value}{rs:List Nat}
def Y24(h:p:=by exact (show ∀n,n<=5000->n*iS.bytes<=140737488355328 from λn hn=>NM (Nat.mul_le_mul hn hbS) Ke)):p:=h
def Y25(h:p:=by exact (hgA.cell (b:=w.heap.size+1+1) (o:=3) Km (λe=>by have:=hO7.vblk _ e;omega) ((ae _ _).cell k3))):p:=h
def Y26(h:p:=by exact (show wA.frozen? ⟨w.heap.size+1+1,3,none⟩=false from (hgA.frozen Km (λe=>by have:=hO7.vblk _ e;omega)).trans (((ae _ _).frozen h9).trans ((hu8.frozen hw1 Kc).trans (fz 3))))):p:=h
def Z8(h:p:=by
 refine wpAny_ready (rs:=[5]) Kf Kh ?_
 refine AllReady.cons rfl (λK hK=>?_) AllReady.nil
 go_simp
 refine hK _ _ ?_
 clear hK K
 refine wpAny_ready (rs:=[6]) Kf Kh ?_
 refine AllReady.cons rfl (λK hK=>?_) AllReady.nil
 refine dO _ Kl _ _ 83 83 Kl Ke iV zV iV.bytes underlying83 hiV hzV hsV rfl hz6 Kl (hrow8.alloc _) _ 1 _ Kl (Src.six _ underlying83 _ Kl 85 _ _ _ _ _ _ (one6 _ _ _ _ _ _ _ _ _ _)) Ki (hbyte _ Kc) ?_
 intro v4 wA hrowA hgA
 obtain ⟨a4,c4,rfl⟩:=hrowA.shape
 have k4:=Y25
 have fA:=Y26
 refine hK _ _ ?_
 clear hK K
 go_simp
 refine wpAny_take (i:=7) (v:=?_) rfl Kf Kf Kf (λ_ _ _ h=>h) (Or.inl ⟨by rfl,?_⟩) ?_
 rotate_left
 ·intro w
  go_simp
  with_reducible rfl
 exact Z246):p:=h
def Z246(h:p:=by
 refine wpAny_ready (rs:=[8]) Kf Kh ?_
 refine AllReady.cons rfl (λK hK=>?_) AllReady.nil
 go_simp
 refine hK _ _ ?_
 clear hK K
 refine wpAny_done Kf ?_ _
 go_simp
 have hst:=hO7.item hrl (((af w7).upd rb).trans hu8) hcs hrowA hgA
 have hJB:=obj_jr2 hO7 hrl (((af w7).upd rb).trans hu8) hJ8 hgA
 have hUB:=Ie hO7 rfl hU7 (((af w7).upd rb).trans hu8) hgA
 change ObjSt w.heap.size (wA.setCell ⟨w.heap.size+1+1,3,none⟩ _) _ _ _ _ _ at hst
 change Jr (wA.setCell ⟨w.heap.size+1+1,3,none⟩ _) _ _ _ at hJB
 change Upd _ _ (wA.setCell ⟨w.heap.size+1+1,3,none⟩ _) at hUB
 generalize wA.setCell ⟨w.heap.size+1+1,3,none⟩ (Value.slice a4 (vs.length+1) c4)=wB at hst hJB hUB
 have hen:=CB hJB 125 125 rfl
 have hal2:(vs++[j]).length=vs.length+1:=Kh
 clear hrowA hgA k4 fA hcs hrow8 k3 hJ8 hu8 hvc hiV hzV hsV hz6 hbyte hbV f3 fz hJ7 hO7 hU7
 cases he:nX 125 l4 with
 |none=>
  rw [he] at hen
  simp only [he] at hq
  subst hq
  go_wp2_with (go_at_call 142;refine hen.mono ?_;rintro e wC ⟨⟨T,v,rfl⟩,huC⟩)
  exact ⟨rfl,⟨_,_,rfl⟩,hUB.trans huC⟩
 |some z=>
  obtain ⟨b,l5⟩:=z
  have hl5:=mG he
  rw [he] at hen
  simp only [he] at hq
  have HLN:Hid ((ns++[n]).length=(vs++[j]).length):=by show _=_;rw [List.length_append,List.length_append,HNV.out];rfl
  cases b with
  |true=>
   change some (J.obj (ns++[n]) (vs++[j]),l5)=V at hq
   subst hq
   go_wp2_with (go_at_call 142;refine hen.mono ?_;rintro e wC ⟨rfl,hJC,huC⟩;have hOF:=hst.upd hrl huC;obtain ⟨p0,p1,p2,p3,p4,p5,pz⟩:=dF (B:=w.heap.size+1+1) hOF.b1;obtain ⟨q0,q1,q2,q3,q4,q5,qz⟩:=dF hOF.b0)
   have hsix:Six wC w.heap.size:=Six.of_heap hOF.b0
   have hlnF:=HLN.out
   have hszF:=hsz7
   have hmxF:(vs++[j]).length<=65536:=Kc
   obtain ⟨r0,r1,r2,r3,r4,r5⟩:=fK hsix (.int .i64 6) (.int .i64 0) (.string ⟨#[]⟩) (.slice a4 (vs.length+1) c4) (.slice na5 (ns.length+1) nc5) (.map (some (w.heap.size+1)))
   have hJF:=hJC.below (n:=w.heap.size) (w':=dV wC w.heap.size (.int .i64 6) (.int .i64 0) (.string ⟨#[]⟩) (.slice a4 (vs.length+1) c4) (.slice na5 (ns.length+1) nc5) (.map (some (w.heap.size+1)))) hrl Kx (λi hi=>dI _ _ _ _ _ _ _ _ i Kc)
   have hUF:=iH (hUB.trans huC) (NL w.heap.size) (.int .i64 6) (.int .i64 0) (.string ⟨#[]⟩) (.slice a4 (vs.length+1) c4) (.slice na5 (ns.length+1) nc5) (.map (some (w.heap.size+1)))
   have hLF:=Ev hOF hlnF hszF hmxF (.int .i64 6) (.int .i64 0) (.string ⟨#[]⟩) (.slice a4 (vs.length+1) c4) (.slice na5 (ns.length+1) nc5) (.map (some (w.heap.size+1)))
   clear p0 p1 p2 p3 p4 p5 pz q0 q1 q2 q3 q4 q5 qz hsix hOF hlnF hszF
   unfold dV at r0 r1 r2 r3 r4 r5 hJF hUF hLF
   refine bodyPost_ret (v:=.agg #[.int .i64 6,.int .i64 0,.string ⟨#[]⟩,.slice a4 (vs.length+1) c4,.slice na5 (ns.length+1) nc5,.map (some (w.heap.size+1))]) LZ rfl ?_
   exact ⟨⟨_,rfl,hLF⟩,hJF,hUF⟩
  |false=>
   change jC (iQ k) f (ns++[n]) (vs++[j]) l5=V at hq
   have HQ:Hid (jC (iQ k) f (ns++[n]) (vs++[j]) l5=V):=hq
   clear hq
   go_wp2_with (go_at_call 142;refine hen.mono ?_;rintro e wC ⟨rfl,hJC,huC⟩)
   go_roundw
   case rel=>exact ⟨ns++[n],vs++[j],_,_,_,l5,f,hst.upd hrl huC,HLN.out,hsz7,hJC,HQ.out,by omega,by simp;omega,hUB.trans huC⟩
   case measure=>
    have h1:=HP.out
    have h2:=hJC.pos
    omega):p:=h
def Z269(h:p:=by
 exact ⟨⟨_,rfl,hLF⟩,hJF,hUF⟩):p:=h
theorem CJ(w:World)(o p q:Obj):Add w (((w.alloc o).alloc p).alloc q)/\(((w.alloc o).alloc p).alloc q).heap[w.heap.size]?=some o/\(((w.alloc o).alloc p).alloc q).heap[w.heap.size+1]?=some p/\(((w.alloc o).alloc p).alloc q).heap[w.heap.size+2]?=some q:=by
 have s1:=dE w o
 have s2:=dE (w.alloc o) p
 refine ⟨((ae _ _).trans (ae _ _)).trans (ae _ _),?_,?_,?_⟩
 ·rw [Oc _ _ _ Kc,Oc _ _ _ Kc]
  exact dD _ _
 ·rw [Oc _ _ _ Kc,<-s1]
  exact dD _ _
 rw [show w.heap.size+2=((w.alloc o).alloc p).heap.size by omega]
 exact dD _ _
theorem jX{P:Program}{k:TypeId}{R:Value->Option (DataW Unit × List MemPlace)}{b n:Nat}{D:DataW Unit}{w':World}(h:w.ownsMap P k R b n D)(hb:w'.heap[b]?=w.heap[b]?):w'.ownsMap P k R b n D:=by
 obtain ⟨es,clock,hb0,F,hs,hD⟩:=h
 exact ⟨es,clock,hb.trans hb0,F,hs,hD⟩
theorem ObjSt.start{W:World}(h0:W.heap[B0]?=some zblk)(h1:W.heap[B0+1]?=some (.map #[] 0))(h2:W.heap[B0+2]?=some (Jj (B0+1) (.slice none 0 0) (.slice none 0 0))):ObjSt B0 W [] [] (.slice none 0 0) (.slice none 0 0) []:=by
 refine ⟨h0,h2,⟨.map [],?_,⟨_,rfl⟩,λ_=>rfl,λi hi=>absurd hi (Nat.not_lt_zero _)⟩,Row.nil _ _,λi hi=>(by cases hi),Row.nil _ _,λi hi=>(by cases hi),λi hi=>(by cases hi),rfl⟩
 exact ⟨#[],0,h1,⟨by simp,MapKept.stamped_empty 0,by simp⟩,NL _,rfl⟩
theorem Tryz.infoS:(prog.info? 9).map (λi=>(i.zero.map (λz=>z.cells.size),i.size))=some (some 1,1):=Kf
theorem Tryz.infoSb:(prog.info? 9).map (λi=>decide (i.bytes<=1000))=some true:=Kf
theorem Tryz.infoS1:∃i z,prog.info? 9=some i/\i.zero=some z/\i.size=1/\z.cells.size=1/\i.bytes<=1000:=by
 obtain ⟨i,h1,h2⟩:=Option.map_eq_some_iff.1 Tryz.infoS
 obtain ⟨i',h1',h3⟩:=Option.map_eq_some_iff.1 Tryz.infoSb
 exact Z91
theorem Fc{o:Obj}(h:ObjSt B0 wr ns vs nv v cells)(hg:wr.grownBy w4 (some (B0+1)))(hgr:Grew (w4.alloc o) nv w5 nv5):∀i,i<B0->(w5.setCell ⟨B0+2,4,none⟩ nv5).heap[i]?=wr.heap[i]?:=by
 intro i hi
 have hl:=h.lt
 have hs:=hg.size
 have ha:=dE w4 o
 rw [NZ w5 ⟨B0+2,4,none⟩ nv5 i (by show i≠B0+2;omega),hgr.old i Kc (λe=>by have:=h.nblk i e;omega),Oc _ _ i Kc,hg.block i Kc (λe=>by cases e;omega)]
theorem He{o:Obj}(hg:wr.grownBy w4 (some (B0+1)))(hgr:Grew (w4.alloc o) nv w5 nv5):wr.heap.size<=(w5.setCell ⟨B0+2,4,none⟩ nv5).heap.size:=by
 have h1:=hg.size
 have h2:=dE w4 o
 have h3:=hgr.size
 simp
 omega
theorem JG{o:Obj}{l:List Nat}(h:ObjSt B0 wr ns vs nv v cells)(hrb:rb<B0)(hJ:Jr wr rb rs l)(hg:wr.grownBy w4 (some (B0+1)))(hgr:Grew (w4.alloc o) nv w5 nv5):Jr (w5.setCell ⟨B0+2,4,none⟩ nv5) rb rs l:=
 hJ.below hrb (He hg hgr) (Fc h hg hgr)
theorem EA{o:Obj}(h:ObjSt B0 wr ns vs nv v cells)(hB:w.heap.size=B0)(hu:Upd rb w wr)(hg:wr.grownBy w4 (some (B0+1)))(hgr:Grew (w4.alloc o) nv w5 nv5):Upd rb w (w5.setCell ⟨B0+2,4,none⟩ nv5):=by
 refine ⟨?_,?_,NM hu.size (He hg hgr),λi hi hn=>(Fc h hg hgr i Kc).trans (hu.old i hi hn)⟩
 ·show w5.os=w.os
  rw [hgr.os]
  show w4.os=w.os
  rw [hg.os,hu.os]
 show w5.output=w.output
 rw [hgr.output]
 show w4.output=w.output
 rw [hg.output,hu.output]
theorem Ce{o:Obj}(h:ObjSt B0 wr ns vs nv v cells)(hu2:Upd rb wr w2)(hgr:Grew (w2.alloc o) v w4 v5):∀i,i<B0->(w4.setCell ⟨B0+2,3,none⟩ v5).heap[i]?=w2.heap[i]?:=by
 intro i hi
 have hl:=h.lt
 have hs:=hu2.size
 have ha:=dE w2 o
 rw [NZ w4 ⟨B0+2,3,none⟩ v5 i (by show i≠B0+2;omega),hgr.old i Kc (λe=>by have:=h.vblk i e;omega),Oc _ _ i Kc]
theorem Fm{o:Obj}(hgr:Grew (w2.alloc o) v w4 v5):w2.heap.size<=(w4.setCell ⟨B0+2,3,none⟩ v5).heap.size:=by
 have h2:=dE w2 o
 have h3:=hgr.size
 simp
 omega
theorem obj_jr2{o:Obj}{l:List Nat}(h:ObjSt B0 wr ns vs nv v cells)(hrb:rb<B0)(hu2:Upd rb wr w2)(hJ:Jr w2 rb rs l)(hgr:Grew (w2.alloc o) v w4 v5):Jr (w4.setCell ⟨B0+2,3,none⟩ v5) rb rs l:=
 hJ.below hrb (Fm hgr) (Ce h hu2 hgr)
theorem Ie{o:Obj}(h:ObjSt B0 wr ns vs nv v cells)(hB:w.heap.size=B0)(hu:Upd rb w wr)(hu2:Upd rb wr w2)(hgr:Grew (w2.alloc o) v w4 v5):Upd rb w (w4.setCell ⟨B0+2,3,none⟩ v5):=by
 have hl:=h.lt
 refine ⟨?_,?_,NM (NM hu.size hu2.size) (Fm hgr),λi hi hn=>(Ce h hu2 hgr i Kc).trans ((hu2.old i Kc hn).trans (hu.old i hi hn))⟩
 ·show w4.os=w.os
  rw [hgr.os]
  show w2.os=w.os
  rw [hu2.os,hu.os]
 show w4.output=w.output
 rw [hgr.output]
 show w2.output=w.output
 rw [hu2.output,hu.output]
theorem Ev{W:World}(h:ObjSt B0 W ns vs nv v cells)(hl:ns.length=vs.length)(hs:∀s∈ns,s.size<=65536)(hm:vs.length<=65536)(v0 v1 v2 v3 v4 v5:Value)(e0:v0=.int .i64 6:=by rfl)(e1:v1=.int .i64 0:=by rfl)(e2:v2=.string ⟨#[]⟩:=by rfl)(e3:v3=v:=by rfl)(e4:v4=nv:=by rfl)(e5:v5=.map (some (B0+1)):=by rfl):
  (J.obj ns vs).lies (λb=>B0<=b) (dV W B0 v0 v1 v2 v3 v4 v5) [v0,v1,v2,v3,v4,v5]:=by
 subst e0 e1 e2 e3 e4 e5
 have k:∀i,B0<i->(dV W B0 (.int .i64 6) (.int .i64 0) (.string ⟨#[]⟩) v3 v4 (.map (some (B0+1)))).heap[i]?=W.heap[i]?:=λi hi=>dI _ _ _ _ _ _ _ _ i Kc
 have hz:=dP W B0 (.int .i64 6) (.int .i64 0) (.string ⟨#[]⟩) v3 v4 (.map (some (B0+1)))
 generalize dV W B0 (.int .i64 6) (.int .i64 0) (.string ⟨#[]⟩) v3 v4 (.map (some (B0+1)))=W' at k hz
 have hrow:=h.row.carry (w':=W') λi hi=>k i LV
 have hnrow:=h.nrow.carry (w':=W') λi hi=>k i LU
 have hlie:bg (λb=>B0<=b) W' vs cells:=bu (λb hb _=>by omega) _ _ (bq (ok:=λb=>B0+2<b) ⟨by omega,λi hi _=>k i Kc⟩ _ _ (bu (λb hb _=>hb.1) _ _ h.lie))
 obtain ⟨a,c,ea,ha⟩:=J.row_lieAll hrow hlie (λi hi=>by have:=h.vblk i hi;omega)
 obtain ⟨na,nc,en⟩:=hnrow.shape
 rw [J.lies]
 refine ⟨a,c,na,nc,B0+1,by unfold jc;rw [ea,en];rfl,hl,hm,hs,by omega,h.pl.carry (k _ Kc),?_,ha⟩
 rcases hnrow with ⟨e,h0,_⟩|⟨g,cc,e,hr⟩
 ·exact .inl (NT h0)
 refine .inr ⟨g,0,?_,by have:=h.nblk g (by rw [e];rfl);omega,hr.lt,λi hi=>?_⟩
 ·rw [e] at en
  cases en
  rfl
 rw [NV,hr.holds i Kc]
 simp [List.getElem?_eq_getElem hi]
theorem FB{k:Nat}(hval:JV k)(hvl:∀L j l,iQ k L=some (j,l)->l.length<L.length){L:List Nat}(hJ:Jr w rb rs L)(hk:k<=32)(d:Int)(hd:d=32-(k:Int)):
  Calls prog 111 #[.pointer (some ⟨rb,0,none⟩),.int .i64 d] w λe w'=>mr (BZ (iQ k) L) rb rs w e w':=by
 have hmm:=@run_makeMap prog
 have hop:=λW (h:Jr W rb rs L)=>zb h 123 125 123 125 rfl rfl d Kc
 have hvd:=Y18
 have hrl:=hJ.rlt
 have hln:=hJ.len
 unfold BZ
 clear hd hk
 cases ho:lD 123 125 L with
 |none=>
  rw [ho] at hop
  clear hln
  go_enter func111,ntmps111
  go_wp2_with (go_at_call 141;have hI:=CJ w (.cells #[.int .i64 0,.int .i64 0,.string ⟨#[]⟩,.slice none 0 0,.slice none 0 0,.map none] 85) (.map #[] 0) (.cells #[.int .i64 6,.int .i64 0,.string ⟨#[]⟩,.slice none 0 0,.slice none 0 0,.map (some (w.heap.size+1))] 85);refine (hop _ (hJ.add hI.1)).mono ?_;rintro e w1 ⟨⟨T,v,rfl⟩,hu1⟩)
  exact Z206
 |some y=>
  obtain ⟨emp,l0⟩:=y
  rw [ho] at hop
  have hl0:l0.length<=L.length:=nU ho
  cases emp with
  |true=>
   show Calls _ _ _ _ λe w'=>mr (some (.obj [] [],l0)) rb rs w e w'
   clear hln hl0
   go_enter func111,ntmps111
   go_wp2_with (go_at_call 141;have hI:=CJ w (.cells #[.int .i64 0,.int .i64 0,.string ⟨#[]⟩,.slice none 0 0,.slice none 0 0,.map none] 85) (.map #[] 0) (.cells #[.int .i64 6,.int .i64 0,.string ⟨#[]⟩,.slice none 0 0,.slice none 0 0,.map (some (w.heap.size+1))] 85);refine (hop _ (hJ.add hI.1)).mono ?_;rintro e w1 ⟨rfl,hJ1,hu1⟩;have hO:=ObjSt.start (hI.2.1) (hI.2.2.1) (hI.2.2.2);have hO1:=hO.upd hrl hu1;obtain ⟨p0,p1,p2,p3,p4,p5,pz⟩:=dF (B:=w.heap.size+1+1) hO1.b1;obtain ⟨q0,q1,q2,q3,q4,q5,qz⟩:=dF hO1.b0)
   have hsix:Six w1 w.heap.size:=Six.of_heap hO1.b0
   have hOF:=hO1
   have hlnF:([]:List ByteArray).length=([]:List J).length:=rfl
   have hszF:∀s∈([]:List ByteArray),s.size<=65536:=λs hs=>(by cases hs)
   have hmxF:([]:List J).length<=65536:=Ke
   obtain ⟨r0,r1,r2,r3,r4,r5⟩:=fK hsix (.int .i64 6) (.int .i64 0) (.string ⟨#[]⟩) (.slice none 0 0) (.slice none 0 0) (.map (some (w.heap.size+1)))
   have hJF:=hJ1.below (n:=w.heap.size) (w':=dV w1 w.heap.size (.int .i64 6) (.int .i64 0) (.string ⟨#[]⟩) (.slice none 0 0) (.slice none 0 0) (.map (some (w.heap.size+1)))) hrl Kx (λi hi=>dI _ _ _ _ _ _ _ _ i Kc)
   have hUF:=iH ((hI.1.upd rb).trans hu1) (NL w.heap.size) (.int .i64 6) (.int .i64 0) (.string ⟨#[]⟩) (.slice none 0 0) (.slice none 0 0) (.map (some (w.heap.size+1)))
   have hLF:=Ev hOF hlnF hszF hmxF (.int .i64 6) (.int .i64 0) (.string ⟨#[]⟩) (.slice none 0 0) (.slice none 0 0) (.map (some (w.heap.size+1)))
   clear p0 p1 p2 p3 p4 p5 pz q0 q1 q2 q3 q4 q5 qz hsix hOF hO hO1 hI hu1
   unfold dV at r0 r1 r2 r3 r4 r5 hJF hUF hLF
   refine bodyPost_ret (v:=.agg #[.int .i64 6,.int .i64 0,.string ⟨#[]⟩,.slice none 0 0,.slice none 0 0,.map (some (w.heap.size+1))]) LZ rfl ?_
   exact Z269
  |false=>
   show Calls _ _ _ _ λe w'=>mr (jC (iQ k) (l0.length+1) [] [] l0) rb rs w e w'
   generalize hV:jC (iQ k) (l0.length+1) [] [] l0=V
   go_enter func111,ntmps111
   go_wp2_with (go_at_call 141;have hI:=CJ w (.cells #[.int .i64 0,.int .i64 0,.string ⟨#[]⟩,.slice none 0 0,.slice none 0 0,.map none] 85) (.map #[] 0) (.cells #[.int .i64 6,.int .i64 0,.string ⟨#[]⟩,.slice none 0 0,.slice none 0 0,.map (some (w.heap.size+1))] 85);refine (hop _ (hJ.add hI.1)).mono ?_;rintro e w1 ⟨rfl,hJ1,hu1⟩;have hO:=ObjSt.start (hI.2.1) (hI.2.2.1) (hI.2.2.2);have hO1:=hO.upd hrl hu1)
   go_loopw [] (λwr=>∃ns vs nv v cells L1 f,ObjSt w.heap.size wr ns vs nv v cells/\ns.length=vs.length/\(∀s∈ns,s.size<=65536)/\Jr wr rb rs L1/\jC (iQ k) f ns vs L1=V/\L1.length<f/\ns.length+L1.length<=4000/\Upd rb w wr) (λwr=>rs.length-lM wr rb)
   case atStart=>exact ⟨[],[],_,_,[],l0,l0.length+1,hO1,rfl,λs hs=>(by cases hs),hJ1,hV,by omega,by simp;omega,(hI.1.upd rb).trans hu1⟩
   obtain ⟨ns,vs,nv,v,cells,L1,f1,hO,hnv,hsz,hJr,hq,hf,hacc,hu⟩:=hrel
   obtain ⟨f,rfl⟩:=Y19
   rw [jC] at hq
   have HP:Hid (lM wr rb+L1.length=rs.length):=hJr.pos
   have htx:=λW (h:Jr W rb rs (dK L1))=>Bn h
   have hsk:=ja L1
   have HNV:Hid (ns.length=vs.length):=hnv
   clear hV hop hO1 hI hu1 hJ1 hval hnv
   cases hs:qD (dK L1) with
   |none=>
    rw [hs] at htx
    simp only [hs] at hq
    subst hq
    clear hf hacc hsk hsz hO
    go_wp2_with (first
     |(go_at_call 109;refine (htx _ hJ2).mono ?_;rintro e w3 ⟨⟨T,v,rfl⟩,hu3⟩)
     |(go_at_call 75;refine (ed hJr).mono ?_;rintro e w2 ⟨rfl,hJ2,hu2⟩))
    exact ⟨rfl,⟨_,_,rfl⟩,(hu.trans hu2).trans hu3⟩
   |some y=>
    obtain ⟨n,l⟩:=y
    have hsn:=qA hs
    rw [hs] at htx
    simp only [hs] at hq
    have hn65:n.size<=70368744177000:=Kc
    have hn16:n.size<=65536:=Kc
    have hkey:=qH n hn65
    obtain ⟨na,nc,hns⟩:=hO.nrow.shape
    obtain ⟨va,vc,hvs⟩:=hO.row.shape
    subst hns
    subst hvs
    obtain ⟨D,hown0,hD,hhas,hatD⟩:=hO.pl
    have hhx:=hhas n
    have hltO:=hO.lt
    cases hin:dU n ns with
    |true=>
     rw [hin] at hhx
     rw [hin,if_pos rfl] at hq
     subst hq
     clear hf hacc hsz hhas hatD hsk hsn hn65 hn16
     go_wp2_with (first
      |(at_lookup;refine wpList_lookup_own_ok_int _ rfl _ _ 74 rfl 9 3 .i64 Tryz.keyLaw underlying74 underlying3 (Tryz.zeroInt _) (w.heap.size+1) ns.length D rfl hown _ _ rfl hkey ?_;intro cL hat hwc;rw [hhx])
      |(go_at_call 77;refine (hJ3.wrong _ Ke).mono ?_;rintro e w9 ⟨⟨T,v,rfl⟩,hb9⟩)
      |(go_at_call 109;refine (htx _ hJ2).mono ?_;rintro e w3 ⟨rfl,hJ3,hu3⟩;have hO3:=hO.upd hrl (hu2.trans hu3);have hown:=jX hown0 ((hu2.trans hu3).old _ Kc (by omega:w.heap.size+1≠rb));have hU3:=(hu.trans hu2).trans hu3;obtain ⟨p0,p1,p2,p3,p4,p5,pz⟩:=dF (B:=w.heap.size+1+1) hO3.b1)
      |(go_at_call 75;refine (ed hJr).mono ?_;rintro e w2 ⟨rfl,hJ2,hu2⟩))
     exact ⟨rfl,⟨_,_,rfl⟩,((hu.trans hu2).trans hu3).trans (hb9.upd _)⟩
    |false=>
     rw [hin] at hhx
     rw [hin,if_neg Ke] at hq
     have hnew:=hin
     obtain ⟨iS,zS,hiS,hzS,hsS,hz1,hbS⟩:=Tryz.infoS1
     have hbyS:=Y24
     cases hnd:dY 58 (dK l) with
     |none=>
      simp only [hnd] at hq
      subst hq
      go_wp2_with (first
       |(at_lookup;refine wpList_lookup_own_ok_int _ rfl _ _ 74 rfl 9 3 .i64 Tryz.keyLaw underlying74 underlying3 (Tryz.zeroInt _) (w.heap.size+1) ns.length D rfl hown _ _ rfl hkey ?_;intro cL hat hwc;rw [hhx])
       |(at_mapUpdate;refine wpList_mapUpdate_own _ rfl _ _ _ 74 rfl 9 3 Tryz.keyLaw underlying74 _ (w.heap.size+1) ns.length _ rfl hown Ki _ _ _ rfl rfl hkey _ [] (plainElem_int underlying3 (WalkArith.wf_i64 Kc)) ?_;intro w4 hown4 hg4;have hp4:=kS.put hn65 hD hhas hatD hnew hown4;obtain ⟨y0,y1,y2,y3,y4,y5⟩:=hO3.put hg4 hp4;obtain ⟨e0,e1,e2,e3,e4,e5,ez⟩:=dF (B:=w.heap.size+1+1) y1)
       |(at_builtin;refine dH _ rfl _ _ 31 31 rfl Ke iS zS iS.bytes underlying31 hiS hzS hsS rfl hz1 rfl (y2.alloc _) _ 1 _ rfl (di _ underlying31 _ rfl 9 _ rfl) Ki (hbyS _ Kc) ?_;intro nv5 w5 hrow5 hg5;have hO5:=hO3.name hg4 hp4 hrow5 hg5;obtain ⟨na5,nc5,rfl⟩:=hrow5.shape;have h49:w.heap.size+1+1<w4.heap.size:=(Oh y1).1;have g4:=hg5.cell (b:=w.heap.size+1+1) (o:=4) Km (λe=>by have:=hO3.nblk _ e;omega) ((ae _ _).cell e4);have gz:w5.frozen? ⟨w.heap.size+1+1,4,none⟩=false:=(hg5.frozen Km (λe=>by have:=hO3.nblk _ e;omega)).trans (((ae _ _).frozen h49).trans (ez 4));have hJ5:=JG hO3 hrl hJ3 hg4 hg5;have hU5:=EA hO3 rfl hU3 hg4 hg5)
       |(go_at_call 137;refine (qd hJ6 hnd _ rfl).mono ?_;rintro e w7 ⟨⟨T,v,rfl⟩,hu7⟩)
       |(go_at_call 75;refine (ed hJ5).mono ?_;rintro e w6 ⟨rfl,hJ6,hu6⟩)
       |(go_at_call 109;refine (htx _ hJ2).mono ?_;rintro e w3 ⟨rfl,hJ3,hu3⟩;have hO3:=hO.upd hrl (hu2.trans hu3);have hown:=jX hown0 ((hu2.trans hu3).old _ Kc (by omega:w.heap.size+1≠rb));have hU3:=(hu.trans hu2).trans hu3;obtain ⟨p0,p1,p2,p3,p4,p5,pz⟩:=dF (B:=w.heap.size+1+1) hO3.b1)
       |(go_at_call 75;refine (ed hJr).mono ?_;rintro e w2 ⟨rfl,hJ2,hu2⟩))
      exact ⟨rfl,⟨_,_,rfl⟩,(hU5.trans hu6).trans hu7⟩
     |some l3=>
      simp only [hnd] at hq
      have hl3:=kW hnd
      have hskl:=ja l
      go_wp2_with (first
       |(at_lookup;refine wpList_lookup_own_ok_int _ rfl _ _ 74 rfl 9 3 .i64 Tryz.keyLaw underlying74 underlying3 (Tryz.zeroInt _) (w.heap.size+1) ns.length D rfl hown _ _ rfl hkey ?_;intro cL hat hwc;rw [hhx])
       |(at_mapUpdate;refine wpList_mapUpdate_own _ rfl _ _ _ 74 rfl 9 3 Tryz.keyLaw underlying74 _ (w.heap.size+1) ns.length _ rfl hown Ki _ _ _ rfl rfl hkey _ [] (plainElem_int underlying3 (WalkArith.wf_i64 Kc)) ?_;intro w4 hown4 hg4;have hp4:=kS.put hn65 hD hhas hatD hnew hown4;obtain ⟨y0,y1,y2,y3,y4,y5⟩:=hO3.put hg4 hp4;obtain ⟨e0,e1,e2,e3,e4,e5,ez⟩:=dF (B:=w.heap.size+1+1) y1)
       |(at_builtin;refine dH _ rfl _ _ 31 31 rfl Ke iS zS iS.bytes underlying31 hiS hzS hsS rfl hz1 rfl (y2.alloc _) _ 1 _ rfl (di _ underlying31 _ rfl 9 _ rfl) Ki (hbyS _ Kc) ?_;intro nv5 w5 hrow5 hg5;have hO5:=hO3.name hg4 hp4 hrow5 hg5;obtain ⟨na5,nc5,rfl⟩:=hrow5.shape;have h49:w.heap.size+1+1<w4.heap.size:=(Oh y1).1;have g4:=hg5.cell (b:=w.heap.size+1+1) (o:=4) Km (λe=>by have:=hO3.nblk _ e;omega) ((ae _ _).cell e4);have gz:w5.frozen? ⟨w.heap.size+1+1,4,none⟩=false:=(hg5.frozen Km (λe=>by have:=hO3.nblk _ e;omega)).trans (((ae _ _).frozen h49).trans (ez 4));have hJ5:=JG hO3 hrl hJ3 hg4 hg5;have hU5:=EA hO3 rfl hU3 hg4 hg5)
       |(go_at_call 137;refine (ul hJ6 hnd _ rfl).mono ?_;rintro e w7 ⟨rfl,hJ7,hu7⟩)
       |(go_at_call 75;refine (ed hJ5).mono ?_;rintro e w6 ⟨rfl,hJ6,hu6⟩)
       |(go_at_call 109;refine (htx _ hJ2).mono ?_;rintro e w3 ⟨rfl,hJ3,hu3⟩;have hO3:=hO.upd hrl (hu2.trans hu3);have hown:=jX hown0 ((hu2.trans hu3).old _ Kc (by omega:w.heap.size+1≠rb));have hU3:=(hu.trans hu2).trans hu3;obtain ⟨p0,p1,p2,p3,p4,p5,pz⟩:=dF (B:=w.heap.size+1+1) hO3.b1)
       |(go_at_call 75;refine (ed hJr).mono ?_;rintro e w2 ⟨rfl,hJ2,hu2⟩))
      have hO7:=hO5.upd hrl (hu6.trans hu7)
      have hU7:=(hU5.trans hu6).trans hu7
      obtain ⟨f0,f1,f2,f3,f4,f5,fz⟩:=dF (B:=w.heap.size+1+1) hO7.b1
      have hvc:=hvd w7.drew l3 (hJ7.add (af _))
      have hw1:w.heap.size+1+1<w7.heap.size:=hO7.lt
      have hsz7:∀s∈ns++[n],s.size<=65536:=λs hs=>by
       rcases List.mem_append.1 hs with h|h
       ·exact hsz s h
       rw [List.mem_singleton] at h
       rw [h]
       exact hn16
      clear hO5 hU5 hu6 hu7 hJ6 hJ5 hO3 hU3 hown hown0 hhas hatD hD hhx hg4 hp4 y0 y1 y2 y3 y4 y5 e0 e1 e2 e3 e4 e5 ez hrow5 hg5 g4 gz p0 p1 p2 p3 p4 p5 pz hJ3 hu3 hJ2 hu2 hO hu hkey hsz hn16 hn65 hown4 hat hwc hJr htx h49 hbyS hiS hzS hsS hz1 hbS hnew hin f0 f1 f2 f4 f5
      cases hvv:iQ k l3 with
      |none=>
       rw [hvv] at hvc
       simp only [hvv] at hq
       subst hq
       clear hf hacc hsk hsn hl3 hskl
       go_region_dies
       all_goals (go_wp2_with (go_at_call 74;refine (hvc).mono ?_;rintro e w9 ⟨⟨T,v,rfl⟩,hu9⟩))
       all_goals exact ⟨rfl,⟨_,_,rfl⟩,hU7.trans (((af w7).upd rb).trans hu9)⟩
      |some y=>
       obtain ⟨j,l4⟩:=y
       have hll:=hvl l3 j l4 hvv
       rw [hvv] at hvc
       simp only [hvv] at hq
       obtain ⟨iV,zV,hiV,hzV,hsV,hz6,hbV⟩:=Tryz.infoV6
       have hbyte:=Y20
       have hal:vs.length<=4000:=by have:=HNV.out;omega
       refine wp_region_any Kf ?_
       change wpAny _ _ _ _ _ _ _ (World.drew _)
       refine wpAny_take (i:=0) (v:=?_) rfl Kf Kf Kf (λ_ _ _ h=>h) (Or.inl ⟨by rfl,?_⟩) ?_
       rotate_left
       ·exact Z223
       refine wpAny_take (i:=2) (v:=?_) rfl Kf Kf Kf (λ_ _ _ h=>h) (Or.inl ⟨by rfl,?_⟩) ?_
       rotate_left
       ·exact Z223
       refine wpAny_take (i:=3) (v:=?_) rfl Kf Kf Kf (λ_ _ _ h=>h) (Or.inl ⟨by rfl,?_⟩) ?_
       rotate_left
       ·exact Z223
       refine wpAny_ready (rs:=[1,4]) Kf Kh ?_
       refine AllReady.cons rfl (λK hK=>?_) (AllReady.cons rfl (λK hK=>?_) AllReady.nil)
       ·go_simp
        refine hK _ _ ?_
        clear hK K
        refine wpAny_ready (rs:=[4]) Kf Kh ?_
        refine AllReady.cons rfl (λK hK=>?_) AllReady.nil
        go_simp
        go_wp2_with (go_at_call 74;refine (hvc).mono ?_;rintro e w8 ⟨⟨cs,rfl,hcs⟩,hJ8,hu8⟩;obtain ⟨n6,t6,a6,na6,l6,c6,nl6,nc6,m6,rfl⟩:=J.lies_cells hcs;have k3:=hu8.cell (b:=w.heap.size+1+1) Kc f3;have hrow8:Row w8 6 (.slice va vs.length vc) vs.length cells:=hO7.row.carry (λi hi=>hu8.old i (hO7.row.blk_lt hi) (by have:=hO7.vblk i hi;omega));have h9:w.heap.size+1+1<w8.heap.size:=NK hw1 hu8.size;unfold jc)
        exact Z8
       go_simp
       go_wp2_with (go_at_call 74;refine (hvc).mono ?_;rintro e w8 ⟨⟨cs,rfl,hcs⟩,hJ8,hu8⟩;obtain ⟨n6,t6,a6,na6,l6,c6,nl6,nc6,m6,rfl⟩:=J.lies_cells hcs;have k3:=hu8.cell (b:=w.heap.size+1+1) Kc f3;have hrow8:Row w8 6 (.slice va vs.length vc) vs.length cells:=hO7.row.carry (λi hi=>hu8.old i (hO7.row.blk_lt hi) (by have:=hO7.vblk i hi;omega));have h9:w.heap.size+1+1<w8.heap.size:=NK hw1 hu8.size;unfold jc)
       refine wpAny_ready (rs:=[1,5]) Kf Kh ?_
       refine AllReady.cons rfl (λK hK=>?_) (AllReady.cons rfl (λK hK=>?_) AllReady.nil)
       ·go_simp
        refine hK _ _ ?_
        clear hK K
        exact Z8
       go_simp
       refine hK _ _ ?_
       clear hK K
       refine wpAny_ready (rs:=[1]) Kf Kh ?_
       refine AllReady.cons rfl (λK hK=>?_) AllReady.nil
       go_simp
       refine hK _ _ ?_
       clear hK K
       refine wpAny_ready (rs:=[6]) Kf Kh ?_
       refine AllReady.cons rfl (λK hK=>?_) AllReady.nil
       refine dO _ Kl _ _ 83 83 Kl Ke iV zV iV.bytes underlying83 hiV hzV hsV rfl hz6 Kl (hrow8.alloc _) _ 1 _ Kl (Src.six _ underlying83 _ Kl 85 _ _ _ _ _ _ (one6 _ _ _ _ _ _ _ _ _ _)) Ki (hbyte _ Kc) ?_
       intro v4 wA hrowA hgA
       obtain ⟨a4,c4,rfl⟩:=hrowA.shape
       have k4:=Y25
       have fA:=Y26
       refine hK _ _ ?_
       clear hK K
       go_simp
       refine wpAny_take (i:=7) (v:=?_) rfl Kf Kf Kf (λ_ _ _ h=>h) (Or.inl ⟨by rfl,?_⟩) ?_
       rotate_left
       ·exact Z223
       exact Z246
end
section
open Go Go.RowKit Go.Extern.Stop Go.Stop Go.Extern
theorem tN(ns:List ByteArray)(u:ByteArray):eH (ns++[u])=eH ns+1+u.size:=by
 induction ns with
 |nil=>simp [eH]
 |cons d r ih=>simp [eH,ih];omega
theorem GI(s:ByteArray)(w:World)(hs:s.size<=262144):Calls prog 25 #[.string s] w λe w'=>∃ns v,e=.returned v/\Row w' 1 v ns.length (ns.map Value.string)/\Grew w (.slice none 0 0) w' v/\eH ns<=s.size+1:=by
 obtain ⟨iS,zS,hiS,hzS,hsS,hz1,hbS⟩:=Tryz.infoS1
 have hbyS:∀n,n<=270000->n*iS.bytes<=140737488355328:=λn hn=>NM (Nat.mul_le_mul hn hbS) Ke
 clear hbS
 go_enter func25,ntmps25
 go_wp2
 go_loopw [3,4,5] (λl from' cnt wr=>∃(ns:List ByteArray) (f i:Nat),f<=i/\i<=s.size/\cnt=.int .i64 i/\from'=.int .i64 f/\Row wr 1 l ns.length (ns.map Value.string)/\Grew w (.slice none 0 0) wr l/\eH ns<=f) (λ_ _ cnt _=>s.size-(intOf cnt).toNat)
 case atStart=>exact ⟨[],0,0,NL _,NQ _,rfl,rfl,Row.nil _ _,Grew.refl _ _,by simp [eH]⟩
 obtain ⟨ns,f,i,hf,hi,rfl,rfl,hR,hG,hN⟩:=hrel
 obtain ⟨la,lc,rfl⟩:=hR.shape
 have hnl:=pI ns
 by_cases hlt:i<s.size
 ·have hfi:(f:Int)<=i:=Kc
  have hlen:((s.extract f i).size:Nat)=i-f:=KP
  have hm:(ns.map Value.string).length=ns.length:=List.length_map ..
  go_wp2_with (at_builtin;refine dH _ rfl _ _ 31 31 rfl Ke iS zS iS.bytes underlying31 hiS hzS hsS rfl hz1 rfl (hR.alloc _) _ 1 _ rfl (di _ underlying31 _ rfl 9 _ rfl) Ki (hbyS _ Kc) ?_;intro v5 w5 hrow5 hg5;obtain ⟨a5,c5,rfl⟩:=hrow5.shape)
  ·refine ⟨⟨ns++[s.extract f i],i+1,i+1,NL _,by omega,by simp,by simp,?_,?_,?_⟩,by simp only [intOf];exact wg hlt⟩
   ·rw [List.length_append,List.map_append];exact hrow5
   ·exact (hG.trans (Grew.alloc _ _ _)).trans hg5
   rw [tN];omega
  exact ⟨⟨ns,f,i+1,by omega,by omega,by simp,rfl,hR,hG,hN⟩,by simp only [intOf];exact wg hlt⟩
 obtain rfl:i=s.size:=Kc
 have hlen:((s.extract f s.size).size:Nat)=s.size-f:=KP
 have hm:(ns.map Value.string).length=ns.length:=List.length_map ..
 go_wp2_with (at_builtin;refine dH _ rfl _ _ 31 31 rfl Ke iS zS iS.bytes underlying31 hiS hzS hsS rfl hz1 rfl (hR.alloc _) _ 1 _ rfl (di _ underlying31 _ rfl 9 _ rfl) Ki (hbyS _ Kc) ?_;intro v5 w5 hrow5 hg5;obtain ⟨a5,c5,rfl⟩:=hrow5.shape)
 ·go_ret
  refine ⟨ns++[s.extract f s.size],_,rfl,?_,(hG.trans (Grew.alloc _ _ _)).trans hg5,?_⟩
  ·rw [List.length_append,List.map_append];exact hrow5
  rw [tN];omega
 go_ret
 exact ⟨ns,_,rfl,hR,hG,by omega⟩
def Y27(h:p:=by exact (show x % 128*128 ^ k<=127*128 ^ k from Nat.mul_le_mul_right _ Kc)):p:=h
def Z42(h:p:=by
 rw [if_pos h128] at hv
 have HV:Hid (VR.ok z (i+1)=V):=hv
 have hx:((c.toNat:Int)<128)=True:=Kt
 clear h128 hv h9
 go_wp2_with (first
  |(go_at_call 88;refine (hby _ hWr hRd).mono ?_;rintro e w1 ⟨rfl,hR1,hu1⟩;have hg1:=hu1.cell (b:=21) Kc hgr)
  |(go_at_call 86;refine (gN _ _ _).mono ?_;rintro e w2 ⟨rfl,rfl⟩))
 go_ret
 show EQ V _ _ _ _ _ _ _ _
 rw [<-HV.out]
 exact ⟨Ep (Jt z HQ.out),by simpa using hR1,HU.out.trans hu1⟩):p:=h
inductive VR where
 |ok (z i:Nat)
 |short
 |range
def vrd(t:ByteArray):Nat->Nat->Nat->Nat->VR
 |0,_,i,a=>.ok a i
 |f+1,k,i,a=>if h:i<t.size then
   (if k<9\/t[i].toNat<=1 then (if t[i].toNat<128 then .ok (a+t[i].toNat % 128*128 ^ k) (i+1) else vrd t f (k+1) (i+1) (a+t[i].toNat % 128*128 ^ k)) else .range)
  else .short
def EQ(V:VR)(rb:Nat)(t:ByteArray)(l:Int)(s r:Value)(w:World)(e:Ending)(w':World):Prop:=
 match V with
 |.ok z j=>e=.returned (.int .i64 (jR z))/\Rdr w' rb t j l/\Upd rb w w'
 |.short=>e=.panicked (gF s)/\Upd rb w w'
 |.range=>e=.panicked (gF r)/\Upd rb w w'
theorem JY(a:Nat)(ha:a<9223372036854775808):bits .xor .i64 (a:Int) (-1) = -1-(a:Int):=by
 rw [<-i64_not a ha]
 show IntKind.i64.wrap ((BitVec.ofInt 64 (a:Int) ^^^ BitVec.ofInt 64 (-1)).toNat:Int)=IntKind.i64.wrap ((BitVec.ofInt 64 (-1) ^^^ BitVec.ofInt 64 (a:Int)).toNat:Int)
 rw [BitVec.xor_comm]
theorem JS(a:Nat)(ha:a<9223372036854775808):bits .xor .i64 (a:Int) 0=(a:Int):=by
 show IntKind.i64.wrap ((BitVec.ofInt 64 (a:Int) ^^^ BitVec.ofInt 64 0).toNat:Int)=_
 have h1:BitVec.ofInt 64 0=0#64:=Ke
 rw [h1,BitVec.xor_zero,ofInt_u64 a Kc]
 simp [IntKind.wrap,IntKind.bits,IntKind.signed]
 omega
theorem Jt(z:Nat)(h:z<18446744073709551616):bits .xor .i64 (wrap64 ((z:Int) / 2)) (wrap64 (-wrap64 (bits .and .u64 (z:Int) 1)))=jR z:=by
 have e1:bits .and .u64 (z:Int) 1=((z % 2:Nat):Int):=by
  rw [show (1:Int)=((1:Nat):Int) from rfl,u64_and_nat z 1 h Ke,Nat.and_one_is_mod]
 have e2:wrap64 ((z:Int) / 2)=((z / 2:Nat):Int):=Kn
 rw [e1,e2]
 unfold jR
 by_cases h0:z % 2=0
 ·have e3:wrap64 (-wrap64 ((z % 2:Nat):Int))=0:=Kn
  rw [if_pos h0,e3,JS _ Kc]
 have h1:z % 2=1:=Kc
 have e3:wrap64 (-wrap64 ((z % 2:Nat):Int)) = -1:=Kn
 rw [if_neg h0,e3,JY _ Kc]
 omega
theorem Ex(k:Nat)(h:k<=9):128 ^ k<=9223372036854775808:=NM (Nat.pow_le_pow_right Ke h) Ke
theorem yS{a x k:Nat}(ha:a<128 ^ k)(hk:k<=9)(hx:x<256)(h:k<9\/x<=1):a+x % 128*128 ^ k<18446744073709551616:=by
 by_cases h9:k<9
 ·have h1:128 ^ (k+1)<=9223372036854775808:=Ex (k+1) Kc
  rw [Nat.pow_succ] at h1
  have h2:=Y27
  omega
 have h1:=Ex k hk
 have h2:x % 128*128 ^ k<=1*128 ^ k:=Nat.mul_le_mul_right _ Kc
 omega
theorem Co{a x k:Nat}(ha:a<128 ^ k):a+x % 128*128 ^ k<128 ^ (k+1):=by
 have h2:=Y27
 rw [Nat.pow_succ]
 omega
theorem wQ(rb:Nat)(hrb:34<=rb)(t:ByteArray)(i0:Nat)(l:Int)(s r d m:Value)(w:World)(hW:WErr w s r d m)(hR:Rdr w rb t i0 l)(hi0:i0<=t.size)(hz:t.size<=70368744177000):
  Calls prog 89 #[.pointer (some ⟨rb,0,none⟩)] w λe w'=>EQ (vrd t 10 0 i0 0) rb t l s r w e w':=by
 have HZ:Hid (t.size<=70368744177000):=hz
 clear hz
 generalize hV:vrd t 10 0 i0 0=V
 go_enter func89,ntmps89
 go_wp2
 go_loopw [3,6] (λacc cnt wr=>∃(f k a i:Nat),k+f=10/\1<=f/\i<=t.size/\cnt=.int .i64 k/\acc=.int .u64 a/\a<128 ^ k/\vrd t f k i a=V/\Rdr wr rb t i l/\Upd rb w wr) (λ_ cnt _=>10-(intOf cnt).toNat)
 case atStart=>exact ⟨10,0,0,i0,by omega,by omega,hi0,rfl,rfl,by decide,hV,hR,Upd.refl _ _⟩
 obtain ⟨f1,k,a,i,hkf,hf1,hit,rfl,rfl,ha,hv,hRd,hu⟩:=hrel
 obtain ⟨f,rfl⟩:=Y19
 rw [vrd] at hv
 have hWr:=hW.upd hu hrb
 obtain ⟨vr,hvr,hgr⟩:=hWr.range
 subst hvr
 have hk:k<=9:=Kc
 have hk10:((k:Int)<10)=True:=Kt
 have HKF:Hid (k+(f+1)=10):=hkf
 have HU:Hid (Upd rb w wr):=hu
 have HA:Hid (a<128 ^ k):=ha
 clear hkf hf1 hu ha hV
 by_cases hlt:i<t.size
 ·rw [dif_pos hlt] at hv
  have hby:=λw1 (h1:WErr w1 s (.iface 200 vr) d m) (h2:Rdr w1 rb t i l)=>su rb t i 1 l s (.iface 200 vr) d m w1 h1 h2 Kc HZ.out
  have hget:∀h,(t.extract i (i+1))[0]'h=t[i]:=by intro h;rw [ByteArray.getElem_extract];simp
  have hsz:(t.extract i (i+1)).size=1:=KP
  generalize t[i]=c at hget hv
  have hx256:c.toNat<256:=c.toNat_lt
  have HX:Hid (c.toNat<256):=hx256
  have hw7:wrap64 (7*(k:Int))=7*(k:Int):=Kn
  have hs0:(0:Int)<=7*(k:Int):=Kc
  have hs1:7*(k:Int)<=64:=Kc
  clear hx256
  by_cases hbad:k<9\/c.toNat<=1
  ·rw [if_pos hbad] at hv
   have hqb:a+c.toNat % 128*128 ^ k<18446744073709551616:=yS HA.out hk HX.out hbad
   have hshl:IntKind.u64.wrap ((c.toNat:Int) % 128*2 ^ (7*(k:Int)).toNat)=((c.toNat % 128*128 ^ k:Nat):Int):=by
    have e:(c.toNat:Int) % 128=((c.toNat % 128:Nat):Int):=Kc
    rw [e]
    exact shl7 (c.toNat % 128) k Kc
   have hor:=or7 a (c.toNat % 128) k HA.out hqb
   have hnext:=Co HA.out (x:=c.toNat) (k:=k)
   generalize c.toNat % 128*128 ^ k=q at hqb hshl hor hnext hv
   have hor':bits .or .u64 (a:Int) (q:Int)=((a+q:Nat):Int):=hor
   clear hor
   generalize a+q=z at hqb hor' hnext hv
   have HQ:Hid (z<18446744073709551616):=hqb
   have HN:Hid (z<128 ^ (k+1)):=hnext
   have HB:Hid (k<9\/c.toNat<=1):=hbad
   clear hqb hnext hbad HA
   by_cases h9:k<9
   ·have hk9:((k:Int)<9)=True:=Kt
    by_cases h128:c.toNat<128
    ·exact Z42
    rw [if_neg h128] at hv
    have HV:Hid (vrd t f (k+1) (i+1) z=V):=hv
    have hx:((c.toNat:Int)<128)=False:=Kt
    have H9:Hid (k<9):=h9
    have HI:Hid (i+1<=t.size):=hlt
    clear h128 hv h9
    go_wp2_with (first
     |(go_at_call 88;refine (hby _ hWr hRd).mono ?_;rintro e w1 ⟨rfl,hR1,hu1⟩;have hg1:=hu1.cell (b:=21) Kc hgr)
     |(go_at_call 86;refine (gN _ _ _).mono ?_;rintro e w2 ⟨rfl,rfl⟩))
    go_roundw
    case rel=>exact ⟨f,k+1,z,i+1,by have:=HKF.out;omega,by have:=HKF.out;have:=H9.out;omega,HI.out,by go_num,by go_num,HN.out,HV.out,by simpa using hR1,HU.out.trans hu1⟩
    simp only [intOf];have:=H9.out;omega
   have hk9:((k:Int)<9)=False:=Kt
   have hx1:((c.toNat:Int)<=1)=True:=by have:=HB.out;simp;omega
   have h128:c.toNat<128:=Ls
   exact Z42
  rw [if_neg hbad] at hv
  have hk9:k=9:=Kc
  subst hk9
  have hx1:((c.toNat:Int)<=1)=False:=Kt
  have HV:Hid (VR.range=V):=hv
  clear hbad hv hk hk10 hw7 hs0 hs1
  go_wp2_with (first
   |(go_at_call 88;refine (hby _ hWr hRd).mono ?_;rintro e w1 ⟨rfl,hR1,hu1⟩;have hg1:=hu1.cell (b:=21) Kc hgr)
   |(go_at_call 86;refine (gV _ _ _).mono ?_;rintro e w2 ⟨rfl,rfl⟩))
  refine ⟨rfl,?_⟩
  show EQ V _ _ _ _ _ _ _ _
  rw [<-HV.out]
  exact ⟨rfl,HU.out.trans hu1⟩
 rw [dif_neg hlt] at hv
 have HV:Hid (VR.short=V):=hv
 have hby:=λw1 (h1:WErr w1 s (.iface 200 vr) d m) (h2:Rdr w1 rb t i l)=>oO rb t i l 1 s (.iface 200 vr) d m w1 h1 h2 Kc Kc Kc HZ.out Kc
 clear hv hlt hit hk
 go_wp2_with (go_at_call 88;refine (hby _ hWr hRd).mono ?_;rintro e w1 ⟨rfl,ho1,hos,hou⟩)
 refine ⟨rfl,?_⟩
 show EQ V _ _ _ _ _ _ _ _
 rw [<-HV.out]
 exact ⟨rfl,HU.out.trans (Upd.of_old ho1 hos hou)⟩
end
end Go.Proofs.YtmphmjkinmkidaaGreatDoor
section
namespace Go.Proofs
open Go.RowKit Go.Shelf Go.Lib
def Tryz.laysValid_ren:Shelf.Ren:=⟨fun|196=>72|259=>108|n=>n,fun|119=>204|46=>208|139=>207|138=>206|53=>40|n=>n,fun|3=>22|4=>23|n=>n⟩
theorem Tryz.laysValid:Lays.n196 prog Tryz.laysValid_ren:=lyT
def Tryz.laysClone_ren:Shelf.Ren:=⟨fun|25=>130|n=>n,fun|37=>76|47=>117|n=>n,fun|n=>n⟩
theorem Tryz.laysClone:LaysPu.n25 prog Tryz.laysClone_ren:=lyT
namespace YtmphmjkinmkidaaGreatDoor
open Go Go.Extern.Stop Go.Stop Go.Extern
theorem Old.of_below{w w':World}(h:Below w.heap.size w w'):Old w w':=⟨h.size,λi hi=>h.block i hi⟩
def mq(w:World):Prop:=Lib.Utf8Tabs (Tryz.laysValid_ren.g 3) (Tryz.laysValid_ren.g 4) w
theorem qy(s:ByteArray)(w:World)(hs:s.size<=70368744177000)(hT:mq w):
  Calls prog 72 #[.string s] w λe w'=>e=.returned (.bool (Lib.validD s.data.toList))/\Below w.heap.size w w':=
 Any.utf8_ValidString Tryz.laysValid s w Kc hT
theorem Dn(s:ByteArray)(w:World)(hs:s.size<=70368744177000):
  Calls prog 130 #[.string s] w λe w'=>e=.returned (.string s)/\Below w.heap.size w w':=
 AnyPu.stringslite_Clone Tryz.laysClone s w Kc
theorem zj(s:ByteArray)(w:World)(hs:s.size<=70368744177000):
  Calls prog 94 #[.string s] w λe w'=>e=.returned (.string s)/\Below w.heap.size w w':=by
 have hc:=Dn s w hs
 clear hs
 go_enter func94,ntmps94
 go_wp2_with (go_at_call 130;refine hc.mono ?_;rintro e w1 ⟨rfl,hb⟩)
 go_ret
 exact ⟨rfl,hb⟩
end YtmphmjkinmkidaaGreatDoor
end Go.Proofs
end
