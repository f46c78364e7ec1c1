import Derived.Shelf.Strings.BuilderRune
import Derived.Shelf.Strings.BuilderK
import Derived.Test.YtmphmjkinmkidaaGreatDoorS03
set_option linter.defProp false
open Go.Proofs.Tryz
set_option maxRecDepth 8000
set_option maxHeartbeats 4000000
namespace Go.Proofs.YtmphmjkinmkidaaGreatDoor
variable{p:Prop}
section
open Go Go.RowKit Go.Extern.Stop Go.Stop Go.Extern
def Z38(h:p:=by
 go_enter func170,ntmps170
 go_wp2_with (first
  |(go_at_call 77;refine (hJ4.wrong _ Ke).mono ?_;rintro e w9 ⟨⟨T,v,rfl⟩,hb⟩)
  |(go_at_call 185;refine (hf2 _ hJ3).mono ?_;rintro e w4 ⟨rfl,hJ4,hu4⟩)
  |(go_at_call 115;refine (gP hJ2 n2 _ rfl).mono ?_;rintro e w3 ⟨rfl,hJ3,hu3⟩)
  |(go_at_call 115;refine (gP hJ1 n1 _ rfl).mono ?_;rintro e w2 ⟨rfl,hJ2,hu2⟩)
  |(go_at_call 185;refine hf.mono ?_;rintro e w1 ⟨rfl,hJ1,hu1⟩))
 exact ⟨rfl,⟨_,_,rfl⟩,(((hu1.trans hu2).trans hu3).trans hu4).trans (hb.upd _)⟩):p:=h
def Z116(h:p:=by
 go_enter func170,ntmps170
 go_wp2_with (go_at_call 185;refine hf.mono ?_;rintro e w1 ⟨rfl,hJ1,hu1⟩)
 go_ret
 exact ⟨rfl,hJ1,hu1⟩):p:=h
def Z117(h:p:=by
 go_enter func140,ntmps140
 go_wp2_with (go_at_call 138;refine hn.mono ?_;rintro e w1 ⟨rfl,hJ1,hu1⟩)
 go_ret
 exact ⟨rfl,hJ1,hu1⟩):p:=h
theorem JL{h x:Nat}(h1:55296<=h)(h2:h<=56319)(h3:56320<=x)(h4:x<=57343):
  wrap32 (wrap32 (65536+wrap32 (wrap32 ((h:Int)-55296)*1024))+wrap32 ((x:Int)-56320))=((65536+(h-55296)*1024+(x-56320):Nat):Int):=by
 unfold wrap32
 omega
theorem FJ{w:World}{rb:Nat}{rs L:List Nat}(hJ:Jr w rb rs L):
  Calls prog 170 #[.pointer (some ⟨rb,0,none⟩)] w λe w'=>kK ((pV L).map λx=>(.int .i32 (x.1:Int),x.2)) rb rs w e w':=by
 have hf:=Bc hJ
 unfold pV
 cases hV:kY 4 0 L with
 |none=>
  rw [hV] at hf
  clear hJ hV
  go_enter func170,ntmps170
  go_wp2_with (go_at_call 185;refine hf.mono ?_;rintro e w1 ⟨⟨T,v,rfl⟩,hu1⟩)
  exact ⟨rfl,⟨_,_,rfl⟩,hu1⟩
 |some y=>
  obtain ⟨h,l⟩:=y
  rw [hV] at hf
  have hb:=ue 4 0 L h l hV
  have hb':h<65536:=NH
  clear hJ hV hb
  show Calls _ _ _ _ λe w'=>kK (Option.map _ (if h<55296 then some (h,l) else if 57343<h then some (h,l) else if 56319<h then none else _)) rb rs w e w'
  by_cases h1:h<55296
  ·rw [if_pos h1]
   have t1:((h:Int)<55296)=True:=eq_true Kc
   clear h1 hb'
   exact Z116
  rw [if_neg h1]
  have t1:((h:Int)<55296)=False:=eq_false Kc
  by_cases h2:57343<h
  ·rw [if_pos h2]
   have t2:(57343<(h:Int))=True:=eq_true Kc
   clear h1 hb' h2
   exact Z116
  rw [if_neg h2]
  have t2:(57343<(h:Int))=False:=eq_false Kc
  by_cases h3:56319<h
  ·rw [if_pos h3]
   have t3:(56319<(h:Int))=True:=eq_true Kc
   clear h1 hb' h2 h3
   go_enter func170,ntmps170
   go_wp2_with (first
    |(go_at_call 185;refine hf.mono ?_;rintro e w1 ⟨rfl,hJ1,hu1⟩)
    |(go_at_call 77;refine (hJ1.wrong _ Ke).mono ?_;rintro e w9 ⟨⟨T,v,rfl⟩,hb⟩))
   exact ⟨rfl,⟨_,_,rfl⟩,hu1.trans (hb.upd _)⟩
  rw [if_neg h3]
  have t3:(56319<(h:Int))=False:=eq_false Kc
  have HB:Hid (55296<=h/\h<=56319):=NI
  clear h1 hb' h2 h3
  cases n1:dY 92 l with
  |none=>
   have n1':=n1
   go_enter func170,ntmps170
   go_wp2_with (first
    |(go_at_call 77;refine (hJ2.wrong _ Ke).mono ?_;rintro e w9 ⟨⟨T,v,rfl⟩,hb⟩)
    |(go_at_call 115;refine (fQ hJ1 n1' _ rfl).mono ?_;rintro e w2 ⟨rfl,ha⟩;have hJ2:=hJ1.add ha)
    |(go_at_call 185;refine hf.mono ?_;rintro e w1 ⟨rfl,hJ1,hu1⟩))
   exact ⟨rfl,⟨_,_,rfl⟩,(hu1.trans (ha.upd _)).trans (hb.upd _)⟩
  |some l2=>
   show Calls _ _ _ _ λe w'=>kK (Option.map _ (match dY 117 l2 with|none=>none|some l=>_)) rb rs w e w'
   cases n2:dY 117 l2 with
   |none=>
    go_enter func170,ntmps170
    go_wp2_with (first
     |(go_at_call 77;refine (hJ3.wrong _ Ke).mono ?_;rintro e w9 ⟨⟨T,v,rfl⟩,hb⟩)
     |(go_at_call 115;refine (fQ hJ2 n2 _ rfl).mono ?_;rintro e w3 ⟨rfl,ha⟩;have hJ3:=hJ2.add ha)
     |(go_at_call 115;refine (gP hJ1 n1 _ rfl).mono ?_;rintro e w2 ⟨rfl,hJ2,hu2⟩)
     |(go_at_call 185;refine hf.mono ?_;rintro e w1 ⟨rfl,hJ1,hu1⟩))
    exact ⟨rfl,⟨_,_,rfl⟩,((hu1.trans hu2).trans (ha.upd _)).trans (hb.upd _)⟩
   |some l3=>
    show Calls _ _ _ _ λe w'=>kK (Option.map _ (match kY 4 0 l3 with|none=>none|some (x,l)=>_)) rb rs w e w'
    have hf2:=λw1 (hJ1:Jr w1 rb rs l3)=>Bc hJ1
    cases hV2:kY 4 0 l3 with
    |none=>
     rw [hV2] at hf2
     go_enter func170,ntmps170
     go_wp2_with (first
      |(go_at_call 185;refine (hf2 _ hJ3).mono ?_;rintro e w4 ⟨⟨T,v,rfl⟩,hu4⟩)
      |(go_at_call 115;refine (gP hJ2 n2 _ rfl).mono ?_;rintro e w3 ⟨rfl,hJ3,hu3⟩)
      |(go_at_call 115;refine (gP hJ1 n1 _ rfl).mono ?_;rintro e w2 ⟨rfl,hJ2,hu2⟩)
      |(go_at_call 185;refine hf.mono ?_;rintro e w1 ⟨rfl,hJ1,hu1⟩))
     exact ⟨rfl,⟨_,_,rfl⟩,((hu1.trans hu2).trans hu3).trans hu4⟩
    |some y=>
     obtain ⟨x,l4⟩:=y
     rw [hV2] at hf2
     have hb:=ue 4 0 l3 x l4 hV2
     have hb':x<65536:=NH
     clear hb
     show Calls _ _ _ _ λe w'=>kK (Option.map _ (if x<56320 then none else if 57343<x then none else _)) rb rs w e w'
     by_cases h4:x<56320
     ·rw [if_pos h4]
      have t4:((x:Int)<56320)=True:=eq_true Kc
      clear h4 hb'
      exact Z38
     rw [if_neg h4]
     have t4:((x:Int)<56320)=False:=eq_false Kc
     by_cases h5:57343<x
     ·rw [if_pos h5]
      have t5:(57343<(x:Int))=True:=eq_true Kc
      clear h4 h5 hb'
      exact Z38
     rw [if_neg h5]
     have t5:(57343<(x:Int))=False:=eq_false Kc
     have HX:Hid (56320<=x/\x<=57343):=NI
     clear h4 h5 hb'
     go_enter func170,ntmps170
     go_wp2_with (first
      |(go_at_call 185;refine (hf2 _ hJ3).mono ?_;rintro e w4 ⟨rfl,hJ4,hu4⟩)
      |(go_at_call 115;refine (gP hJ2 n2 _ rfl).mono ?_;rintro e w3 ⟨rfl,hJ3,hu3⟩)
      |(go_at_call 115;refine (gP hJ1 n1 _ rfl).mono ?_;rintro e w2 ⟨rfl,hJ2,hu2⟩)
      |(go_at_call 185;refine hf.mono ?_;rintro e w1 ⟨rfl,hJ1,hu1⟩))
     go_ret
     exact ⟨ret_i32 (JL HB.out.1 HB.out.2 HX.out.1 HX.out.2),hJ4,((hu1.trans hu2).trans hu3).trans hu4⟩
theorem Jp{w:World}{rb:Nat}{rs:List Nat}(hJ:Jr w rb rs []):
  Calls prog 140 #[.pointer (some ⟨rb,0,none⟩)] w λe w'=>fV e/\Upd rb w w':=by
 go_enter func140,ntmps140
 exact Z130
theorem esc_any{w:World}{rb:Nat}{rs L:List Nat}(hJ:Jr w rb rs L):
  Calls prog 140 #[.pointer (some ⟨rb,0,none⟩)] w λe w'=>kK ((yN L).map λx=>(.int .i32 (x.1:Int),x.2)) rb rs w e w':=by
 cases L with
 |nil=>exact Jp hJ
 |cons r l=>
  have hn:=qC hJ
  clear hJ
  rw [yN]
  by_cases e0:r=34
  ·subst e0
   rw [if_pos rfl]
   exact Z117
  have b0:((r:Int)==34)=false:=beq_eq_false_iff_ne.2 Kc
  by_cases e1:r=92
  ·subst e1
   rw [if_neg e0]
   rw [if_pos rfl]
   clear e0 b0
   exact Z117
  have b1:((r:Int)==92)=false:=beq_eq_false_iff_ne.2 Kc
  by_cases e2:r=47
  ·subst e2
   rw [if_neg e0]
   rw [if_neg e1]
   rw [if_pos rfl]
   clear e0 b0 e1 b1
   exact Z117
  have b2:((r:Int)==47)=false:=beq_eq_false_iff_ne.2 Kc
  by_cases e3:r=98
  ·subst e3
   rw [if_neg e0]
   rw [if_neg e1]
   rw [if_neg e2]
   rw [if_pos rfl]
   clear e0 b0 e1 b1 e2 b2
   exact Z117
  have b3:((r:Int)==98)=false:=beq_eq_false_iff_ne.2 Kc
  by_cases e4:r=102
  ·subst e4
   rw [if_neg e0]
   rw [if_neg e1]
   rw [if_neg e2]
   rw [if_neg e3]
   rw [if_pos rfl]
   clear e0 b0 e1 b1 e2 b2 e3 b3
   exact Z117
  have b4:((r:Int)==102)=false:=beq_eq_false_iff_ne.2 Kc
  by_cases e5:r=110
  ·subst e5
   rw [if_neg e0]
   rw [if_neg e1]
   rw [if_neg e2]
   rw [if_neg e3]
   rw [if_neg e4]
   rw [if_pos rfl]
   clear e0 b0 e1 b1 e2 b2 e3 b3 e4 b4
   exact Z117
  have b5:((r:Int)==110)=false:=beq_eq_false_iff_ne.2 Kc
  by_cases e6:r=114
  ·subst e6
   rw [if_neg e0]
   rw [if_neg e1]
   rw [if_neg e2]
   rw [if_neg e3]
   rw [if_neg e4]
   rw [if_neg e5]
   rw [if_pos rfl]
   clear e0 b0 e1 b1 e2 b2 e3 b3 e4 b4 e5 b5
   exact Z117
  have b6:((r:Int)==114)=false:=beq_eq_false_iff_ne.2 Kc
  by_cases e7:r=116
  ·subst e7
   rw [if_neg e0]
   rw [if_neg e1]
   rw [if_neg e2]
   rw [if_neg e3]
   rw [if_neg e4]
   rw [if_neg e5]
   rw [if_neg e6]
   rw [if_pos rfl]
   clear e0 b0 e1 b1 e2 b2 e3 b3 e4 b4 e5 b5 e6 b6
   exact Z117
  have b7:((r:Int)==116)=false:=beq_eq_false_iff_ne.2 Kc
  rw [if_neg e0,if_neg e1,if_neg e2,if_neg e3,if_neg e4,if_neg e5,if_neg e6,if_neg e7]
  by_cases e8:r=117
  ·subst e8
   rw [if_pos rfl]
   clear e0 b0 e1 b1 e2 b2 e3 b3 e4 b4 e5 b5 e6 b6 e7 b7
   have hpt:=λw1 (hJ1:Jr w1 rb rs l)=>FJ hJ1
   cases hp:pV l with
   |none=>
    rw [hp] at hpt
    go_enter func140,ntmps140
    go_wp2_with (first
     |(go_at_call 170;refine (hpt _ hJ1).mono ?_;rintro e w2 ⟨⟨T,v,rfl⟩,hu2⟩)
     |(go_at_call 138;refine hn.mono ?_;rintro e w1 ⟨rfl,hJ1,hu1⟩))
    exact ⟨rfl,⟨_,_,rfl⟩,hu1.trans hu2⟩
   |some y=>
    rw [hp] at hpt
    go_enter func140,ntmps140
    go_wp2_with (first
     |(go_at_call 170;refine (hpt _ hJ1).mono ?_;rintro e w2 ⟨rfl,hJ2,hu2⟩)
     |(go_at_call 138;refine hn.mono ?_;rintro e w1 ⟨rfl,hJ1,hu1⟩))
    go_ret
    exact ⟨rfl,hJ2,hu1.trans hu2⟩
  have b8:((r:Int)==117)=false:=beq_eq_false_iff_ne.2 Kc
  rw [if_neg e8]
  clear e0 e1 e2 e3 e4 e5 e6 e7 e8
  go_enter func140,ntmps140
  go_wp2_with (first
   |(go_at_call 77;refine (hJ1.wrong _ Ke).mono ?_;rintro e w9 ⟨⟨T,v,rfl⟩,hb⟩)
   |(go_at_call 138;refine hn.mono ?_;rintro e w1 ⟨rfl,hJ1,hu1⟩))
  exact ⟨rfl,⟨_,_,rfl⟩,hu1.trans (hb.upd _)⟩
end
end Go.Proofs.YtmphmjkinmkidaaGreatDoor
section
set_option maxRecDepth 100000
set_option maxHeartbeats 2000000
namespace Go.Proofs
open Go.RowKit Go.Shelf Go.Lib
def Tryz.laysAR_ren:Shelf.Ren:=⟨fun|242=>169|278=>184|n=>n,fun|37=>76|51=>248|46=>208|n=>n,fun|n=>n⟩
theorem Tryz.laysAR:Lays.n242 prog Tryz.laysAR_ren:=lyT
def Tryz.ren2:Ren:={ Tryz.laysAR_ren with t:=λn=>if n=72 then 78 else Tryz.laysAR_ren.t n }
theorem Tryz.laysAR2:Lays.n242 prog Tryz.ren2:={ Tryz.laysAR with }
theorem Tryz.extraAR:Builder.Extra prog Tryz.ren2 where
 sizeBuilder:=by kernel_rfl
 liesBuilder:=by kernel_rfl
 t5:=underlying5
 a5:=Tryz.isAgg5
 z5:=Tryz.sizeOf5
 v5:=Tryz.zeroValue5
 infoByte:=by kernel_rfl
 cellsByte:=by kernel_rfl
 sizeByte:=by kernel_rfl
 neB5:=by decide
theorem Tryz.infoB:∃j,prog.info? 78=some j/\j.size=2:=by
 have h:(prog.info? 78).map (·.size)=some 2:=by kernel_rfl
 obtain ⟨j,h1,h2⟩:=Option.map_eq_some_iff.1 h
 exact ⟨j,h1,h2⟩
theorem Tryz.liesB2:liesAt prog prog.depth 78 (2 / prog.cellsOf 78) 0 78 1=true:=by kernel_rfl
theorem Tryz.liesB3:liesAt prog prog.depth 80 (3 / prog.cellsOf 80) 0 78 1=true:=by kernel_rfl
namespace YtmphmjkinmkidaaGreatDoor
open Go Go.RowKit Go.Extern.Stop Go.Stop Go.Extern
variable {p:Prop}
def Y23(h:p:=by exact (show w'.cell? ⟨b,1,none⟩=w.cell? ⟨b,1,none⟩ from NY (a:=⟨b,1,none⟩) hb)):p:=h
def Z14(h:p:=by
 obtain ⟨v,c1,c2,c3⟩:=h.c1
 have hnil:=h.nil
 have mixed:prog.follows Departure.mixedOrders=true:=Kf
 clear h
 by_cases h0:acc=[]
 ·subst h0
  have c1':w.drew.cell? ⟨b,1,none⟩=some (.slice none 0 0):=hnil rfl
  have hSD:(Builtin.unsafeSliceData_ #[76] 117 #[.slice none 0 0]).run prog w.drew=.ok (.pointer none) w.drew:=rfl
  have hUS:(Builtin.unsafeString_ #[117,3] 9 #[.pointer none,.int .i64 0]).run prog w.drew=.ok (.string .empty) w.drew:=Lib.run_unsafeString_none _ _ _ _ _
  clear c2 c3 c1 hnil
  go_enter func29,ntmps29
  go_wp2
  go_region_o
  all_goals (go_wp2;go_ret;exact ⟨rfl,rfl,rfl,NL _,λ_ _=>rfl⟩)
 have hl0:acc.length≠0:=Nr
 obtain ⟨g,cap,cur,fz,rfl,hbg,hg,hfz,hnc,hcm,hcs,htake⟩:∃g cap cur fz,v=.slice (some ⟨g,0,none⟩) acc.length cap/\B<=g/\w.heap[g]?=some (.cells cur 5 fz)/\fz.2<=acc.length*1/\acc.length<=cap/\cap<=maxLen/\cur.size=cap*1/\cur.toList.take (acc.length*1)=Lib.byteCells acc:=by
  rcases c2.2 with ⟨_,hz⟩|⟨g,cap,cur,fz,hv,r⟩
  ·exact absurd hz hl0
  exact ⟨g,cap,cur,fz,hv,r⟩
 have c1':w.drew.cell? ⟨b,1,none⟩=some (.slice (some ⟨g,0,none⟩) acc.length cap):=c1
 have hSD:(Builtin.unsafeSliceData_ #[76] 117 #[.slice (some ⟨g,0,none⟩) acc.length cap]).run prog w.drew=.ok (.pointer (some ⟨g,0,none⟩)) w.drew:=
  Lib.run_unsafeSliceData_row _ _ _ _ _ _ Kc
 have hUS:(Builtin.unsafeString_ #[117,3] 9 #[.pointer (some ⟨g,0,none⟩),.int .i64 acc.length]).run prog w.drew=.ok (.string ⟨acc.toArray⟩) (w.drew.freeze ⟨g,0,none⟩ acc.length):=by
  refine Lib.run_unsafeString_row w.drew 117 3 9 5 underlying117 (Tryz.extraAR).cellsByte g cur.size (by have hg':w.drew.heap[g]?=some (.cells cur 5 fz):=hg;simp [World.shape?,hg']) acc h0 Kc (by unfold maxLen at hcm;omega) ?_
  intro j x hx
  exact c2.cells (g:=g) rfl j (.int .u8 x.toNat) (by simp [Lib.byteCells,hx])
 have HB:=Lib.below_freeze (Below.drew (Below.refl B w)) (p:=⟨g,0,none⟩) hbg acc.length
 have HH:Hid (Below B w (w.drew.freeze ⟨g,0,none⟩ acc.length)):=HB
 clear c2 c3 c1 hnil HB hg hcs htake hcm hnc hfz
 go_enter func29,ntmps29
 go_wp2
 go_region_o
 all_goals (go_wp2;go_ret;exact ⟨rfl,HH.out.os,HH.out.output,HH.out.size,HH.out.block⟩)):p:=h
def uG(w:World)(b:Nat):Prop:=w.shape? b=some (78,2)\/w.shape? b=some (80,3)
def nV(w:World)(i:Nat):Prop:=∀cs fz,w.heap[i]? ≠ some (.cells cs 5 fz)
structure Bld(w:World)(B b:Nat)(acc:List UInt8):Prop where
 ge:B<=b
 shape:uG w b
 c0:∃p,w.cell? ⟨b,0,none⟩=some (.pointer p)/\(p=none\/p=some ⟨b,0,none⟩)
 c1:∃v,w.cell? ⟨b,1,none⟩=some v/\w.ownsRowF B 5 1 v acc.length (Lib.byteCells acc)/\v.ownBlock≠some b
 f0:w.frozen? ⟨b,0,none⟩=false
 f1:w.frozen? ⟨b,1,none⟩=false
 nil:acc=[]->w.cell? ⟨b,1,none⟩=some (.slice none 0 0)
structure Bk(B b:Nat)(w w':World):Prop where
 os:w'.os=w.os
 output:w'.output=w.output
 size:w.heap.size<=w'.heap.size
 below:∀i,i<B->w'.heap[i]?=w.heap[i]?
 old:∀i,i<w.heap.size->i≠b->nV w i->w'.heap[i]?=w.heap[i]?
 rest:∀o,2<=o->w'.cell? ⟨b,o,none⟩=w.cell? ⟨b,o,none⟩/\w'.frozen? ⟨b,o,none⟩=w.frozen? ⟨b,o,none⟩
theorem Bk.refl(B b:Nat)(w:World):Bk B b w w:=⟨rfl,rfl,NL _,λ_ _=>rfl,λ_ _ _ _=>rfl,λ_ _=>⟨rfl,rfl⟩⟩
theorem Bk.trans{B b:Nat}{a w c:World}(h:Bk B b a w)(k:Bk B b w c):Bk B b a c:=
 ⟨k.os.trans h.os,k.output.trans h.output,NM h.size k.size,λi hi=>(k.below i hi).trans (h.below i hi),λi hi hd hne=>(k.old i (NK hi h.size) hd (by unfold nV;rw [h.old i hi hd hne];exact hne)).trans (h.old i hi hd hne),λo ho=>⟨(k.rest o ho).1.trans (h.rest o ho).1,(k.rest o ho).2.trans (h.rest o ho).2⟩⟩
theorem Bld.lt{w:World}{B b:Nat}{acc:List UInt8}(h:Bld w B b acc):b<w.heap.size:=by
 obtain ⟨v,h1,_⟩:=h.c1
 exact NW _ _ h1
theorem Bld.keep{w w':World}{B b:Nat}{acc:List UInt8}(h:Bld w B b acc)(k:∀i,B<=i->i<w.heap.size->w'.heap[i]?=w.heap[i]?):Bld w' B b acc:=by
 have hb:=k b h.ge h.lt
 obtain ⟨hB,hsh,⟨p,hp,hp'⟩,⟨v,h1,⟨hl,hv⟩,hne⟩,f0,f1,hnil⟩:=h
 have e1:=Y23
 have hsh':w'.shape? b=w.shape? b:=MF
 refine ⟨hB,by unfold uG;rw [hsh'];exact hsh,⟨p,(NY (a:=⟨b,0,none⟩) hb).trans hp,hp'⟩,⟨v,e1.trans h1,⟨hl,?_⟩,hne⟩,(Oa (a:=⟨b,0,none⟩) hb).trans f0,(Oa (a:=⟨b,1,none⟩) hb).trans f1,λe=>e1.trans (hnil e)⟩
 rcases hv with hv|⟨g,cap,cur,fz,h2,h3,h4,h5⟩
 ·exact .inl hv
 exact .inr ⟨g,cap,cur,fz,h2,h3,(k g h3 (Oh h4).1).trans h4,h5⟩
theorem rh(w:World)(a:Addr)(v:Value)(b:Nat):(w.setCell a v).shape? b=w.shape? b:=by
 unfold World.shape? World.setCell
 simp only [Array.getElem?_modify]
 by_cases h:a.block=b
 ·rw [if_pos h]
  cases w.heap[b]? with
  |none=>rfl
  |some o=>cases o <;> simp [apply_ite Array.size]
 rw [if_neg h]
theorem qX{w:World}{B b:Nat}{acc:List UInt8}(h:Bld w B b acc):
  Calls prog 106 #[.pointer (some ⟨b,0,none⟩)] w λe w'=>e=.returned (.tuple #[])/\Bld w' B b acc/\Bk B b w w':=by
 obtain ⟨p,hp,hp'⟩:=h.c0
 obtain ⟨j,hj,hjs⟩:=Tryz.infoB
 have H:Hid (Bld w B b acc):=h
 have f0:=h.f0
 rcases hp' with rfl|rfl
 ·obtain ⟨e,cells,hsh,hpos,hlies⟩:∃e cells,w.shape? b=some (e,cells)/\0<cells/\liesAt prog prog.depth e (cells / prog.cellsOf e) 0 78 1=true:=by
   rcases h.shape with h|h
   ·exact ⟨_,_,h,by decide,Tryz.liesB2⟩
   exact ⟨_,_,h,by decide,Tryz.liesB3⟩
  have h1:=Lib.run_to_unsafe (P:=prog) w ⟨b,0,none⟩ (src:=75) (dst:=128) underlying75 underlying128 hj (by rw [hjs];decide) hsh hpos
  have h2:=Lib.run_from_unsafe (P:=prog) w ⟨b,0,none⟩ (src:=128) (dst:=75) underlying128 underlying75 hj hsh hlies
  have h3:∀q:Value,(callFunc 135 #[q]).run prog w=.ok (.value q) w:=λq=>by
   rw [run_callFunc_extern func135 Kf Kf Kf (e:=Extern.AbiNoEscape.same) Kf,Lib.run_noEscape]
   rfl
  clear h hj hjs hsh hlies hpos
  go_enter func106,ntmps106
  go_wp2
  go_end0
  have hb:=H.out
  obtain ⟨v,c1,c2,c3⟩:=hb.c1
  have e1:(w.setCell ⟨b,0,none⟩ (.pointer (some ⟨b,0,none⟩))).cell? ⟨b,1,none⟩=some v:=(Ob _ _ _ _ Kh).trans c1
  refine ⟨rfl,⟨hb.ge,?_,⟨_,Oe _ _ _ hp,.inr rfl⟩,⟨v,e1,?_,c3⟩,by rw [Od];exact f0,by rw [Od];exact hb.f1,λe=>(Ob _ _ _ _ Kh).trans (hb.nil e)⟩,rfl,rfl,by simp,λi hi=>NZ w ⟨b,0,none⟩ _ i (by have:=hb.ge;show i≠b;omega),λi _ hn _=>NZ w ⟨b,0,none⟩ _ i hn,λo ho=>⟨Ob _ _ _ _ KN,Od _ _ _ _⟩⟩
  ·unfold uG
   rw [rh]
   exact hb.shape
  refine c2.kept (row:=some b) ⟨rfl,rfl,rfl,by simp,λk _ hk=>NZ _ _ _ _ (λe=>hk (by simp [e]))⟩ (Or.inr c3)
 clear h hjs
 have h3:=Lib.run_neq_ptr_same (P:=prog) w ⟨b,0,none⟩ underlying75 hj
 go_enter func106,ntmps106
 go_wp2
 go_end0
 exact ⟨rfl,H.out,Bk.refl _ _ _⟩
theorem Bld.stored{w w0 w1:World}{B b:Nat}{acc:List UInt8}(h:Bld w B b acc)(ha:Add w w0){v v':Value}(hv:w.cell? ⟨b,1,none⟩=some v)(hg:w0.grownBy w1 v.ownBlock){acc':List UInt8}(hrow:w1.ownsRowF B 5 1 v' acc'.length (Lib.byteCells acc'))(hnil:acc'=[]->v'=.slice none 0 0):
  Bld (w1.setCell ⟨b,1,none⟩ v') B b acc'/\Bk B b w (w1.setCell ⟨b,1,none⟩ v')/\w1.frozen? ⟨b,1,none⟩=false/\w1.cell? ⟨b,1,none⟩=some v:=by
 have hlt:=h.lt
 obtain ⟨v0,c1,c2,c3⟩:=h.c1
 obtain rfl:v0=v:=by rw [c1] at hv;cases hv;rfl
 have hb:w1.heap[b]?=w.heap[b]?:=(hg.block b (NK hlt ha.size) (λe=>c3 e.symm)).trans (ha.old b hlt)
 have hne:v'.ownBlock≠some b:=by
  have hsh:∃cs T fz,w1.heap[b]?=some (.cells cs T fz)/\T≠5:=by
   rw [hb]
   have hs:=h.shape
   unfold uG World.shape? at hs
   cases hh:w.heap[b]? with
   |none=>simp [hh] at hs
   |some o=>
    cases o with
    |cells cs T fz=>
     simp [hh] at hs
     exact ⟨cs,T,fz,rfl,by rcases hs with ⟨e,_⟩|⟨e,_⟩ <;> rw [e] <;> decide⟩
    |_=>simp [hh] at hs
  obtain ⟨cs,T,fz,h1,h2⟩:=hsh
  exact Lib.ownBlock_neF hrow h1 h2
 have d0:w1.cell? ⟨b,0,none⟩=w.cell? ⟨b,0,none⟩:=NY (a:=⟨b,0,none⟩) hb
 have d1:w1.cell? ⟨b,1,none⟩=some v0:=(NY (a:=⟨b,1,none⟩) hb).trans c1
 have e1:(w1.setCell ⟨b,1,none⟩ v').cell? ⟨b,1,none⟩=some v':=Oe _ _ _ d1
 obtain ⟨p,hp,hp'⟩:=h.c0
 have hrb:∀i,v0.ownBlock=some i->B<=i/\¬ nV w i:=by
  intro i hi
  rcases c2.2 with ⟨rfl,_⟩|⟨g,cap,cur,fz,rfl,h3,h4,_⟩
  ·cases hi
  cases hi
  exact ⟨h3,λhh=>hh _ _ h4⟩
 refine ⟨⟨h.ge,?_,⟨p,(Ob _ _ _ _ Kh).trans (d0.trans hp),hp'⟩,⟨v',e1,?_,hne⟩,?_,?_,λe=>e1.trans (by rw [hnil e])⟩,⟨?_,?_,?_,?_,?_,?_⟩,(Oa (a:=⟨b,1,none⟩) hb).trans h.f1,d1⟩
 ·unfold uG
  rw [rh]
  have:w1.shape? b=w.shape? b:=MF
  rw [this]
  exact h.shape
 ·exact hrow.kept (row:=some b) ⟨rfl,rfl,rfl,by simp,λk _ hk=>NZ _ _ _ _ (λe=>hk (by simp [e]))⟩ (Or.inr hne)
 ·rw [Od]
  exact (Oa (a:=⟨b,0,none⟩) hb).trans h.f0
 ·rw [Od]
  exact (Oa (a:=⟨b,1,none⟩) hb).trans h.f1
 ·show w1.os=w.os
  rw [hg.os,ha.os]
 ·show w1.output=w.output
  rw [hg.output,ha.output]
 ·have h1:=hg.size
  have h2:=ha.size
  simp
  omega
 ·intro i hi
  have hib:i≠b:=by have:=h.ge;omega
  have hil:i<w.heap.size:=by have:=h.ge;omega
  rw [NZ w1 ⟨b,1,none⟩ v' i hib,hg.block i (NK hil ha.size) (λe=>by have:=hrb i e.symm;omega),ha.old i hil]
 ·intro i hi hib hio
  rw [NZ w1 ⟨b,1,none⟩ v' i hib,hg.block i (NK hi ha.size) (λe=>(hrb i e.symm).2 hio),ha.old i hi]
 intro o ho
 exact ⟨(Ob _ _ _ _ KN).trans (NY (a:=⟨b,o,none⟩) hb),by rw [Od];exact Oa (a:=⟨b,o,none⟩) hb⟩
theorem qL{w:World}{B b:Nat}{acc:List UInt8}(h:Bld w B b acc)(r:Int)(h0 : -2147483648<=r)(h1:r<=2147483647)(hlen:acc.length<=1000000):
  Calls prog 139 #[.pointer (some ⟨b,0,none⟩),.int .i32 r] w λe w'=>(∃v,e=.returned v)/\Bld w' B b (acc++Lib.encodeRune r)/\Bk B b w w':=by
 have hc:=qX h
 have hap:∀w1,Bld w1 B b acc->∃v,w1.cell? ⟨b,1,none⟩=some v/\(∃a c,v=.slice a acc.length c)/\Calls prog 169 #[v,.int .i32 r] w1 λe w'=>∃v':Value,e=.returned v'/\(∃a c,v'=.slice a (acc++Lib.encodeRune r).length c)/\Bld (w'.setCell ⟨b,1,none⟩ v') B b (acc++Lib.encodeRune r)/\Bk B b w1 (w'.setCell ⟨b,1,none⟩ v')/\w'.frozen? ⟨b,1,none⟩=false/\w'.cell? ⟨b,1,none⟩=some v:=by
  intro w1 hb
  obtain ⟨v,c1,c2,c3⟩:=hb.c1
  have hsh:∀ {wx:World} {n:Nat} {x:Value} {xs:List Value},wx.ownsRowF B 5 1 x n xs->∃a c,x=.slice a n c:=by
   intro wx n x xs hx
   rcases hx.2 with ⟨hv,h0⟩|⟨g,cap,cur,fz,hv,_⟩
   ·exact ⟨none,0,by rw [hv,h0]⟩
   exact ⟨_,_,hv⟩
  refine ⟨v,c1,hsh c2,?_⟩
  refine (Any.utf8_AppendRune_own Tryz.laysAR2 Tryz.extraAR B v acc.length (Lib.byteCells acc) r h0 h1 w1 c2 Kc (Nat.le_of_lt (Nat.lt_of_le_of_lt hb.ge hb.lt))).mono ?_
  rintro e w' ⟨v',rfl,hrow,o,hg⟩
  have hrow':w'.ownsRowF B 5 1 v' (acc++Lib.encodeRune r).length (Lib.byteCells (acc++Lib.encodeRune r)):=by
   rw [Lib.byteCells_append,Lib.byteCells_encodeRune,List.length_append,<-Lib.runeCells_length]
   exact hrow
  obtain ⟨k1,k2,k3,k4⟩:=hb.stored (ae w1 o) c1 hg hrow' (λe=>by rw [List.append_eq_nil_iff] at e;have:=Lib.runeCells_le r;rw [Lib.runeCells_length,e.2] at this;simp at this)
  exact ⟨v',rfl,hsh hrow',k1,k2,k3,k4⟩
 have hle:=Lib.runeCells_le r
 rw [Lib.runeCells_length] at hle
 have hl2:(acc++Lib.encodeRune r).length<=1000004:=Ms
 generalize acc++Lib.encodeRune r=acc2 at *
 clear h hle
 go_enter func139,ntmps139
 go_wp2_with (go_at_call 106;refine hc.mono ?_;rintro e w1 ⟨rfl,hb1,hk1⟩;obtain ⟨v,c1,⟨a,c,rfl⟩,hap'⟩:=hap _ hb1)
 go_wp2_with (go_at_call 169;refine hap'.mono ?_;rintro e w2 ⟨v',rfl,⟨a',c',rfl⟩,hb2,hk2,hf2,hd2⟩)
 go_wp2
 go_ret2
 exact ⟨⟨_,rfl⟩,hb2,hk1.trans hk2⟩
theorem yX{w:World}{B n:Nat}{v:Value}{xs:List Value}(h:w.ownsRowF B 5 1 v n xs):∃a c,v=.slice a n c:=by
 rcases h.2 with ⟨hv,h0⟩|⟨g,cap,cur,fz,hv,_⟩
 ·exact ⟨none,0,by rw [hv,h0]⟩
 exact ⟨_,_,hv⟩
theorem Bi(s:ByteArray):strCells s=Lib.byteCells s.data.toList:=rfl
theorem Bld.stored_str{w w1:World}{B b:Nat}{acc:List UInt8}(h:Bld w B b acc){v v':Value}{s:ByteArray}(hv:w.cell? ⟨b,1,none⟩=some v)(hg:w.grownBy w1 v.ownBlock)(hrow:w1.ownsRowF B 5 1 v' (acc.length+s.size) (Lib.byteCells acc++strCells s))(hn:v'=.slice none 0 0↔v=.slice none 0 0/\s.size=0):
  Bld (w1.setCell ⟨b,1,none⟩ v') B b (acc++s.data.toList)/\Bk B b w (w1.setCell ⟨b,1,none⟩ v')/\w1.frozen? ⟨b,1,none⟩=false/\w1.cell? ⟨b,1,none⟩=some v:=by
 refine h.stored (Add.refl w) hv hg ?_ ?_
 ·rw [Lib.byteCells_append,List.length_append,<-Bi]
  exact hrow
 intro e
 rw [List.append_eq_nil_iff] at e
 have h1:=h.nil e.1
 rw [hv] at h1
 refine hn.2 ⟨by simpa using h1,?_⟩
 have:=congrArg List.length e.2
 simpa using this
theorem Bl{w:World}{B b:Nat}{acc:List UInt8}(h:Bld w B b acc)(hlen:acc.length<=10000000):
  Calls prog 29 #[.pointer (some ⟨b,0,none⟩)] w λe w'=>e=.returned (.string ⟨acc.toArray⟩)/\w'.os=w.os/\w'.output=w.output/\w.heap.size<=w'.heap.size/\∀i,i<B->w'.heap[i]?=w.heap[i]?:=by
 exact Z14
end YtmphmjkinmkidaaGreatDoor
end Go.Proofs
end
namespace Go.Proofs.YtmphmjkinmkidaaGreatDoor
variable{p:Prop}
section
open Go Go.RowKit Go.Extern.Stop Go.Stop Go.Extern
variable{L l:List Nat}{B b rb:Nat}{w w':World}
def Z217(h:p:=by
 show _/\_
 rw [List.length_append]
 omega):p:=h
theorem lv(r:Int):(Lib.encodeRune r).length<=4:=by
 have h:=(Lib.runeCells_le r).2
 rwa [Lib.runeCells_length] at h
theorem rV{c:Nat}(h:pV L=some (c,l)):l.length<L.length/\c<=1114111:=by
 unfold pV at h
 cases hV:kY 4 0 L with
 |none=>rw [hV] at h;cases h
 |some y=>
  obtain ⟨x,l1⟩:=y
  rw [hV] at h
  have hb:=ue 4 0 L x l1 hV
  have hx:x<65536:=NH
  change (if x<55296 then some (x,l1) else if 57343<x then some (x,l1) else if 56319<x then none else match dY 92 l1 with|none=>none|some l=>match dY 117 l with|none=>none|some l=>match kY 4 0 l with|none=>none|some (y,l)=>if y<56320 then none else if 57343<y then none else some (65536+(x-55296)*1024+(y-56320),l))=some (c,l) at h
  split at h
  ·cases h
   exact ⟨by omega,by omega⟩
  split at h
  ·cases h
   exact ⟨by omega,by omega⟩
  split at h
  ·cases h
  cases n1:dY 92 l1 with
  |none=>rw [n1] at h;cases h
  |some l2=>
   rw [n1] at h
   cases n2:dY 117 l2 with
   |none=>simp [n2] at h
   |some l3=>
    simp only [n2] at h
    cases hV2:kY 4 0 l3 with
    |none=>simp [hV2] at h
    |some y=>
     obtain ⟨z,l4⟩:=y
     simp only [hV2] at h
     have hb2:=ue 4 0 l3 z l4 hV2
     have e1:=congrArg List.length (gW n1)
     have e2:=congrArg List.length (gW n2)
     simp at e1 e2
     split at h
     ·cases h
     split at h
     ·cases h
     have h1:=congrArg Prod.fst (Option.some.inj h)
     have h2:=congrArg Prod.snd (Option.some.inj h)
     simp only at h1 h2
     rw [<-h2]
     exact ⟨by omega,by omega⟩
theorem rY{c:Nat}(h:yN L=some (c,l)):l.length<L.length/\c<=1114111:=by
 cases L with
 |nil=>cases h
 |cons r t=>
  rw [yN] at h
  by_cases h1:r=117
  ·subst h1
   simp only [show ¬ (117=34) by omega,show ¬ (117=92) by omega,show ¬ (117=47) by omega,show ¬ (117=98) by omega,show ¬ (117=102) by omega,show ¬ (117=110) by omega,show ¬ (117=114) by omega,show ¬ (117=116) by omega,if_false,if_pos] at h
   have:=rV h
   exact ⟨by simp;omega,this.2⟩
  rw [if_neg h1] at h
  repeat' split at h
  all_goals (cases h;try exact ⟨by simp,by omega⟩)
theorem uQ:∀(f:Nat) (acc:List UInt8) (L:List Nat) (s:ByteArray) (l:List Nat),mZ f acc L=some (s,l)->s.size+4*l.length<=acc.length+4*L.length/\l.length<L.length
 |0,acc,L,s,l,h=>by rw [mZ] at h;cases h
 |f+1,acc,[],s,l,h=>by rw [mZ] at h;cases h
 |f+1,acc,r::L,s,l,h=>by
  rw [mZ] at h
  split at h
  ·cases h
   constructor
   ·show acc.toArray.size+_<=_
    simp
    omega
   simp
  split at h
  ·cases he:yN L with
   |none=>rw [he] at h;cases h
   |some y=>
    obtain ⟨c,l1⟩:=y
    rw [he] at h
    have h1:=uQ f _ l1 s l h
    have h2:=(rY he).1
    have h3:=lv c
    rw [List.length_append] at h1
    simp
    omega
  split at h
  ·cases h
  have h1:=uQ f _ L s l h
  have h3:=lv r
  rw [List.length_append] at h1
  simp
  omega
theorem qA{s:ByteArray}(h:qD L=some (s,l)):s.size+4*l.length<=4*L.length/\l.length<L.length:=by
 unfold qD at h
 cases n:dY 34 L with
 |none=>rw [n] at h;cases h
 |some t=>
  rw [n] at h
  have h1:=uQ _ _ _ _ _ h
  have e:=congrArg List.length (gW n)
  simp at e h1
  omega
theorem Upd.bld{acc:List UInt8}(h:Upd rb w w')(hb:Bld w B b acc)(hr:rb<B):Bld w' B b acc:=hb.keep λi hi hl=>h.old i hl Kc
theorem Bk.jr{rs:List Nat}(h:Bk B b w w')(hJ:Jr w rb rs L)(hr:rb<B):Jr w' rb rs L:=hJ.below hr h.size h.below
theorem Bk.n(h:Bk B b w w'):UpdN B rb w w':=⟨h.os,h.output,h.size,λi hi _=>h.below i hi⟩
theorem GM(w:World):Bld (w.alloc (.cells #[.pointer none,.slice none 0 0] 78)) w.heap.size w.heap.size []:=by
 have hh:(w.alloc (.cells #[.pointer none,.slice none 0 0] 78)).heap[w.heap.size]?=some (.cells #[.pointer none,.slice none 0 0] 78 (0,0)):=by
  exact Z213
 refine ⟨NL _,.inl (by unfold World.shape?;rw [hh];rfl),⟨none,by unfold World.cell?;rw [hh];rfl,.inl rfl⟩,⟨.slice none 0 0,by unfold World.cell?;rw [hh];rfl,⟨rfl,.inl ⟨rfl,rfl⟩⟩,by simp [Value.ownBlock]⟩,by unfold World.frozen?;rw [hh];rfl,by unfold World.frozen?;rw [hh];rfl,λ_=>by unfold World.cell?;rw [hh];rfl⟩
theorem Bn{rs:List Nat}(hJ:Jr w rb rs L):
  Calls prog 109 #[.pointer (some ⟨rb,0,none⟩)] w λe w'=>kK ((qD L).map λx=>(.string x.1,x.2)) rb rs w e w':=by
 have hlen:=hJ.len
 unfold qD
 cases n:dY 34 L with
 |none=>
  go_enter func109,ntmps109
  go_wp2_with (go_at_call 137;refine (qd hJ n _ rfl).mono ?_;rintro e w1 ⟨⟨T,v,rfl⟩,hu⟩)
  exact ⟨rfl,⟨_,_,rfl⟩,hu⟩
 |some l0=>
  have hl0:l0.length<4000:=by
   have e:=congrArg List.length (gW n)
   simp at e
   omega
  show Calls _ _ _ _ λe w'=>kK ((mZ (l0.length+1) [] l0).map _) rb rs w e w'
  generalize hV:mZ (l0.length+1) [] l0=V
  clear hlen
  go_enter func109,ntmps109
  go_wp2_with (go_at_call 137;refine (ul hJ n _ rfl).mono ?_;rintro e w1 ⟨rfl,hJ1,hu1⟩)
  have hrb:rb<w1.heap.size:=hJ1.rlt
  go_loopw [] (λwr=>∃L1 acc f,Bld wr w1.heap.size w1.heap.size acc/\Jr wr rb rs L1/\mZ f acc L1=V/\L1.length<f/\acc.length+4*L1.length<=16000/\UpdN w1.heap.size rb w1 wr) (λwr=>rs.length-lM wr rb)
  case atStart=>exact ⟨l0,[],l0.length+1,GM w1,hJ1.add (ae _ _),hV,by omega,by simp;omega,((ae w1 _).upd rb).n (NL _)⟩
  obtain ⟨L1,acc,f1,hB,hJr,hq,hf,hacc,hu⟩:=hrel
  have HU:Hid (UpdN w1.heap.size rb w1 wr):=hu
  have hsz:w1.heap.size<=wr.heap.size:=hu.size
  clear hJ hJ1 hV hu
  obtain ⟨f,rfl⟩:=Y19
  cases L1 with
  |nil=>
   rw [mZ] at hq
   subst hq
   clear hf hacc
   go_wp2_with (go_at_call 138;refine (zL hJr).mono ?_;rintro e w2 ⟨⟨T,v,rfl⟩,hu2⟩)
   exact ⟨rfl,⟨_,_,rfl⟩,hu1.trans ((HU.out.trans (hu2.n hsz)).upd (NL _))⟩
  |cons r l=>
   have hr:=hJr.max r Kh
   have hnx:=qC hJr
   have HP:Hid (lM wr rb+(r::l).length=rs.length):=hJr.pos
   rw [mZ] at hq
   simp only [List.length_cons] at hf hacc
   by_cases e34:r=34
   ·subst e34
    rw [if_pos rfl] at hq
    subst hq
    clear hf
    go_wp2_with (first
     |(go_at_call 138;refine hnx.mono ?_;rintro e w2 ⟨rfl,hJ2,hu2⟩;have hB2:=hu2.bld hB hrb)
     |(go_at_call 29;refine (Bl hB2 Kc).mono ?_;rintro e w3 ⟨rfl,h1,h2,h3,h4⟩))
    go_ret
    exact ⟨rfl,hJ2.below hrb h3 h4,hu1.trans (((HU.out.trans (hu2.n hsz)).trans ⟨h1,h2,h3,λi hi _=>h4 i hi⟩).upd (NL _))⟩
   rw [if_neg e34] at hq
   have b34:((r:Int)==34)=false:=beq_eq_false_iff_ne.2 Kc
   by_cases e92:r=92
   ·subst e92
    rw [if_pos rfl] at hq
    have hes:=λw1 (h1:Jr w1 rb rs l)=>esc_any h1
    cases he:yN l with
    |none=>
     rw [he] at hq hes
     subst hq
     clear hf hacc e34 b34
     go_wp2_with (first
      |(go_at_call 140;refine (hes _ hJ2).mono ?_;rintro e w3 ⟨⟨T,v,rfl⟩,hu3⟩)
      |(go_at_call 138;refine hnx.mono ?_;rintro e w2 ⟨rfl,hJ2,hu2⟩))
     exact ⟨rfl,⟨_,_,rfl⟩,hu1.trans ((HU.out.trans ((hu2.trans hu3).n hsz)).upd (NL _))⟩
    |some y=>
     obtain ⟨c,l2⟩:=y
     rw [he] at hq hes
     obtain ⟨hl2,hc⟩:=rY he
     have h4:=lv c
     have HQ:Hid (mZ f (acc++Lib.encodeRune c) l2=V):=hq
     have HF:Hid (l2.length<f/\(acc++Lib.encodeRune c).length+4*l2.length<=16000):=by
      exact Z217
     have HL:Hid (l2.length<l.length):=hl2
     have hwr:=λw9 (h1:Bld w9 w1.heap.size w1.heap.size acc)=>qL h1 (c:Int) Kc Kc Kc
     clear hf hacc hq he hl2 hc h4 hr e34 b34
     go_wp2_with (first
      |(go_at_call 139;refine (hwr _ hB3).mono ?_;rintro e w4 ⟨⟨v,rfl⟩,hB4,hk4⟩)
      |(go_at_call 140;refine (hes _ hJ2).mono ?_;rintro e w3 ⟨rfl,hJ3,hu3⟩;have hB3:=(hu2.trans hu3).bld hB hrb)
      |(go_at_call 138;refine hnx.mono ?_;rintro e w2 ⟨rfl,hJ2,hu2⟩))
     have hJ4:=hk4.jr hJ3 hrb
     go_roundw
     case rel=>exact ⟨l2,acc++Lib.encodeRune c,f,hB4,hJ4,HQ.out,HF.out.1,HF.out.2,(HU.out.trans ((hu2.trans hu3).n hsz)).trans hk4.n⟩
     have h1:=HP.out
     have h2:=hJ4.pos
     have h3:=HL.out
     simp at h1
     omega
   rw [if_neg e92] at hq
   have b92:((r:Int)==92)=false:=beq_eq_false_iff_ne.2 Kc
   by_cases e32:r<32
   ·rw [if_pos e32] at hq
    subst hq
    have t32:((r:Int)<32)=True:=eq_true Kc
    clear hf hacc hr e34 e92 e32
    go_wp2_with (first
     |(go_at_call 77;refine (hJ2.wrong _ Ke).mono ?_;rintro e w3 ⟨⟨T,v,rfl⟩,hb⟩)
     |(go_at_call 138;refine hnx.mono ?_;rintro e w2 ⟨rfl,hJ2,hu2⟩))
    exact ⟨rfl,⟨_,_,rfl⟩,hu1.trans ((HU.out.trans ((hu2.trans (hb.upd _)).n hsz)).upd (NL _))⟩
   rw [if_neg e32] at hq
   have t32:((r:Int)<32)=False:=eq_false Kc
   have h4:=lv r
   have HQ:Hid (mZ f (acc++Lib.encodeRune r) l=V):=hq
   have HF:Hid (l.length<f/\(acc++Lib.encodeRune r).length+4*l.length<=16000):=by
    exact Z217
   have hwr:=λw9 (h1:Bld w9 w1.heap.size w1.heap.size acc)=>qL h1 (r:Int) Kc Kc Kc
   clear hf hacc hq h4 hr e34 e92 e32
   go_wp2_with (first
    |(go_at_call 139;refine (hwr _ hB3).mono ?_;rintro e w4 ⟨⟨v,rfl⟩,hB4,hk4⟩)
    |(go_at_call 138;refine hnx.mono ?_;rintro e w2 ⟨rfl,hJ2,hu2⟩;have hB3:=hu2.bld hB hrb))
   have hJ4:=hk4.jr hJ2 hrb
   go_roundw
   case rel=>exact ⟨l,acc++Lib.encodeRune r,f,hB4,hJ4,HQ.out,HF.out.1,HF.out.2,(HU.out.trans (hu2.n hsz)).trans hk4.n⟩
   have h1:=HP.out
   have h2:=hJ4.pos
   simp at h1
   omega
end
end Go.Proofs.YtmphmjkinmkidaaGreatDoor
