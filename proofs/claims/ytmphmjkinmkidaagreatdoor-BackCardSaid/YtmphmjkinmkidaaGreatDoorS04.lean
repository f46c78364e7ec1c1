import Derived.Test.YtmphmjkinmkidaaGreatDoorS03
set_option linter.defProp false
open Go.Proofs.Tryz
set_option maxRecDepth 8000
set_option maxHeartbeats 4000000
namespace Go.Proofs.YtmphmjkinmkidaaGreatDoor
variable{p:Prop}
section
open Go Go.RowKit Go.Extern.Stop Go.Stop Go.Extern
variable{L rs:List Nat}{w:World}{rb:Nat}
theorem kW{c:Nat}{l:List Nat}(h:dY c L=some l):l.length<L.length:=by
 rw [gW h]
 simp
theorem ja:∀L:List Nat,(dK L).length<=L.length
 |[]=>NL _
 |r::l=>by
  rw [dK]
  split
  ·have:=ja l
   simp
   omega
  exact NL _
theorem xS(hJ:Jr w rb rs L)(f l:Int):
  Calls prog 141 #[.pointer (some ⟨rb,0,none⟩),.int .i32 f,.int .i32 l,.int .i64 33] w λe w'=>fV e/\Upd rb w w':=by
 go_enter func141,ntmps141
 go_wp2_with (first
  |(go_at_call 77;refine (hJ7.wrong _ ?_).mono ?_;rotate_left;rintro e w8 ⟨⟨T,v,rfl⟩,hb⟩)
  |(go_at_call 68;refine (hJ.itoa _ Kc Kc).mono ?_;rintro e w7 ⟨s7,rfl,hs7,ha7⟩;have hJ7:=hJ.add ha7))
 ·exact ⟨rfl,⟨_,_,rfl⟩,(ha7.trans hb).upd _⟩
 exact sz3 Ke hs7 Ke
theorem zb(hJ:Jr w rb rs L)(f l:Nat)(x y:Int)(hx:x=f)(hy:y=l)(depth:Int)(hd:depth<=32):
  Calls prog 141 #[.pointer (some ⟨rb,0,none⟩),.int .i32 x,.int .i32 y,.int .i64 depth] w λe w'=>kK ((lD f l L).map λx=>(.bool x.1,x.2)) rb rs w e w':=by
 have td:(32<depth)=False:=eq_false Kc
 have td2:(depth > 32)=False:=eq_false Kc
 clear hd
 unfold lD
 cases n:dY f L with
 |none=>
  have hn:=qd hJ n x hx
  clear hx hy
  go_enter func141,ntmps141
  go_wp2_with (first
   |(go_at_call 137;refine hn.mono ?_;rintro e w1 ⟨⟨T,v,rfl⟩,hu1⟩))
  exact ⟨rfl,⟨_,_,rfl⟩,hu1⟩
 |some l1=>
  have hn:=ul hJ n x hx
  show Calls _ _ _ _ λe w'=>kK (Option.map _ (match dY l (dK l1) with|some l=>some (true,l)|none=>some (false,dK l1))) rb rs w e w'
  cases m:dY l (dK l1) with
  |none=>
   have ht:=λw1 (h1:Jr w1 rb rs (dK l1))=>fQ h1 m y hy
   clear hx hy
   go_enter func141,ntmps141
   go_wp2_with (first
    |(go_at_call 115;refine (ht _ hJ2).mono ?_;rintro e w3 ⟨rfl,ha3⟩)
    |(go_at_call 75;refine (ed hJ1).mono ?_;rintro e w2 ⟨rfl,hJ2,hu2⟩)
    |(go_at_call 137;refine hn.mono ?_;rintro e w1 ⟨rfl,hJ1,hu1⟩))
   go_ret
   exact ⟨rfl,hJ2.add ha3,(hu1.trans hu2).trans (ha3.upd _)⟩
  |some l2=>
   have ht:=λw1 (h1:Jr w1 rb rs (dK l1))=>gP h1 m y hy
   clear hx hy
   go_enter func141,ntmps141
   go_wp2_with (first
    |(go_at_call 115;refine (ht _ hJ2).mono ?_;rintro e w3 ⟨rfl,hJ3,hu3⟩)
    |(go_at_call 75;refine (ed hJ1).mono ?_;rintro e w2 ⟨rfl,hJ2,hu2⟩)
    |(go_at_call 137;refine hn.mono ?_;rintro e w1 ⟨rfl,hJ1,hu1⟩))
   go_ret
   exact ⟨rfl,hJ3,(hu1.trans hu2).trans hu3⟩
theorem CB(hJ:Jr w rb rs L)(l:Nat)(y:Int)(hy:y=l):
  Calls prog 142 #[.pointer (some ⟨rb,0,none⟩),.int .i32 y] w λe w'=>kK ((nX l L).map λx=>(.bool x.1,x.2)) rb rs w e w':=by
 unfold nX
 cases n:dY 44 (dK L) with
 |some l1=>
  clear hy
  go_enter func142,ntmps142
  go_wp2_with (first
   |(go_at_call 115;refine (gP hJ1 n _ rfl).mono ?_;rintro e w2 ⟨rfl,hJ2,hu2⟩)
   |(go_at_call 75;refine (ed hJ).mono ?_;rintro e w1 ⟨rfl,hJ1,hu1⟩))
  go_ret
  exact ⟨rfl,hJ2,hu1.trans hu2⟩
 |none=>
  show Calls _ _ _ _ λe w'=>kK (Option.map _ (match dY l (dK L) with|some l=>some (true,l)|none=>none)) rb rs w e w'
  cases m:dY l (dK L) with
  |none=>
   have hn:=λw1 (h1:Jr w1 rb rs (dK L))=>qd h1 m y hy
   clear hy
   go_enter func142,ntmps142
   go_wp2_with (first
    |(go_at_call 137;refine (hn _ hJ2).mono ?_;rintro e w3 ⟨⟨T,v,rfl⟩,hu3⟩)
    |(go_at_call 115;refine (fQ hJ1 n _ rfl).mono ?_;rintro e w2 ⟨rfl,ha2⟩;have hJ2:=hJ1.add ha2)
    |(go_at_call 75;refine (ed hJ).mono ?_;rintro e w1 ⟨rfl,hJ1,hu1⟩))
   exact ⟨rfl,⟨_,_,rfl⟩,(hu1.trans (ha2.upd _)).trans hu3⟩
  |some l2=>
   have hn:=λw1 (h1:Jr w1 rb rs (dK L))=>ul h1 m y hy
   clear hy
   go_enter func142,ntmps142
   go_wp2_with (first
    |(go_at_call 137;refine (hn _ hJ2).mono ?_;rintro e w3 ⟨rfl,hJ3,hu3⟩)
    |(go_at_call 115;refine (fQ hJ1 n _ rfl).mono ?_;rintro e w2 ⟨rfl,ha2⟩;have hJ2:=hJ1.add ha2)
    |(go_at_call 75;refine (ed hJ).mono ?_;rintro e w1 ⟨rfl,hJ1,hu1⟩))
   go_ret
   exact ⟨rfl,hJ3,(hu1.trans (ha2.upd _)).trans hu3⟩
end
section
open Go Go.RowKit
variable{W:World}{B:Nat}
def Z71(h:p:=by
 rw [NZ _ _ _ _ KV,NZ _ _ _ _ KV,NZ _ _ _ _ KV,NZ _ _ _ _ KV,NZ _ _ _ _ KV,NZ _ _ _ _ KV]):p:=h
def dV(W:World)(B:Nat)(v0 v1 v2 v3 v4 v5:Value):World:=
 (((((W.setCell ⟨B,0,none⟩ v0).setCell ⟨B,1,none⟩ v1).setCell ⟨B,2,none⟩ v2).setCell ⟨B,3,none⟩ v3).setCell ⟨B,4,none⟩ v4).setCell ⟨B,5,none⟩ v5
structure Six(W:World)(B:Nat):Prop where
 there:∀k,k<6->∃v,W.cell? ⟨B,k,none⟩=some v
 thaw:∀k,W.frozen? ⟨B,k,none⟩=false
theorem Six.set(h:Six W B)(o:Nat)(x:Value):Six (W.setCell ⟨B,o,none⟩ x) B:=by
 refine ⟨λk hk=>?_,λk=>by rw [Od];exact h.thaw k⟩
 obtain ⟨v,hv⟩:=h.there k hk
 by_cases e:k=o
 ·subst e
  exact ⟨x,Oe _ _ _ hv⟩
 exact ⟨v,(Ob _ _ _ _ KN).trans hv⟩
theorem Six.of_heap{v0 v1 v2 v3 v4 v5:Value}{T:TypeId}(h:W.heap[B]?=some (.cells #[v0,v1,v2,v3,v4,v5] T (0,0))):Six W B:=by
 refine ⟨λk hk=>?_,λk=>by unfold World.frozen?;rw [h];simp⟩
 match k,hk with
 |0,_=>exact ⟨v0,by unfold World.cell?;rw [h];rfl⟩
 |1,_=>exact ⟨v1,by unfold World.cell?;rw [h];rfl⟩
 |2,_=>exact ⟨v2,by unfold World.cell?;rw [h];rfl⟩
 |3,_=>exact ⟨v3,by unfold World.cell?;rw [h];rfl⟩
 |4,_=>exact ⟨v4,by unfold World.cell?;rw [h];rfl⟩
 |5,_=>exact ⟨v5,by unfold World.cell?;rw [h];rfl⟩
theorem Six.carry{W':World}(h:Six W B)(e:W'.heap[B]?=W.heap[B]?):Six W' B:=
 ⟨λk hk=>by obtain ⟨v,hv⟩:=h.there k hk;exact ⟨v,(NY (a:=⟨B,k,none⟩) e).trans hv⟩,λk=>(Oa (a:=⟨B,k,none⟩) e).trans (h.thaw k)⟩
theorem Six.lt(h:Six W B):B<W.heap.size:=by
 obtain ⟨v,hv⟩:=h.there 0 Kc
 exact NW _ _ hv
theorem nM{o:Nat}{x:Value}(h:Six W B)(ho:o<6):(W.setCell ⟨B,o,none⟩ x).cell? ⟨B,o,none⟩=some x:=by
 obtain ⟨v,hv⟩:=h.there o ho
 exact Oe _ _ _ hv
theorem eU{o k:Nat}{x:Value}(h:k≠o):(W.setCell ⟨B,o,none⟩ x).cell? ⟨B,k,none⟩=W.cell? ⟨B,k,none⟩:=Ob _ _ _ _ KN
theorem fK(h:Six W B)(v0 v1 v2 v3 v4 v5:Value):
  (dV W B v0 v1 v2 v3 v4 v5).cell? ⟨B,0,none⟩=some v0/\(dV W B v0 v1 v2 v3 v4 v5).cell? ⟨B,1,none⟩=some v1/\(dV W B v0 v1 v2 v3 v4 v5).cell? ⟨B,2,none⟩=some v2/\(dV W B v0 v1 v2 v3 v4 v5).cell? ⟨B,3,none⟩=some v3/\(dV W B v0 v1 v2 v3 v4 v5).cell? ⟨B,4,none⟩=some v4/\(dV W B v0 v1 v2 v3 v4 v5).cell? ⟨B,5,none⟩=some v5:=by
 have h0:=h.set 0 v0
 have h1:=h0.set 1 v1
 have h2:=h1.set 2 v2
 have h3:=h2.set 3 v3
 have h4:=h3.set 4 v4
 unfold dV
 refine ⟨?_,?_,?_,?_,?_,?_⟩
 ·rw [eU Ke,eU Ke,eU Ke,eU Ke,eU Ke]
  exact nM h Ke
 ·rw [eU Ke,eU Ke,eU Ke,eU Ke]
  exact nM h0 Ke
 ·rw [eU Ke,eU Ke,eU Ke]
  exact nM h1 Ke
 ·rw [eU Ke,eU Ke]
  exact nM h2 Ke
 ·rw [eU Ke]
  exact nM h3 Ke
 exact nM h4 Ke
theorem dI(W:World)(B:Nat)(v0 v1 v2 v3 v4 v5:Value)(i:Nat)(h:i≠B):(dV W B v0 v1 v2 v3 v4 v5).heap[i]?=W.heap[i]?:=by
 unfold dV
 exact Z71
theorem dP(W:World)(B:Nat)(v0 v1 v2 v3 v4 v5:Value):(dV W B v0 v1 v2 v3 v4 v5).heap.size=W.heap.size:=by
 unfold dV
 simp
theorem iF(W:World)(B:Nat)(v0 v1 v2 v3 v4 v5:Value):(dV W B v0 v1 v2 v3 v4 v5).os=W.os:=by
 unfold dV World.setCell
 rfl
theorem eX(W:World)(B:Nat)(v0 v1 v2 v3 v4 v5:Value):(dV W B v0 v1 v2 v3 v4 v5).output=W.output:=by
 unfold dV World.setCell
 rfl
theorem iH{w:World}{rb:Nat}(h:Upd rb w W)(hB:w.heap.size<=B)(v0 v1 v2 v3 v4 v5:Value):Upd rb w (dV W B v0 v1 v2 v3 v4 v5):=
 ⟨(iF W B v0 v1 v2 v3 v4 v5).trans h.os,(eX W B v0 v1 v2 v3 v4 v5).trans h.output,by rw [dP];exact h.size,λi hi hn=>(dI W B v0 v1 v2 v3 v4 v5 i Kc).trans (h.old i hi hn)⟩
theorem dG{c:Array Value}{T:TypeId}{fr:Nat × Nat}(h:W.heap[B]?=some (.cells c T fr))(k:Nat)(v:Value):(W.setCell ⟨B,k,none⟩ v).heap[B]?=some (.cells (c.setIfInBounds k v) T fr):=by
 simp [World.setCell,Array.getElem?_modify,h]
theorem fF{a0 a1 a2 a3 a4 a5:Value}{T:TypeId}{fr:Nat × Nat}(h:W.heap[B]?=some (.cells #[a0,a1,a2,a3,a4,a5] T fr))(v0 v1 v2 v3 v4 v5:Value):(dV W B v0 v1 v2 v3 v4 v5).heap[B]?=some (.cells #[v0,v1,v2,v3,v4,v5] T fr):=by
 unfold dV
 exact dG (dG (dG (dG (dG (dG h 0 v0) 1 v1) 2 v2) 3 v3) 4 v4) 5 v5
theorem dD(w:World)(o:Obj):(w.alloc o).heap[w.heap.size]?=some o:=by
 show (w.heap.push o)[w.heap.size]?=_
 simp
theorem dE(w:World)(o:Obj):(w.alloc o).heap.size=w.heap.size+1:=by
 show (w.heap.push o).size=_
 simp
end
section
open Go Go.RowKit Go.Extern.Stop Go.Stop Go.Extern
variable{i0 i1:Nat}{rs:List Nat}
def Y15(h:p:=by exact (FP (ws:=(rs.drop i0).take (i1-i0)) (λr hr=>by rw [<-HR.out.2] at hr;have:=(pY r).1 (List.all_eq_true.1 List.all_takeWhile r hr);omega))):p:=h
def Y16(h:p:=by exact (show W.heap[w.heap.size]?=some (.cells #[.int .i64 0,.int .i64 0,.string ⟨#[]⟩,.slice none 0 0,.slice none 0 0,.map none] 85 (0,0)) from (aW.old _ (Oh hres).1).trans hres)):p:=h
def Y17(h:p:=by exact (show Hid (i0<=rs.length/\rs.length<=4000) from ⟨by omega,hlen⟩)):p:=h
def Z9(h:p:=by
 rw [<-AR S] at hSl
 unfold tL at hV
 rw [<-HR.out.1] at hV
 have hws:∀r∈(rs.drop i0).takeWhile gY,r<256:=λr hr=>by have:=(pY r).1 (List.all_eq_true.1 List.all_takeWhile r hr);omega
 generalize (rs.drop i0).takeWhile gY=ws at hSl hV hws
 by_cases e0:ws=[110,117,108,108]
 ·subst e0
  rw [if_pos rfl] at hV
  subst hV
  have hS:S.toList=[110,117,108,108]:=hSl
  clear hSl hws
  go_wp2
  obtain ⟨r0,r1,r2,r3,r4,r5⟩:=fK hsix (.int .i64 1) (.int .i64 0) (.string ⟨#[]⟩) (.slice none 0 0) (.slice none 0 0) (.map none)
  have hJF:=hJW.below (n:=w.heap.size) (w':=dV W w.heap.size (.int .i64 1) (.int .i64 0) (.string ⟨#[]⟩) (.slice none 0 0) (.slice none 0 0) (.map none)) hrl Kx (λi hi=>dI _ _ _ _ _ _ _ _ i Kc)
  have hUF:=iH (hu.trans (aW.upd rb)) (NL w.heap.size) (.int .i64 1) (.int .i64 0) (.string ⟨#[]⟩) (.slice none 0 0) (.slice none 0 0) (.map none)
  unfold dV at r0 r1 r2 r3 r4 r5 hJF hUF
  clear q0 q1 q2 q3 q4 q5 z0 hsix d1 g1
  refine bodyPost_ret (v:=.agg #[.int .i64 1,.int .i64 0,.string ⟨#[]⟩,.slice none 0 0,.slice none 0 0,.map none]) Lc rfl ?_
  exact Z267
 by_cases e1:ws=[116,114,117,101]
 ·subst e1
  rw [if_neg e0] at hV
  rw [if_pos rfl] at hV
  subst hV
  have hS:S.toList=[116,114,117,101]:=hSl
  clear hSl hws e0
  go_wp2
  obtain ⟨r0,r1,r2,r3,r4,r5⟩:=fK hsix (.int .i64 2) (.int .i64 1) (.string ⟨#[]⟩) (.slice none 0 0) (.slice none 0 0) (.map none)
  have hJF:=hJW.below (n:=w.heap.size) (w':=dV W w.heap.size (.int .i64 2) (.int .i64 1) (.string ⟨#[]⟩) (.slice none 0 0) (.slice none 0 0) (.map none)) hrl Kx (λi hi=>dI _ _ _ _ _ _ _ _ i Kc)
  have hUF:=iH (hu.trans (aW.upd rb)) (NL w.heap.size) (.int .i64 2) (.int .i64 1) (.string ⟨#[]⟩) (.slice none 0 0) (.slice none 0 0) (.map none)
  unfold dV at r0 r1 r2 r3 r4 r5 hJF hUF
  clear q0 q1 q2 q3 q4 q5 z0 hsix d1 g1
  refine bodyPost_ret (v:=.agg #[.int .i64 2,.int .i64 1,.string ⟨#[]⟩,.slice none 0 0,.slice none 0 0,.map none]) Lc rfl ?_
  exact Z267
 by_cases e2:ws=[102,97,108,115,101]
 ·subst e2
  rw [if_neg e0] at hV
  rw [if_neg e1] at hV
  rw [if_pos rfl] at hV
  subst hV
  have hS:S.toList=[102,97,108,115,101]:=hSl
  clear hSl hws e0 e1
  go_wp2
  obtain ⟨r0,r1,r2,r3,r4,r5⟩:=fK hsix (.int .i64 2) (.int .i64 0) (.string ⟨#[]⟩) (.slice none 0 0) (.slice none 0 0) (.map none)
  have hJF:=hJW.below (n:=w.heap.size) (w':=dV W w.heap.size (.int .i64 2) (.int .i64 0) (.string ⟨#[]⟩) (.slice none 0 0) (.slice none 0 0) (.map none)) hrl Kx (λi hi=>dI _ _ _ _ _ _ _ _ i Kc)
  have hUF:=iH (hu.trans (aW.upd rb)) (NL w.heap.size) (.int .i64 2) (.int .i64 0) (.string ⟨#[]⟩) (.slice none 0 0) (.slice none 0 0) (.map none)
  unfold dV at r0 r1 r2 r3 r4 r5 hJF hUF
  clear q0 q1 q2 q3 q4 q5 z0 hsix d1 g1
  refine bodyPost_ret (v:=.agg #[.int .i64 2,.int .i64 0,.string ⟨#[]⟩,.slice none 0 0,.slice none 0 0,.map none]) Lc rfl ?_
  exact Z267
 rw [if_neg e0,if_neg e1,if_neg e2] at hV
 subst hV
 have n0:(S.toList==[110,117,108,108])=false:=by rw [hSl];exact CZ (l:=[110,117,108,108]) hws Ke e0
 have n1:(S.toList==[116,114,117,101])=false:=by rw [hSl];exact CZ (l:=[116,114,117,101]) hws Ke e1
 have n2:(S.toList==[102,97,108,115,101])=false:=by rw [hSl];exact CZ (l:=[102,97,108,115,101]) hws Ke e2
 clear hSl hws e0 e1 e2
 go_wp2_with (go_at_call 77;refine (uy rb i0 _ _ (Oe _ _ _ d1) Kc (by have:=HI.out;omega) (hJW.pow.upd (Upd.set _ _ _ _) hJW.ng) Ke).mono ?_;rintro e w9 ⟨⟨T,v,rfl⟩,hb⟩)
 exact ⟨rfl,⟨_,_,rfl⟩,(hu.trans (aW.upd rb)).trans ((Upd.set _ _ _ _).trans (hb.upd _))⟩):p:=h
def Z267(h:p:=by
 exact ⟨⟨_,rfl,by rw [J.lies];rfl⟩,⟨g,o,c,i1,rfl,hJF⟩,hUF⟩):p:=h
theorem pY(r:Nat):gY r=true↔97<=r/\r<=122:=by simp [gY]
def mr(O:Option (J × List Nat))(rb:Nat)(rs:List Nat)(w:World)(e:Ending)(w':World):Prop:=
 match O with
 |some (j,L)=>(∃cs:List Value,e=.returned (.agg cs.toArray)/\j.lies (λb=>w.heap.size<=b) w' cs)/\Jr w' rb rs L/\Upd rb w w'
 |none=>fV e/\Upd rb w w'
theorem Hz(h0:i0<=i1)(h:i1<rs.length)(hl:gY rs[i1]=true)(e:(rs.drop i0).takeWhile gY=(rs.drop i0).take (i1-i0)++(rs.drop i1).takeWhile gY):(rs.drop i0).takeWhile gY=(rs.drop i0).take (i1+1-i0)++(rs.drop (i1+1)).takeWhile gY:=by
 rw [e,List.drop_eq_getElem_cons h,List.takeWhile_cons,if_pos hl]
 have:(rs.drop i0).take (i1+1-i0)=(rs.drop i0).take (i1-i0)++[rs[i1]]:=by
  rw [show i1+1-i0=(i1-i0)+1 by omega,List.take_add_one]
  congr 1
  rw [List.getElem?_drop,show i0+(i1-i0)=i1 by omega,NP h]
  rfl
 rw [this]
 simp
theorem Dl{r:Nat}(h:r<128):Utf8.encode (r:Int)=⟨#[UInt8.ofNat r]⟩:=by
 unfold Utf8.encode
 have hv:Utf8.valid (r:Int)=true:=by simp [Utf8.valid];omega
 simp only [hv,if_true,Int.toNat_natCast]
 rw [if_pos h]
theorem IJ(ws:List Nat)(h:∀r∈ws,r<128):∀s:ByteArray,((ws.map λr:Nat=>(r:Int)).foldl (λr n=>r++Utf8.encode n) s).data.toList=s.data.toList++ws.map UInt8.ofNat:=by
 induction ws with
 |nil=>intro s;simp
 |cons r ws ih=>
  intro s
  rw [List.map_cons,List.foldl_cons,ih (λx hx=>h x Lg),Dl (h r Kh)]
  simp
theorem FP{ws:List Nat}(h:∀r∈ws,r<128):(runesBytes (ws.map λr:Nat=>(r:Int))).data.toList=ws.map UInt8.ofNat:=by
 have:=IJ ws h ByteArray.empty
 simpa [runesBytes] using this
theorem low_end(h0:i0<=i1)(e:(rs.drop i0).takeWhile gY=(rs.drop i0).take (i1-i0)++(rs.drop i1).takeWhile gY)(hl:¬ (97<=pk (rs.drop i1)/\pk (rs.drop i1)<=122)):rs.drop i1=(rs.drop i0).dropWhile gY/\(rs.drop i0).takeWhile gY=(rs.drop i0).take (i1-i0):=by
 have h1:(rs.drop i1).takeWhile gY=[]:=by
  cases h:rs.drop i1 with
  |nil=>rfl
  |cons r l=>
   rw [h] at hl
   rw [List.takeWhile_cons,if_neg]
   rw [pY]
   change ¬ ((97:Int)<=(r:Int)/\(r:Int)<=122) at hl
   omega
 rw [h1,List.append_nil] at e
 refine ⟨?_,e⟩
 have h2:=List.takeWhile_append_dropWhile (p:=gY) (l:=rs.drop i0)
 have h3:=List.take_append_drop (i1-i0) (rs.drop i0)
 rw [e] at h2
 have h4:(rs.drop i0).drop (i1-i0)=(rs.drop i0).dropWhile gY:=List.append_cancel_left (h3.trans h2.symm)
 rw [<-h4,List.drop_drop]
 congr 1
 omega
theorem AR(S:ByteArray):S.toList=S.data.toList:=ByteArray.toList_eq S
theorem Ej:∀ {ws l:List Nat},(∀r∈ws,r<256)->(∀r∈l,r<256)->ws.map UInt8.ofNat=l.map UInt8.ofNat->ws=l
 |[],[],_,_,_=>rfl
 |[],_::_,_,_,h=>by cases h
 |_::_,[],_,_,h=>by cases h
 |a::ws,b::l,h1,h2,h=>by
  simp only [List.map_cons,List.cons.injEq] at h
  have ha:=h1 a Kh
  have hb:=h2 b Kh
  have e:a=b:=by
   have:=congrArg UInt8.toNat h.1
   simpa [UInt8.toNat_ofNat,Nat.mod_eq_of_lt ha,Nat.mod_eq_of_lt hb] using this
  rw [e,Ej (λr hr=>h1 r (by simp [hr])) (λr hr=>h2 r (by simp [hr])) h.2]
theorem CZ{ws:List Nat}{l:List Nat}(h1:∀r∈ws,r<256)(h2:∀r∈l,r<256)(h:ws≠l):(ws.map UInt8.ofNat==l.map UInt8.ofNat)=false:=
 beq_eq_false_iff_ne.2 λe=>h (Ej h1 h2 e)
theorem JrI.conv{w:World}{rb g o c:Nat}(h:JrI w rb g o c rs i1)(h0:i0<=i1)(n:Nat):
  (convert 158 9 (.slice (if c=i0 then some ⟨g,o,none⟩ else some ⟨g,o+i0,none⟩) (i1-i0) (c-i0))).run prog (w.drewN n)=.ok (.string (runesBytes (((rs.drop i0).take (i1-i0)).map λr:Nat=>(r:Int)))) (w.drewN n):=by
 have hle:=h.le
 have hcap:=h.cap
 by_cases hc:c=i0
 ·rw [if_pos hc]
  obtain rfl:i1=i0:=Kc
  rw [Nat.sub_self]
  have:=run_convert_runes (P:=prog) (w.drewN n) 158 9 21 ⟨g,o,none⟩ 0 (c-i1) [] (NL _) underlying158 underlying21 underlying9 (λj hj=>absurd hj (Nat.not_lt_zero _))
  simpa using this
 rw [if_neg hc]
 have:=run_convert_runes (P:=prog) (w.drewN n) 158 9 21 ⟨g,o+i0,none⟩ (i1-i0) (c-i0) (((rs.drop i0).take (i1-i0)).map λr:Nat=>(r:Int)) Kt underlying158 underlying21 underlying9 (λj hj=>?_)
 ·rw [this]
  rw [List.take_of_length_le Kt]
 have hj':i0+j<rs.length:=by simp at hj;omega
 have hj2:j<i1-i0:=by simp at hj;omega
 rw [Addr.add_lit]
 have:=h.runes (i0+j) hj'
 rw [<-Nat.add_assoc] at this
 show w.cell? ⟨g,o+i0+j,none⟩=_
 rw [this]
 simp [List.getD,hj2,hj']
theorem IR{w:World}{rb:Nat}{L:List Nat}(hJ:Jr w rb rs L):
  Calls prog 114 #[.pointer (some ⟨rb,0,none⟩)] w λe w'=>mr (tL L) rb rs w e w':=by
 obtain ⟨g,o,c,i0,rfl,J⟩:=hJ
 generalize hV:tL (rs.drop i0)=V
 have c0:=J.c0
 have c1:=J.c1
 have f1:=J.f1
 have hrl:=J.rlt
 go_enter func114,ntmps114
 go_wp2
 go_loopw [] (λwr=>∃i1,i0<=i1/\JrI wr rb g o c rs i1/\(rs.drop i0).takeWhile gY=(rs.drop i0).take (i1-i0)++(rs.drop i1).takeWhile gY/\Upd rb w wr/\wr.heap[w.heap.size]?=some (.cells #[.int .i64 0,.int .i64 0,.string ⟨#[]⟩,.slice none 0 0,.slice none 0 0,.map none] 85 (0,0))) (λwr=>rs.length-lM wr rb)
 case atStart=>
  refine ⟨i0,NL _,J.add (ae _ _),by simp,(ae _ _).upd rb,?_⟩
  exact Z213
 obtain ⟨i1,hi,hJ1,htw,hu,hres⟩:=hrel
 have hJr:Jr wr rb rs (rs.drop i1):=⟨g,o,c,i1,rfl,hJ1⟩
 have hpk:=eD hJr
 by_cases hlow:97<=pk (rs.drop i1)/\pk (rs.drop i1)<=122
 ·have hlt:i1<rs.length:=by
   rcases Nat.lt_or_ge i1 rs.length with h|h
   ·exact h
   rw [List.drop_eq_nil_of_le h] at hlow
   exact absurd hlow.1 Ke
  have hr:gY rs[i1]=true:=by
   rw [List.drop_eq_getElem_cons hlt] at hlow
   rw [pY]
   change (97:Int)<=(rs[i1]:Int)/\(rs[i1]:Int)<=122 at hlow
   omega
  have t1:(97<=pk (rs.drop i1))=True:=eq_true hlow.1
  have t2:(pk (rs.drop i1)<=122)=True:=eq_true hlow.2
  have HT:Hid ((rs.drop i0).takeWhile gY=(rs.drop i0).take (i1+1-i0)++(rs.drop (i1+1)).takeWhile gY):=Hz hi hlt hr htw
  have HJ:Hid (JrI wr rb g o c rs i1):=hJ1
  have HP:Hid (lM wr rb+(rs.drop i1).length=rs.length):=hJr.pos
  have hlen:=hJ1.len
  clear hlow htw hJ1 c0 c1 f1 hr
  go_wp2_with (first
   |(go_at_call 76;refine (eD hJ5).mono ?_;rintro e w6 ⟨rfl,ha6⟩;have hJ6:=HJ.out.add (ha5.trans ha6);have c1:=hJ6.c1;have f1:=hJ6.f1)
   |(go_at_call 76;refine hpk.mono ?_;rintro e w5 ⟨rfl,ha5⟩;have hJ5:=hJr.add ha5))
  go_roundw
  case rel=>
   refine ⟨i1+1,by omega,by simpa using hJ6.at (i1+1) hlt,HT.out,hu.trans (((ha5.trans ha6).upd _).trans (Upd.set _ _ _ _)),?_⟩
   rw [NZ _ _ _ _ (by show w.heap.size≠rb;omega),(ha5.trans ha6).old _ (Oh hres).1]
   exact hres
  have h1:=HP.out
  have h2:lM _ rb+(rs.drop (i1+1)).length=rs.length:=Jr.pos ⟨g,o,c,i1+1,rfl,by simpa using hJ6.at (i1+1) hlt⟩
  simp at h1 h2 ⊢
  omega
 have HR:Hid (rs.drop i1=(rs.drop i0).dropWhile gY/\(rs.drop i0).takeWhile gY=(rs.drop i0).take (i1-i0)):=low_end hi htw hlow
 clear htw
 have hle:=hJ1.le
 have hlen:=hJ1.len
 have hcap:=hJ1.cap
 by_cases h97:97<=pk (rs.drop i1)
 ·have t97:(97<=pk (rs.drop i1))=True:=eq_true h97
  have t122:(pk (rs.drop i1)<=122)=False:=eq_false (λh=>hlow ⟨h97,h⟩)
  clear h97 hlow
  go_wp2_with (first
   |(go_at_call 76;refine (eD hJ4).mono ?_;rintro e w6 ⟨rfl,ha6⟩;have hJ5:=hJ1.add (ha5.trans ha6);have c0:=hJ5.c0;have c1:=hJ5.c1;have f1:=hJ5.f1)
   |(go_at_call 76;refine hpk.mono ?_;rintro e w5 ⟨rfl,ha5⟩;have hJ4:=hJr.add ha5))
  have hb1:(i0:Int)<=(i1:Int):=Kc
  have hb2:(i1:Int)<=(c:Int):=Kc
  have hb3:i1<=c:=Kc
  have hb4:i1<=rs.length:=Kc
  have hb5:(i1:Int)<=(rs.length:Int):=Kc
  have hcv:=hJ5.conv hi
  have hSl:=Y15
  rw [<-HR.out.2] at hcv hSl
  generalize runesBytes _=S at hcv hSl
  go_quiet (fail)
  clear hcv
  generalize (if c=i0 then some (⟨g,o,none⟩:Addr) else some ⟨g,o+i0,none⟩)=sa
  generalize hW:w6.drewN nq=W
  have aW:Add wr W:=(ha5.trans ha6).trans (by rw [<-hW];exact Add.drewN _ _)
  have hresW:=Y16
  have q0:W.cell? ⟨w.heap.size,0,none⟩=some (.int .i64 0):=Ko
  have q1:W.cell? ⟨w.heap.size,1,none⟩=some (.int .i64 0):=Ko
  have q2:W.cell? ⟨w.heap.size,2,none⟩=some (.string ⟨#[]⟩):=Ko
  have q3:W.cell? ⟨w.heap.size,3,none⟩=some (.slice none 0 0):=Ko
  have q4:W.cell? ⟨w.heap.size,4,none⟩=some (.slice none 0 0):=Ko
  have q5:W.cell? ⟨w.heap.size,5,none⟩=some (.map none):=Ko
  have z0:∀k,W.frozen? ⟨w.heap.size,k,none⟩=false:=ME
  have hsix:Six W w.heap.size:=Six.of_heap hresW
  have hJW:=hJ1.add aW
  have d1:=hJW.c1
  have g1:=hJW.f1
  have HI:=Y17
  clear hW c0 c1 f1 hJ5 hpk hJr hb1 hb2 hb3 hb4 hb5 hle hlen hcap t97 t122 hJ4 hresW
  exact Z9
 have t97:(97<=pk (rs.drop i1))=False:=eq_false h97
 clear h97 hlow
 go_wp2_with (first
  |(go_at_call 76;refine hpk.mono ?_;rintro e w5 ⟨rfl,ha5⟩;have hJ5:=hJ1.add ha5;have c0:=hJ5.c0;have c1:=hJ5.c1;have f1:=hJ5.f1))
 have hb1:(i0:Int)<=(i1:Int):=Kc
 have hb2:(i1:Int)<=(c:Int):=Kc
 have hb3:i1<=c:=Kc
 have hb4:i1<=rs.length:=Kc
 have hb5:(i1:Int)<=(rs.length:Int):=Kc
 have hcv:=hJ5.conv hi
 have hSl:=Y15
 rw [<-HR.out.2] at hcv hSl
 generalize runesBytes _=S at hcv hSl
 go_quiet (fail)
 clear hcv
 generalize (if c=i0 then some (⟨g,o,none⟩:Addr) else some ⟨g,o+i0,none⟩)=sa
 generalize hW:w5.drewN nq=W
 have aW:Add wr W:=ha5.trans (by rw [<-hW];exact Add.drewN _ _)
 have hresW:=Y16
 have q0:W.cell? ⟨w.heap.size,0,none⟩=some (.int .i64 0):=Ko
 have q1:W.cell? ⟨w.heap.size,1,none⟩=some (.int .i64 0):=Ko
 have q2:W.cell? ⟨w.heap.size,2,none⟩=some (.string ⟨#[]⟩):=Ko
 have q3:W.cell? ⟨w.heap.size,3,none⟩=some (.slice none 0 0):=Ko
 have q4:W.cell? ⟨w.heap.size,4,none⟩=some (.slice none 0 0):=Ko
 have q5:W.cell? ⟨w.heap.size,5,none⟩=some (.map none):=Ko
 have z0:∀k,W.frozen? ⟨w.heap.size,k,none⟩=false:=ME
 have hsix:Six W w.heap.size:=Six.of_heap hresW
 have hJW:=hJ1.add aW
 have d1:=hJW.c1
 have g1:=hJW.f1
 have HI:=Y17
 clear hW c0 c1 f1 hJ5 hpk hJr hb1 hb2 hb3 hb4 hb5 hle hlen hcap t97 hresW
 exact Z9
end
end Go.Proofs.YtmphmjkinmkidaaGreatDoor
