import Derived.Deep.RegionHeld3
import Derived.Test.YtjmlghgnbclmfaaGreatDoorS04
set_option linter.defProp false
open Go.Proofs.Tryz
set_option maxRecDepth 8000
set_option maxHeartbeats 4000000
namespace Go.Proofs.YtjmlghgnbclmfaaGreatDoor
variable{p:Prop}
section
open Go Go.RowKit Go.Extern.Stop Go.Stop Go.Extern
variable{ok:Nat->Prop}{w w':World}{L:List Nat}{b o:Nat}
def Y18(h:p:=by exact (λW L1 (h:Jr W rb rs L1)=>hval W rb rs L1 d hd h)):p:=h
def Y20(h:p:=by exact (show ∀n,n<=5000->n*iV.bytes<=140737488355328 from λn hn=>NM (Nat.mul_le_mul hn hbV) Ke)):p:=h
def Y21(h:p:=by exact (hg4.cell (b:=w.heap.size+1) (o:=3) Km (λe=>by have:=hblk _ e;omega) ((ae _ _).cell k3))):p:=h
def Y22(h:p:=by exact (show w4.frozen? ⟨w.heap.size+1,3,none⟩=false from (hg4.frozen Km (λe=>by have:=hblk _ e;omega)).trans (((ae _ _).frozen h9).trans ((hu2.frozen hw1 Kc).trans (pz 3))))):p:=h
def Z4(h:p:=by
 refine wpAny_ready (rs:=[5]) Kf Kh ?_
 refine AllReady.cons rfl (λK hK=>?_) AllReady.nil
 go_simp
 refine hK _ _ ?_
 clear hK K
 refine wpAny_ready (rs:=[6]) Kf Kh ?_
 refine AllReady.cons rfl (λK hK=>?_) AllReady.nil
 refine dO _ Kl _ _ 83 83 Kl Ke iV zV iV.bytes underlying83 hiV hzV hsV rfl hz6 Kl (hrow2.alloc _) _ 1 _ Kl (Src.six _ underlying83 _ Kl 85 _ _ _ _ _ _ (one6 _ _ _ _ _ _ _ _ _ _)) Ki (hbyte _ Kc) ?_
 intro v4 w4 hrow4 hg4
 obtain ⟨a4,c4,rfl⟩:=hrow4.shape
 have k4:=Y21
 have f4:=Y22
 refine hK _ _ ?_
 clear hK K
 go_simp
 refine wpAny_take (i:=7) (v:=?_) rfl Kf Kf Kf (λ_ _ _ h=>h) (Or.inl ⟨by rfl,?_⟩) ?_
 rotate_left
 ·intro w
  go_simp
  with_reducible rfl
 exact Z245):p:=h
def Z60(h:p:=by
 unfold lD at h
 cases n:dY f L with
 |none=>rw [n] at h;cases h
 |some l1=>
  rw [n] at h
  have h1:=kW n
  have h2:=ja l1
  cases m:dY l (dK l1) with
  |none=>simp only [m] at h;cases h;omega
  |some l2=>simp only [m] at h;cases h;have:=kW m;omega):p:=h
def Z90(h:p:=by
 have:=hc (6+j) Ms
 rw [List.getElem?_append_right Kc,h2,Nat.add_sub_cancel_left] at this
 rw [<-this,show i*6+(6+j)=(i+1)*6+j by omega]):p:=h
def Z91(h:p:=by
 obtain rfl:i=i':=by rw [h1] at h1';cases h1';rfl
 simp only [Prod.mk.injEq] at h2
 obtain ⟨z,hz,hz2⟩:=Option.map_eq_some_iff.1 h2.1
 exact ⟨i,z,h1,hz,h2.2,hz2,by simpa using h3⟩):p:=h
def Z145(h:p:=by
 rw [NV,hc f Ms,List.getElem?_append_left Kc]):p:=h
def Z167(h:p:=by
 rw [Nat.zero_mul,NV]
 exact h.holds j (by rw [<-h.len];exact hj)):p:=h
def Z191(h:p:=by
 obtain rfl:cs=[]:=h
 exact ⟨c,[],by simp,hc,hj,rfl⟩):p:=h
def Z206(h:p:=by
 exact ⟨rfl,⟨_,_,rfl⟩,(hI.1.upd rb).trans hu1⟩):p:=h
def Z245(h:p:=by
 refine wpAny_ready (rs:=[8]) Kf Kh ?_
 refine AllReady.cons rfl (λK hK=>?_) AllReady.nil
 go_simp
 refine hK _ _ ?_
 clear hK K
 refine wpAny_done Kf ?_ _
 go_simp
 have hst:=Iw (B0:=w.heap.size) (mk:=vblk) (λx=>⟨_,_,rfl,λy=>rfl⟩) rfl hrl HB0.out HB1.out hblk HR.out hlie HU.out (((af wr).upd rb).trans hu2) hJ2 hcs hrow4 hg4
 generalize w4.setCell ⟨w.heap.size+1,3,none⟩ (Value.slice a4 (acc.length+1) c4)=w5 at hst
 obtain ⟨s1,s2,s3,s4,s5,s6,s7⟩:=hst
 have hen:=CB s6 93 93 rfl
 have HP:Hid (lM wr rb+L1.length=rs.length):=hJr.pos
 have hal:(acc++[j]).length=acc.length+1:=Kh
 clear hrow4 hg4 k4 f4 hcs hrow2 k3 hJ2 hu2 p3 pz hvc hlie hblk HR HB0 HB1 HU hiV hzV hsV hz6 hbyte
 cases he:nX 93 l with
 |none=>
  rw [he] at hen
  simp only [he] at hq
  subst hq
  clear s3 s5
  go_wp2_with (go_at_call 142;refine hen.mono ?_;rintro e w6 ⟨⟨T,v,rfl⟩,hu6⟩)
  exact ⟨rfl,⟨_,_,rfl⟩,s7.trans hu6⟩
 |some z=>
  obtain ⟨b,l2⟩:=z
  have hl2:=mG he
  rw [he] at hen
  simp only [he] at hq
  cases b with
  |true=>
   change some (J.arr (acc++[j]),l2)=V at hq
   subst hq
   go_wp2_with (go_at_call 142;refine hen.mono ?_;rintro e w6 ⟨rfl,hJ6,hu6⟩;have hz5:w.heap.size+1<w5.heap.size:=(Oh s2).1;have hb0:=(hu6.old _ Kc (by omega:w.heap.size≠rb)).trans s1;have hb1:=(hu6.old _ hz5 (by omega:w.heap.size+1≠rb)).trans s2;unfold vblk at hb1;obtain ⟨p0,p1,p2,p3,p4,p5,pz⟩:=dF hb1;obtain ⟨q0,q1,q2,q3,q4,q5,qz⟩:=dF hb0)
   have hsix:Six w6 w.heap.size:=Six.of_heap hb0
   obtain ⟨r0,r1,r2,r3,r4,r5⟩:=fK hsix (.int .i64 5) (.int .i64 0) (.string ⟨#[]⟩) (.slice a4 (acc.length+1) c4) (.slice none 0 0) (.map none)
   have hJF:=hJ6.below (n:=w.heap.size) (w':=dV w6 w.heap.size (.int .i64 5) (.int .i64 0) (.string ⟨#[]⟩) (.slice a4 (acc.length+1) c4) (.slice none 0 0) (.map none)) hrl Kx (λi hi=>dI _ _ _ _ _ _ _ _ i Kc)
   have hUF:=iH (s7.trans hu6) (NL w.heap.size) (.int .i64 5) (.int .i64 0) (.string ⟨#[]⟩) (.slice a4 (acc.length+1) c4) (.slice none 0 0) (.map none)
   have hKF:Keep (λb=>w.heap.size<b) w6 (dV w6 w.heap.size (.int .i64 5) (.int .i64 0) (.string ⟨#[]⟩) (.slice a4 (acc.length+1) c4) (.slice none 0 0) (.map none)):=⟨by rw [dP];exact NL _,λi hi _=>dI _ _ _ _ _ _ _ _ i Kc⟩
   have hrF:=s3.carry (w':=dV w6 w.heap.size (.int .i64 5) (.int .i64 0) (.string ⟨#[]⟩) (.slice a4 (acc.length+1) c4) (.slice none 0 0) (.map none)) (λi hi=>by have:=s4 i hi;rw [dI _ _ _ _ _ _ _ _ i Kc];exact hu6.old i (s3.blk_lt hi) Kc)
   have hlF:bg (λb=>w.heap.size<=b) (dV w6 w.heap.size (.int .i64 5) (.int .i64 0) (.string ⟨#[]⟩) (.slice a4 (acc.length+1) c4) (.slice none 0 0) (.map none)) (acc++[j]) _:=bu (λb hb _=>by omega) _ _ (bq (ok:=λb=>w.heap.size+1<b) ⟨NM hu6.size hKF.size,λi hi hl=>(hKF.old i Kc (NK hl hu6.size)).trans (hu6.old i hl Kc)⟩ _ _ (bu (λb hb _=>hb.1) _ _ s5))
   obtain ⟨aF,cF,eF,hAF⟩:=J.row_lieAll hrF hlF (λi hi=>by have:=s4 i hi;omega)
   clear hb0 hb1 p0 p1 p2 p3 p4 p5 pz q0 q1 q2 q3 q4 q5 qz hsix hrF hlF s3 s5
   unfold dV at hAF
   unfold dV at r0 r1 r2 r3 r4 r5 hJF hUF hKF
   refine bodyPost_ret (v:=.agg #[.int .i64 5,.int .i64 0,.string ⟨#[]⟩,.slice a4 (acc.length+1) c4,.slice none 0 0,.map none]) LY rfl ?_
   exact ⟨⟨_,rfl,by rw [J.lies];exact ⟨aF,cF,by unfold jc;rw [<-eF];simp;rfl,by omega,hAF⟩⟩,hJF,hUF⟩
  |false=>
   change iI (iQ k) f (acc++[j]) l2=V at hq
   have HQ:Hid (iI (iQ k) f (acc++[j]) l2=V):=hq
   clear hq
   go_wp2_with (go_at_call 142;refine hen.mono ?_;rintro e w6 ⟨rfl,hJ6,hu6⟩)
   go_roundw
   case rel=>
    have hz5:w.heap.size+1<w5.heap.size:=(Oh s2).1
    exact ⟨acc++[j],l2,f,_,_,(hu6.old _ Kc Kc).trans s1,(hu6.old _ hz5 Kc).trans s2,s3.carry (λi hi=>hu6.old i (s3.blk_lt hi) (by have:=s4 i hi;omega)),s4,bq ⟨hu6.size,λi hi hl=>hu6.old i hl Kc⟩ _ _ s5,hJ6,HQ.out,by omega,by omega,s7.trans hu6⟩
   case measure=>
    have h1:=HP.out
    have h2:=hJ6.pos
    omega):p:=h
def JV(k:Nat):Prop:=∀(w:World) (rb:Nat) (rs L:List Nat) (d:Int),d=32-(k:Int)->Jr w rb rs L ->
 Calls prog 74 #[.pointer (some ⟨rb,0,none⟩),.int .i64 d] w λe w'=>mr (iQ k L) rb rs w e w'
def bg(ok:Nat->Prop)(w:World):List J->List Value->Prop
 |[],cs=>cs=[]
 |d::r,cs=>∃c rest,cs=c++rest/\c.length=6/\d.lies ok w c/\bg ok w r rest
theorem bq(k:Keep ok w w'):∀(l:List J) (cs:List Value),bg ok w l cs->bg ok w' l cs
 |[],_,h=>h
 |d::r,_,⟨c,rest,h1,h2,h3,h4⟩=>⟨c,rest,h1,h2,J.lies_carry k d c h3,bq k r rest h4⟩
theorem bu{ok':Nat->Prop}(k:∀b,ok b->b<w.heap.size->ok' b):∀(l:List J) (cs:List Value),bg ok w l cs->bg ok' w l cs
 |[],_,h=>h
 |d::r,_,⟨c,rest,h1,h2,h3,h4⟩=>⟨c,rest,h1,h2,bP k d c h3,bu k r rest h4⟩
theorem bA{j:J}{c:List Value}(hc:c.length=6)(hj:j.lies ok w c):∀(l:List J) (cs:List Value),bg ok w l cs->bg ok w (l++[j]) (cs++c)
 |[],cs,h=>by
  exact Z191
 |d::r,_,⟨c',rest,h1,h2,h3,h4⟩=>⟨c',rest++c,by rw [h1,List.append_assoc],h2,h3,bA hc hj r rest h4⟩
theorem bi{g:Nat}(hg:ok g)(hl:g<w.heap.size):∀(l:List J) (cs:List Value) (i:Nat),bg ok w l cs->(∀j,j<cs.length->w.cell? ⟨g,i*6+j,none⟩=cs[j]?)->J.lieAll ok w (some ⟨g,0,none⟩) i l
 |[],_,_,_,_=>by rw [J.lieAll];trivial
 |d::r,cs,i,⟨c,rest,h1,h2,h3,h4⟩,hc=>by
  rw [J.lieAll]
  subst h1
  refine ⟨⟨g,0,c,rfl,hg,hl,h2,λf hf=>?_,h3⟩,bi hg hl r rest (i+1) h4 (λj hj=>?_)⟩
  ·exact Z145
  exact Z90
theorem J.row_lieAll{v:Value}{l:List J}{cs:List Value}(hr:Row w 6 v l.length cs)(hl:bg ok w l cs)(hb:∀i,blk v=some i->ok i):∃a c,v=.slice a l.length c/\J.lieAll ok w a 0 l:=by
 rcases hr with ⟨rfl,h0,_⟩|⟨g,c,rfl,h⟩
 ·obtain rfl:l=[]:=NT h0
  exact ⟨none,0,rfl,by rw [J.lieAll];trivial⟩
 refine ⟨_,_,rfl,bi (hb g rfl) h.lt l cs 0 hl (λj hj=>?_)⟩
 exact Z167
theorem Src.six{P:Program}(w:World){tx e':TypeId}(hk:P.underlying tx=some (.slice e'))(g:Nat)(hg:g=w.heap.size)(te:TypeId)(v0 v1 v2 v3 v4 v5:Value)(h1:∀u∈[v0,v1,v2,v3,v4,v5],u.oneCell'=true):Src P 6 tx (.slice (some ⟨g,0,none⟩) 1 1) 1 [v0,v1,v2,v3,v4,v5] (w.alloc (.cells #[v0,v1,v2,v3,v4,v5] te)):=by
 subst hg
 have hh:(w.alloc (.cells #[v0,v1,v2,v3,v4,v5] te)).heap[w.heap.size]?=some (.cells #[v0,v1,v2,v3,v4,v5] te (0,0)):=by
  exact Z213
 refine Src.ofSlice _ hk _ 1 1 [v0,v1,v2,v3,v4,v5] rfl (λj u hu=>?_) h1
 rw [Addr.add_lit,NV]
 unfold World.cell?
 rw [hh]
 simpa using hu
def vblk(v:Value):Obj:=.cells #[.int .i64 5,.int .i64 0,.string ⟨#[]⟩,v,.slice none 0 0,.map none] 85 (0,0)
theorem mG{f:Nat}{l:List Nat}{b:Bool}(h:nX f L=some (b,l)):l.length<L.length:=by
 unfold nX at h
 have h2:=ja L
 cases n:dY 44 (dK L) with
 |some l1=>simp only [n] at h;cases h;have:=kW n;omega
 |none=>
  simp only [n] at h
  cases m:dY f (dK L) with
  |none=>simp only [m] at h;cases h
  |some l2=>simp only [m] at h;cases h;have:=kW m;omega
theorem Iw{B0 rb:Nat}{w wr w2 w4:World}{rs l:List Nat}{acc:List J}{cells c6:List Value}{v v5:Value}{o0 o6:Obj}{j:J}{mk:Value->Obj}(hmk:∀x,∃c T,mk x=.cells c T (0,0)/\∀y,Obj.cells (c.setIfInBounds 3 y) T (0,0)=mk y)
  (hB0:w.heap.size=B0) (hrb:rb<B0) (hb0:wr.heap[B0]?=some o0) (hb1:wr.heap[B0+1]?=some (mk v)) (hblk:∀i,blk v=some i->B0+1<i) (hrow:Row wr 6 v acc.length cells) (hlie:bg (λb=>B0+1<b/\blk v≠some b) wr acc cells)
  (hu:Upd rb w wr) (hu2:Upd rb wr w2) (hJ2:Jr w2 rb rs l) (hcs:j.lies (λb=>wr.heap.size<=b) w2 c6) (hrow4:Row w4 6 v5 (acc.length+1) (cells++c6)) (hg4:Grew (w2.alloc o6) v w4 v5):
  (w4.setCell ⟨B0+1,3,none⟩ v5).heap[B0]?=some o0/\(w4.setCell ⟨B0+1,3,none⟩ v5).heap[B0+1]?=some (mk v5)/\Row (w4.setCell ⟨B0+1,3,none⟩ v5) 6 v5 (acc++[j]).length (cells++c6)/\(∀i,blk v5=some i->B0+1<i)/\bg (λb=>B0+1<b/\blk v5≠some b) (w4.setCell ⟨B0+1,3,none⟩ v5) (acc++[j]) (cells++c6)/\Jr (w4.setCell ⟨B0+1,3,none⟩ v5) rb rs l/\Upd rb w (w4.setCell ⟨B0+1,3,none⟩ v5):=by
 have hw1:B0+1<wr.heap.size:=(Oh hb1).1
 have h2:=hu2.size
 have ha:(w2.alloc o6).heap.size=w2.heap.size+1:=dE _ _
 have h4:=hg4.size
 have hne:∀i,i<=B0+1->blk v≠some i:=λi hi e=>by have:=hblk i e;omega
 have hold:∀i,i<=B0+1->i≠rb->w4.heap[i]?=wr.heap[i]?:=λi hi hn=>by
  rw [hg4.old i Kc (hne i hi),Oc _ _ i Kc,hu2.old i Kc hn]
 have h5:∀i,i≠B0+1->(w4.setCell ⟨B0+1,3,none⟩ v5).heap[i]?=w4.heap[i]?:=λi hi=>NZ w4 ⟨B0+1,3,none⟩ v5 i hi
 have hs5:(w4.setCell ⟨B0+1,3,none⟩ v5).heap.size=w4.heap.size:=Kh
 have hblk5:∀i,blk v5=some i->B0+1<i:=by
  intro i hi
  rcases hg4.at' with e|⟨g,hg,e⟩
  ·exact hblk i (by rw [<-e];exact hi)
  rw [hi] at e
  cases e
  omega
 refine ⟨?_,?_,?_,hblk5,?_,?_,?_⟩
 ·rw [h5 B0 Kc,hold B0 Kc Kc]
  exact hb0
 ·obtain ⟨c,T,e1,e2⟩:=hmk v
  have hh:w4.heap[B0+1]?=some (.cells c T (0,0)):=by rw [hold (B0+1) Kc Kc,hb1,e1]
  rw [dG hh 3 v5,e2]
 ·rw [List.length_append]
  exact hrow4.carry λi hi=>h5 i (by have:=hblk5 i hi;omega)
 ·have hk1:Keep (λb=>B0+1<b/\blk v≠some b) wr (w4.setCell ⟨B0+1,3,none⟩ v5):=⟨by omega,λi hi hl=>by
   rw [h5 i Kc,hg4.old i Kc hi.2,Oc _ _ i Kc,hu2.old i hl Kc]⟩
  have hk2:Keep (λb=>wr.heap.size<=b) w2 (w4.setCell ⟨B0+1,3,none⟩ v5):=⟨by omega,λi hi hl=>by
   rw [h5 i Kc,hg4.old i Kc (λe=>by have:=hrow.blk_lt e;omega),Oc _ _ i hl]⟩
  have hn5:∀b,b<wr.heap.size->blk v≠some b->blk v5≠some b:=by
   intro b hb hn e
   rcases hg4.at' with e1|⟨g,hg,e1⟩
   ·exact hn NC
   rw [e] at e1
   cases e1
   omega
  have m1:bg (λb=>B0+1<b/\blk v5≠some b) (w4.setCell ⟨B0+1,3,none⟩ v5) acc cells:=
   bq (ok:=λb=>B0+1<b/\blk v5≠some b) ⟨NL _,λ_ _ _=>rfl⟩ _ _ (bu (ok:=λb=>(B0+1<b/\blk v≠some b)/\b<wr.heap.size) (λb hb _=>⟨hb.1.1,hn5 b hb.2 hb.1.2⟩) _ _ (bq (ok:=λb=>(B0+1<b/\blk v≠some b)/\b<wr.heap.size) ⟨hk1.size,λi hi hl=>hk1.old i hi.1 hl⟩ _ _ (bu (λb hb hl=>⟨hb,hl⟩) _ _ hlie)))
  have m2:j.lies (λb=>B0+1<b/\blk v5≠some b) (w4.setCell ⟨B0+1,3,none⟩ v5) c6:=by
   refine bP (ok:=λb=>wr.heap.size<=b/\b<w2.heap.size) (λb hb _=>⟨by omega,λe=>?_⟩) _ _ (J.lies_carry (ok:=λb=>wr.heap.size<=b/\b<w2.heap.size) ⟨hk2.size,λi hi hl=>hk2.old i hi.1 hl⟩ _ _ (bP (λb hb hl=>⟨hb,hl⟩) _ _ hcs))
   rcases hg4.at' with e1|⟨g,hg,e1⟩
   ·have:=hrow.blk_lt (e1 ▸ e)
    omega
   rw [e] at e1
   cases e1
   omega
  exact bA (bO m2) m2 acc cells m1
 ·refine hJ2.below (n:=B0) hrb Kc (λi hi=>?_)
  rw [h5 i Kc,hg4.old i Kc (hne i Kc),Oc _ _ i Kc]
 refine ⟨?_,?_,?_,λi hi hn=>?_⟩
 ·show w4.os=w.os
  rw [hg4.os]
  show w2.os=w.os
  rw [hu2.os,hu.os]
 ·show w4.output=w.output
  rw [hg4.output]
  show w2.output=w.output
  rw [hu2.output,hu.output]
 ·have:=hu.size
  omega
 rw [h5 i Kc,hold i Kc hn,hu.old i hi hn]
theorem Grew.frozen{v v':Value}(h:Grew w v w' v')(hb:b<w.heap.size)(hne:blk v≠some b):w'.frozen? ⟨b,o,none⟩=w.frozen? ⟨b,o,none⟩:=Oa (a:=⟨b,o,none⟩) (h.old b hb hne)
theorem Upd.frozen{rb:Nat}(h:Upd rb w w')(hb:b<w.heap.size)(hne:b≠rb):w'.frozen? ⟨b,o,none⟩=w.frozen? ⟨b,o,none⟩:=Oa (a:=⟨b,o,none⟩) (h.old b hb hne)
theorem Add.frozen(h:Add w w')(hb:b<w.heap.size):w'.frozen? ⟨b,o,none⟩=w.frozen? ⟨b,o,none⟩:=Oa (a:=⟨b,o,none⟩) (h.old b hb)
theorem Tryz.infoV:(prog.info? 85).map (λi=>(i.zero.map (λz=>z.cells.size),i.size))=some (some 6,6):=Kf
theorem Tryz.infoVb:(prog.info? 85).map (λi=>decide (i.bytes<=1000))=some true:=Kf
theorem Tryz.infoV6:∃i z,prog.info? 85=some i/\i.zero=some z/\i.size=6/\z.cells.size=6/\i.bytes<=1000:=by
 obtain ⟨i,h1,h2⟩:=Option.map_eq_some_iff.1 Tryz.infoV
 obtain ⟨i',h1',h3⟩:=Option.map_eq_some_iff.1 Tryz.infoVb
 exact Z91
theorem one6(k n:Int)(t:ByteArray)(a na:Option Addr)(l c nl nc:Nat)(m:Option Nat):∀u∈jc k n t a na l c nl nc m,u.oneCell'=true:=by
 intro u hu
 simp only [jc,List.mem_cons,List.not_mem_nil,or_false] at hu
 rcases hu with rfl|rfl|rfl|rfl|rfl|rfl <;> rfl
theorem dO{P:Program}(w:World){ops:Array Oper}{o:Oper}{a:Act}{K:Act->World->Prop}{Q:Exit->Act->World->Prop}{E:Prop}(hgd:o.guard=none)(s x:Operand)(t tx:TypeId)
  (ho:o.op=.call { callee:=.builtin .append,args:=#[s,x],argTypes:=#[t,tx] })
  {e:TypeId} {size:Nat} (hpos:0<size) (i:TypeInfo) (z:Value) (bytes:Nat) (ht:P.underlying t=some (.slice e)) (hi:P.info? e=some i) (hz:i.zero=some z) (hsize:i.size=size) (hby:i.bytes=bytes) (hzs:z.cells.size=size)
  {v:Value} {N:Nat} {cs:List Value} (hv:a.eval s=v) (h:Row w size v N cs) (xv:Value) (n:Nat) (news:List Value) (hx:a.eval x=xv) (hs:Src P size tx xv n news w) (h63:N+n<=maxLen) (hbytes:(N+n)*bytes<=140737488355328)
  (hK:∀v' w',Row w' size v' (N+n) (cs++news)->Grew w v w' v'->K (a.put o.dst v') w'):if Region.wanted o (yielded ops a.tmps)=true then Oper.wp P o a w K Q else E:=by
 have hw:Region.wanted o (yielded ops a.tmps)=true:=by simp [Region.wanted,hgd]
 rw [if_pos hw]
 obtain ⟨v',w',hrun,r1,r2⟩:=Y1
 unfold Oper.wp
 simp [execOp,ho,resolve,invoke,builtin,hv,hx,hrun,Result.andThen]
 exact hK v' w' r1 r2
theorem qJ(w:World)(o p:Obj):Add w ((w.alloc o).alloc p)/\((w.alloc o).alloc p).heap[w.heap.size]?=some o/\((w.alloc o).alloc p).heap[w.heap.size+1]?=some p:=by
 refine ⟨(ae _ _).trans (ae _ _),?_,?_⟩
 ·rw [Oc _ _ _ Km]
  exact dD _ _
 rw [<-dE w o]
 exact dD _ _
theorem dF{W:World}{B:Nat}{v0 v1 v2 v3 v4 v5:Value}{T:TypeId}(h:W.heap[B]?=some (.cells #[v0,v1,v2,v3,v4,v5] T (0,0))):
  W.cell? ⟨B,0,none⟩=some v0/\W.cell? ⟨B,1,none⟩=some v1/\W.cell? ⟨B,2,none⟩=some v2/\W.cell? ⟨B,3,none⟩=some v3/\W.cell? ⟨B,4,none⟩=some v4/\W.cell? ⟨B,5,none⟩=some v5/\∀k,W.frozen? ⟨B,k,none⟩=false:=by
 refine ⟨?_,?_,?_,?_,?_,?_,λk=>by unfold World.frozen?;rw [h];simp⟩
 all_goals (unfold World.cell?;rw [h];rfl)
theorem nU{f l:Nat}{l0:List Nat}{b:Bool}(h:lD f l L=some (b,l0)):l0.length<=L.length:=by
 exact Z60
theorem JR{k:Nat}(hval:JV k)(hvl:∀L j l,iQ k L=some (j,l)->l.length<L.length){rb:Nat}{rs:List Nat}(hJ:Jr w rb rs L)(hk:k<=32)(d:Int)(hd:d=32-(k:Int)):
  Calls prog 110 #[.pointer (some ⟨rb,0,none⟩),.int .i64 d] w λe w'=>mr (Bf (iQ k) L) rb rs w e w':=by
 have hop:=λW (h:Jr W rb rs L)=>zb h 91 93 91 93 rfl rfl d Kc
 have hvd:=Y18
 have hrl:=hJ.rlt
 have hln:=hJ.len
 unfold Bf
 clear hd hk
 cases ho:lD 91 93 L with
 |none=>
  rw [ho] at hop
  clear hln
  go_enter func110,ntmps110
  go_wp2_with (go_at_call 141;have hI:=qJ w (.cells #[.int .i64 0,.int .i64 0,.string ⟨#[]⟩,.slice none 0 0,.slice none 0 0,.map none] 85) (.cells #[.int .i64 5,.int .i64 0,.string ⟨#[]⟩,.slice none 0 0,.slice none 0 0,.map none] 85);refine (hop _ (hJ.add hI.1)).mono ?_;rintro e w1 ⟨⟨T,v,rfl⟩,hu1⟩)
  exact Z206
 |some y=>
  obtain ⟨emp,l0⟩:=y
  rw [ho] at hop
  have hl0:l0.length<=L.length:=nU ho
  cases emp with
  |true=>
   show Calls _ _ _ _ λe w'=>mr (some (.arr [],l0)) rb rs w e w'
   clear hln hl0
   go_enter func110,ntmps110
   go_wp2_with (go_at_call 141;have hI:=qJ w (.cells #[.int .i64 0,.int .i64 0,.string ⟨#[]⟩,.slice none 0 0,.slice none 0 0,.map none] 85) (.cells #[.int .i64 5,.int .i64 0,.string ⟨#[]⟩,.slice none 0 0,.slice none 0 0,.map none] 85);refine (hop _ (hJ.add hI.1)).mono ?_;rintro e w1 ⟨rfl,hJ1,hu1⟩;have hb0:=(hu1.old _ Mm (by omega:w.heap.size≠rb)).trans hI.2.1;have hb1:=(hu1.old _ Mm (by omega:w.heap.size+1≠rb)).trans hI.2.2;obtain ⟨p0,p1,p2,p3,p4,p5,pz⟩:=dF hb1;obtain ⟨q0,q1,q2,q3,q4,q5,qz⟩:=dF hb0)
   have hsix:Six w1 w.heap.size:=Six.of_heap hb0
   obtain ⟨r0,r1,r2,r3,r4,r5⟩:=fK hsix (.int .i64 5) (.int .i64 0) (.string ⟨#[]⟩) (.slice none 0 0) (.slice none 0 0) (.map none)
   have hJF:=hJ1.below (n:=w.heap.size) (w':=dV w1 w.heap.size (.int .i64 5) (.int .i64 0) (.string ⟨#[]⟩) (.slice none 0 0) (.slice none 0 0) (.map none)) hrl Kx (λi hi=>dI _ _ _ _ _ _ _ _ i Kc)
   have hUF:=iH ((hI.1.upd rb).trans hu1) (NL w.heap.size) (.int .i64 5) (.int .i64 0) (.string ⟨#[]⟩) (.slice none 0 0) (.slice none 0 0) (.map none)
   have hKF:Keep (λb=>w.heap.size<b) w1 (dV w1 w.heap.size (.int .i64 5) (.int .i64 0) (.string ⟨#[]⟩) (.slice none 0 0) (.slice none 0 0) (.map none)):=⟨by rw [dP];exact NL _,λi hi _=>dI _ _ _ _ _ _ _ _ i Kc⟩
   clear hb0 hb1 p0 p1 p2 p3 p4 p5 pz q0 q1 q2 q3 q4 q5 qz hsix
   unfold dV at r0 r1 r2 r3 r4 r5 hJF hUF hKF
   refine bodyPost_ret (v:=.agg #[.int .i64 5,.int .i64 0,.string ⟨#[]⟩,.slice none 0 0,.slice none 0 0,.map none]) LY rfl ?_
   exact ⟨⟨_,rfl,by rw [J.lies];exact ⟨none,0,rfl,by decide,by rw [J.lieAll];trivial⟩⟩,hJF,hUF⟩
  |false=>
   show Calls _ _ _ _ λe w'=>mr (iI (iQ k) (l0.length+1) [] l0) rb rs w e w'
   generalize hV:iI (iQ k) (l0.length+1) [] l0=V
   go_enter func110,ntmps110
   go_wp2_with (go_at_call 141;have hI:=qJ w (.cells #[.int .i64 0,.int .i64 0,.string ⟨#[]⟩,.slice none 0 0,.slice none 0 0,.map none] 85) (.cells #[.int .i64 5,.int .i64 0,.string ⟨#[]⟩,.slice none 0 0,.slice none 0 0,.map none] 85);refine (hop _ (hJ.add hI.1)).mono ?_;rintro e w1 ⟨rfl,hJ1,hu1⟩;have hb0:=(hu1.old _ Mm (by omega:w.heap.size≠rb)).trans hI.2.1;have hb1:=(hu1.old _ Mm (by omega:w.heap.size+1≠rb)).trans hI.2.2)
   go_loopw [] (λwr=>∃acc L1 f v cells,wr.heap[w.heap.size]?=some (.cells #[.int .i64 0,.int .i64 0,.string ⟨#[]⟩,.slice none 0 0,.slice none 0 0,.map none] 85 (0,0))/\wr.heap[w.heap.size+1]?=some (vblk v)/\Row wr 6 v acc.length cells/\(∀i,blk v=some i->w.heap.size+1<i)/\bg (λb=>w.heap.size+1<b/\blk v≠some b) wr acc cells/\Jr wr rb rs L1/\iI (iQ k) f acc L1=V/\L1.length<f/\acc.length+L1.length<=4000/\Upd rb w wr) (λwr=>rs.length-lM wr rb)
   case atStart=>exact ⟨[],l0,l0.length+1,.slice none 0 0,[],hb0,hb1,Row.nil _ _,λi hi=>(by cases hi),rfl,hJ1,hV,by omega,by simp;omega,(hI.1.upd rb).trans hu1⟩
   obtain ⟨acc,L1,f1,v,cells,hb0,hb1,hrow,hblk,hlie,hJr,hq,hf,hacc,hu⟩:=hrel
   obtain ⟨f,rfl⟩:=Y19
   have hvc:=hvd wr.drew L1 (hJr.add (af _))
   rw [iI] at hq
   obtain ⟨va,vc,hvs⟩:=hrow.shape
   obtain ⟨p0,p1,p2,p3,p4,p5,pz⟩:=dF hb1
   cases hvv:iQ k L1 with
   |none=>
    rw [hvv] at hq hvc
    subst hq
    subst hvs
    clear hf hacc hV hop hvd hval
    go_wp2
    go_region_dies
    all_goals (go_wp2_with (go_at_call 74;refine (hvc).mono ?_;rintro e w2 ⟨⟨T,v,rfl⟩,hu2⟩))
    all_goals exact ⟨rfl,⟨_,_,rfl⟩,hu.trans (((af wr).upd rb).trans hu2)⟩
   |some y=>
    obtain ⟨j,l⟩:=y
    rw [hvv] at hq hvc
    have hll:=hvl L1 j l hvv
    subst hvs
    have HR:Hid (Row wr 6 (.slice va acc.length vc) acc.length cells):=hrow
    have HB1:Hid (wr.heap[w.heap.size+1]?=some (vblk (.slice va acc.length vc))):=hb1
    have HB0:Hid (wr.heap[w.heap.size]?=some (.cells #[.int .i64 0,.int .i64 0,.string ⟨#[]⟩,.slice none 0 0,.slice none 0 0,.map none] 85 (0,0))):=hb0
    have HU:Hid (Upd rb w wr):=hu
    have hw1:w.heap.size+1<wr.heap.size:=(Oh hb1).1
    obtain ⟨iV,zV,hiV,hzV,hsV,hz6,hbV⟩:=Tryz.infoV6
    have hbyte:=Y20
    clear hop hvd hval hb1 hb0 hu hrow p0 p1 p2 p4 p5 hI hu1 hJ1 hV hbV
    go_wp2
    refine wp_region_any Kf ?_
    change wpAny _ _ _ _ _ _ _ (World.drew _)
    refine wpAny_take (i:=0) (v:=?_) rfl Kf Kf Kf (λ_ _ _ h=>h) (Or.inl ⟨by rfl,?_⟩) ?_
    rotate_left
    ·exact Z223
    refine wpAny_take (i:=2) (v:=?_) rfl Kf Kf Kf (λ_ _ _ h=>h) (Or.inl ⟨by rfl,?_⟩) ?_
    rotate_left
    ·exact Z223
    refine wpAny_take (i:=3) (v:=?_) rfl Kf Kf Kf (λ_ _ _ h=>h) (Or.inl ⟨by rfl,?_⟩) ?_
    rotate_left
    ·exact Z223
    refine wpAny_ready (rs:=[1,4]) Kf Kh ?_
    refine AllReady.cons rfl (λK hK=>?_) (AllReady.cons rfl (λK hK=>?_) AllReady.nil)
    ·go_simp
     refine hK _ _ ?_
     clear hK K
     refine wpAny_ready (rs:=[4]) Kf Kh ?_
     refine AllReady.cons rfl (λK hK=>?_) AllReady.nil
     go_simp
     go_wp2_with (go_at_call 74;refine (hvc).mono ?_;rintro e w2 ⟨⟨cs,rfl,hcs⟩,hJ2,hu2⟩;obtain ⟨n6,t6,a6,na6,l6,c6,nl6,nc6,m6,rfl⟩:=J.lies_cells hcs;have k3:=hu2.cell (b:=w.heap.size+1) Kc p3;have hrow2:Row w2 6 (.slice va acc.length vc) acc.length cells:=HR.out.carry (λi hi=>hu2.old i (HR.out.blk_lt hi) (by have:=hblk i hi;omega));have h9:w.heap.size+1<w2.heap.size:=NK hw1 hu2.size;unfold jc)
     exact Z4
    go_simp
    go_wp2_with (go_at_call 74;refine (hvc).mono ?_;rintro e w2 ⟨⟨cs,rfl,hcs⟩,hJ2,hu2⟩;obtain ⟨n6,t6,a6,na6,l6,c6,nl6,nc6,m6,rfl⟩:=J.lies_cells hcs;have k3:=hu2.cell (b:=w.heap.size+1) Kc p3;have hrow2:Row w2 6 (.slice va acc.length vc) acc.length cells:=HR.out.carry (λi hi=>hu2.old i (HR.out.blk_lt hi) (by have:=hblk i hi;omega));have h9:w.heap.size+1<w2.heap.size:=NK hw1 hu2.size;unfold jc)
    refine wpAny_ready (rs:=[1,5]) Kf Kh ?_
    refine AllReady.cons rfl (λK hK=>?_) (AllReady.cons rfl (λK hK=>?_) AllReady.nil)
    ·go_simp
     refine hK _ _ ?_
     clear hK K
     exact Z4
    go_simp
    refine hK _ _ ?_
    clear hK K
    refine wpAny_ready (rs:=[1]) Kf Kh ?_
    refine AllReady.cons rfl (λK hK=>?_) AllReady.nil
    go_simp
    refine hK _ _ ?_
    clear hK K
    refine wpAny_ready (rs:=[6]) Kf Kh ?_
    refine AllReady.cons rfl (λK hK=>?_) AllReady.nil
    refine dO _ Kl _ _ 83 83 Kl Ke iV zV iV.bytes underlying83 hiV hzV hsV rfl hz6 Kl (hrow2.alloc _) _ 1 _ Kl (Src.six _ underlying83 _ Kl 85 _ _ _ _ _ _ (one6 _ _ _ _ _ _ _ _ _ _)) Ki (hbyte _ Kc) ?_
    intro v4 w4 hrow4 hg4
    obtain ⟨a4,c4,rfl⟩:=hrow4.shape
    have k4:=Y21
    have f4:=Y22
    refine hK _ _ ?_
    clear hK K
    go_simp
    refine wpAny_take (i:=7) (v:=?_) rfl Kf Kf Kf (λ_ _ _ h=>h) (Or.inl ⟨by rfl,?_⟩) ?_
    rotate_left
    ·exact Z223
    exact Z245
end
section
open Go Go.RowKit Go.Extern.Stop Go.Stop Go.Extern Go.Maps Go.WideMaps
def Z129(h:p:=by
 intro b hb hn e
 rcases hgr.at' with e1|⟨g,hg,e1⟩
 ·exact hn NC
 rw [e] at e1
 cases e1
 omega):p:=h
def Z259(h:p:=by
 rw [has_put_other (λe=>hs (jP NA)),hhas s,decide_eq_false hs,Bool.or_false]):p:=h
def zblk:Obj:=.cells #[.int .i64 0,.int .i64 0,.string ⟨#[]⟩,.slice none 0 0,.slice none 0 0,.map none] 85 (0,0)
def Jj(m:Nat)(v nv:Value):Obj:=.cells #[.int .i64 6,.int .i64 0,.string ⟨#[]⟩,v,nv,.map (some m)] 85 (0,0)
structure ObjSt(B0:Nat)(wr:World)(ns:List ByteArray)(vs:List J)(nv v:Value)(cells:List Value):Prop where
 b0:wr.heap[B0]?=some zblk
 b1:wr.heap[B0+2]?=some (Jj (B0+1) v nv)
 pl:kS wr (B0+1) ns
 nrow:Row wr 1 nv ns.length (ns.map Value.string)
 nblk:∀i,blk nv=some i->B0+2<i
 row:Row wr 6 v vs.length cells
 vblk:∀i,blk v=some i->B0+2<i
 ne:∀i,blk v=some i->blk nv≠some i
 lie:bg (λb=>B0+2<b/\blk v≠some b/\blk nv≠some b) wr vs cells
variable {B0 rb:Nat} {wr w2:World} {ns:List ByteArray} {vs:List J} {nv v:Value} {cells:List Value}
theorem ObjSt.lt(h:ObjSt B0 wr ns vs nv v cells):B0+2<wr.heap.size:=(Oh h.b1).1
theorem ObjSt.carry(h:ObjSt B0 wr ns vs nv v cells)(hs:wr.heap.size<=w2.heap.size)(k:∀i,B0<=i->i<wr.heap.size->w2.heap[i]?=wr.heap[i]?):ObjSt B0 w2 ns vs nv v cells:=by
 have hl:=h.lt
 exact ⟨(k _ Kc Kc).trans h.b0,(k _ Kc hl).trans h.b1,h.pl.carry (k _ Kc Kc),h.nrow.carry (λi hi=>k i LU (h.nrow.blk_lt hi)),h.nblk,h.row.carry (λi hi=>k i LV (h.row.blk_lt hi)),h.vblk,h.ne,bq ⟨hs,λi hi hl=>k i Kc hl⟩ _ _ h.lie⟩
theorem ObjSt.upd(h:ObjSt B0 wr ns vs nv v cells)(hr:rb<B0)(hu:Upd rb wr w2):ObjSt B0 w2 ns vs nv v cells:=h.carry hu.size λi hi hl=>hu.old i hl Kc
theorem wO(x y:ByteArray)(l:List ByteArray):dU x (l++[y])=(dU x l||decide (x=y)):=by simp [dU]
theorem kS.put{w2:World}{m:Nat}{D:DataW Unit}{ns:List ByteArray}{n:ByteArray}(hn:n.size<=70368744177000)(hD:IsMap D)(hhas:∀s:ByteArray,Maps.has D (.string s.data.toList)=dU s ns)(hat:∀i (h:i<ns.length),D.atKey (.string (ns[i]).data.toList) (.lit (.int .i64 0))=.lit (.int .i64 i))(hnew:dU n ns=false)
  (hown:w2.ownsMap prog 9 (plainElem prog 3) m (ns.length+1) (D.put (.string n.data.toList) (.lit (.int .i64 ns.length)))):kS w2 m (ns++[n]):=by
 have hkey:=Tryz.keyLaw.key (qH n hn)
 refine ⟨_,by rw [List.length_append];exact hown,hD.put _ _,λs=>?_,λi hi=>?_⟩
 ·rw [wO]
  by_cases hs:s=n
  ·subst hs
   rw [has_put_same hD hkey]
   simp
  exact Z259
 by_cases he:i<ns.length
 ·rw [List.getElem_append_left he,atKey_put_other,hat i he]
  intro e
  have e2:ns[i]=n:=jP NA
  have:dU n ns=true:=by
   simp only [dU,List.any_eq_true,decide_eq_true_eq]
   exact ⟨ns[i],NS he,e2.symm⟩
  rw [hnew] at this
  cases this
 obtain rfl:i=ns.length:=by simp at hi;omega
 rw [List.getElem_append_right (NL _)]
 simp only [Nat.sub_self,List.getElem_cons_zero]
 exact atKey_put_same hD hkey _ _
theorem ObjSt.put(h:ObjSt B0 wr ns vs nv v cells){n:ByteArray}(hg:wr.grownBy w2 (some (B0+1)))(hp:kS w2 (B0+1) (ns++[n])):
  w2.heap[B0]?=some zblk/\w2.heap[B0+2]?=some (Jj (B0+1) v nv)/\Row w2 1 nv ns.length (ns.map Value.string)/\Row w2 6 v vs.length cells/\bg (λb=>B0+2<b/\blk v≠some b/\blk nv≠some b) w2 vs cells/\kS w2 (B0+1) (ns++[n]):=by
 have hl:=h.lt
 have k:∀i,i≠B0+1->i<wr.heap.size->w2.heap[i]?=wr.heap[i]?:=λi hi hlt=>hg.block i hlt (λe=>hi LF)
 exact ⟨(k _ Kc Kc).trans h.b0,(k _ Kc hl).trans h.b1,h.nrow.carry (λi hi=>k i LU (h.nrow.blk_lt hi)),h.row.carry (λi hi=>k i LV (h.row.blk_lt hi)),bq ⟨hg.size,λi hi hl=>k i Kc hl⟩ _ _ h.lie,hp⟩
theorem ObjSt.name(h:ObjSt B0 wr ns vs nv v cells){n:ByteArray}(hg:wr.grownBy w2 (some (B0+1)))(hp:kS w2 (B0+1) (ns++[n])){o:Obj}{w4:World}{nv5:Value}(hrow:Row w4 1 nv5 (ns.length+1) (ns.map Value.string++[.string n]))(hgr:Grew (w2.alloc o) nv w4 nv5):
  ObjSt B0 (w4.setCell ⟨B0+2,4,none⟩ nv5) (ns++[n]) vs nv5 v cells:=by
 obtain ⟨h0,h1,h2,h3,h4,h5⟩:=h.put hg hp
 have hl:=h.lt
 have hs2:=hg.size
 have ha:(w2.alloc o).heap.size=w2.heap.size+1:=dE _ _
 have hs4:=hgr.size
 have k:∀i,i<w2.heap.size->blk nv≠some i->i≠B0+2->(w4.setCell ⟨B0+2,4,none⟩ nv5).heap[i]?=w2.heap[i]?:=λi hi hn hne=>by
  rw [NZ w4 ⟨B0+2,4,none⟩ nv5 i hne,hgr.old i Kc hn,Oc _ _ i hi]
 have hnb:∀i,i<=B0+2->blk nv≠some i:=λi hi e=>by have:=h.nblk i e;omega
 have hb5:∀i,blk nv5=some i->B0+2<i:=by
  intro i hi
  rcases hgr.at' with e|⟨g,hg,e⟩
  ·exact h.nblk i (e ▸ hi)
  rw [hi] at e
  cases e
  omega
 have hn5:∀b,b<w2.heap.size->blk nv≠some b->blk nv5≠some b:=by
  exact Z129
 refine ⟨(k _ Kc (hnb _ Kc) Kc).trans h0,?_,h5.carry (k _ Kc (hnb _ Kc) Kc),?_,hb5,h3.carry (λi hi=>k i (h3.blk_lt hi) (h.ne i hi) LV),h.vblk,λi hi=>hn5 i (h3.blk_lt hi) (h.ne i hi),?_⟩
 ·have hh:w4.heap[B0+2]?=some (Jj (B0+1) v nv):=by
   rw [hgr.old _ Kc (hnb _ Kc),Oc _ _ _ Kc]
   exact h1
  exact dG hh 4 nv5
 ·rw [List.length_append,List.map_append]
  exact hrow.carry λi hi=>NZ w4 ⟨B0+2,4,none⟩ nv5 i Ny
 exact bu (ok:=λb=>(B0+2<b/\blk v≠some b/\blk nv≠some b)/\b<w2.heap.size) (λb hb _=>⟨hb.1.1,hb.1.2.1,hn5 b hb.2 hb.1.2.2⟩) _ _ (bq (ok:=λb=>(B0+2<b/\blk v≠some b/\blk nv≠some b)/\b<w2.heap.size) ⟨by simp;omega,λi hi hl=>k i hl hi.1.2.2 Kc⟩ _ _ (bu (λb hb hl=>⟨hb,hl⟩) _ _ h4))
theorem ObjSt.item(h:ObjSt B0 wr ns vs nv v cells)(hrb:rb<B0)(hu2:Upd rb wr w2){j:J}{c6:List Value}(hcs:j.lies (λb=>wr.heap.size<=b) w2 c6){o:Obj}{w4:World}{v5:Value}(hrow:Row w4 6 v5 (vs.length+1) (cells++c6))(hgr:Grew (w2.alloc o) v w4 v5):
  ObjSt B0 (w4.setCell ⟨B0+2,3,none⟩ v5) ns (vs++[j]) nv v5 (cells++c6):=by
 have h2:=h.upd hrb hu2
 have hl:=h2.lt
 have ha:(w2.alloc o).heap.size=w2.heap.size+1:=dE _ _
 have hs4:=hgr.size
 have k:∀i,i<w2.heap.size->blk v≠some i->i≠B0+2->(w4.setCell ⟨B0+2,3,none⟩ v5).heap[i]?=w2.heap[i]?:=λi hi hn hne=>by
  rw [NZ w4 ⟨B0+2,3,none⟩ v5 i hne,hgr.old i Kc hn,Oc _ _ i hi]
 have hnb:∀i,i<=B0+2->blk v≠some i:=λi hi e=>by have:=h.vblk i e;omega
 have hnv:∀i,blk nv=some i->blk v≠some i:=λi hi e=>h.ne i e hi
 have hb5:∀i,blk v5=some i->B0+2<i:=by
  intro i hi
  rcases hgr.at' with e|⟨g,hg,e⟩
  ·exact h.vblk i (e ▸ hi)
  rw [hi] at e
  cases e
  omega
 have hn5:∀b,b<w2.heap.size->blk v≠some b->blk v5≠some b:=by
  exact Z129
 have hsz:=hu2.size
 refine ⟨(k _ Kc (hnb _ Kc) Kc).trans h2.b0,?_,h2.pl.carry (k _ Kc (hnb _ Kc) Kc),h2.nrow.carry (λi hi=>k i (h2.nrow.blk_lt hi) (hnv i hi) LU),h.nblk,?_,hb5,λi hi e=>hn5 i (h2.nrow.blk_lt e) (hnv i e) hi,?_⟩
 ·have hh:w4.heap[B0+2]?=some (Jj (B0+1) v nv):=by
   rw [hgr.old _ Kc (hnb _ Kc),Oc _ _ _ Kc]
   exact h2.b1
  exact dG hh 3 v5
 ·rw [List.length_append]
  exact hrow.carry λi hi=>NZ w4 ⟨B0+2,3,none⟩ v5 i Ny
 have m1:bg (λb=>B0+2<b/\blk v5≠some b/\blk nv≠some b) (w4.setCell ⟨B0+2,3,none⟩ v5) vs cells:=
  bu (ok:=λb=>(B0+2<b/\blk v≠some b/\blk nv≠some b)/\b<w2.heap.size) (λb hb _=>⟨hb.1.1,hn5 b hb.2 hb.1.2.1,hb.1.2.2⟩) _ _ (bq (ok:=λb=>(B0+2<b/\blk v≠some b/\blk nv≠some b)/\b<w2.heap.size) ⟨by simp;omega,λi hi hl=>k i hl hi.1.2.1 Kc⟩ _ _ (bu (λb hb hl=>⟨hb,hl⟩) _ _ h2.lie))
 have hwl:=h.lt
 have m2:j.lies (λb=>B0+2<b/\blk v5≠some b/\blk nv≠some b) (w4.setCell ⟨B0+2,3,none⟩ v5) c6:=by
  refine bP (ok:=λb=>wr.heap.size<=b/\b<w2.heap.size) (λb hb _=>⟨by omega,?_,λe=>by have:=h.nrow.blk_lt e;omega⟩) _ _ (J.lies_carry (ok:=λb=>wr.heap.size<=b/\b<w2.heap.size) ⟨by simp;omega,λi hi hl=>k i hl (λe=>by have:=h.row.blk_lt e;omega) Kc⟩ _ _ (bP (λb hb hl=>⟨hb,hl⟩) _ _ hcs))
  exact hn5 b hb.2 (λe=>by have:=h.row.blk_lt e;omega)
 exact bA (bO m2) m2 vs cells m1
end
end Go.Proofs.YtjmlghgnbclmfaaGreatDoor
