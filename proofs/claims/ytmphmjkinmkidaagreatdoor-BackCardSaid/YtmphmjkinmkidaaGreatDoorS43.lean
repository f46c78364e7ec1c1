import Derived.Test.YtmphmjkinmkidaaGreatDoorS40
set_option linter.defProp false
open Go.Proofs.Tryz
set_option maxRecDepth 8000
set_option maxHeartbeats 4000000
open Go Go.RowKit Go.Extern.Stop Go.Stop Go.Extern
namespace Go.Proofs.YtmphmjkinmkidaaGreatDoor
variable{p:Prop}
section
def Y214(h:p:=by exact (show w.heap.size≠kb from NR h.lt)):p:=h
def Y215(h:p:=by exact (show ∀n,n<=270000->n*iV.bytes<=140737488355328 from λn hn=>NM (Nat.mul_le_mul hn hbV) Ke)):p:=h
def Z12(h:p:=by
 try simp only [Act.put,List.getElem_toArray,List.getElem_cons_zero,List.getElem_cons_succ,List.setIfInBounds_toArray,List.set_cons_zero,List.set_cons_succ]
 apply rd 7
 intro K hK
 refine dO _ Kl _ _ 28 28 Kl Ke iV zV iV.bytes underlying28 hiV hzV hsV rfl hz6 Kl (show Row (w3.alloc (.cells #[.int .i64 dk,.int .i64 dn,.int .u64 (db:Int),.string dt,.slice dna dnl dnc,.slice dka dkl dkc] 42)).drew 6 (.slice xa n xc) n cells from (hR.alloc (.cells #[.int .i64 dk,.int .i64 dn,.int .u64 (db:Int),.string dt,.slice dna dnl dnc,.slice dka dkl dkc] 42)).carry λ_ _=>rfl) _ 1 _ Kl (dA _ underlying28 w3.heap.size _ _ _ _ _ _ hc6 (Cc dk dn db dt dna dka dnl dnc dkl dkc)) Ki (hbyte _ Kc) ?_
 intro v8 w8 hrow8 hg8
 have HG8:=bf hg8
 have HR8:=bf hrow8
 obtain ⟨g8,c8,rfl,hgl,-⟩:=Y154
 have hA8:Add w3 (w3.alloc (.cells #[.int .i64 dk,.int .i64 dn,.int .u64 (db:Int),.string dt,.slice dna dnl dnc,.slice dka dkl dkc] 42)).drew:=(ae w3 (.cells #[.int .i64 dk,.int .i64 dn,.int .u64 (db:Int),.string dt,.slice dna dnl dnc,.slice dka dkl dkc] 42)).trans (af _)
 have HA8:=bf hA8
 have hz8:=hA8.size
 have e0:=hg8.cell (NK (NW _ _ q0) hz8) hbb (hA8.cell q0)
 have e1:=hg8.cell (NK (NW _ _ q1) hz8) hbb (hA8.cell q1)
 have e2:=hg8.cell (NK (NW _ _ q2) hz8) hbb (hA8.cell q2)
 have e3:=hg8.cell (NK (NW _ _ q3) hz8) hbb (hA8.cell q3)
 have e4:=hg8.cell (NK (NW _ _ q4) hz8) hbb (hA8.cell q4)
 have e5:=hg8.cell (NK (NW _ _ q5) hz8) hbb (hA8.cell q5)
 have ek:=hg8.cell (NK (NW _ _ k2) hz8) hnb' (hA8.cell k2)
 have fk:w8.frozen? ⟨kb,2,none⟩=false:=(hg8.frozen (NK (NW _ _ k2) hz8) hnb').trans ((hA8.frozen (NW _ _ k2)).trans kz)
 have hS:∀ {o:Nat} {y:Value},w8.cell? ⟨w.heap.size,o,none⟩=some y->(w8.setCell ⟨kb,2,none⟩ (.slice (some ⟨g8,0,none⟩) (n+1) c8)).cell? ⟨w.heap.size,o,none⟩=some y:=λhy=>(NY (a:=⟨w.heap.size,_,none⟩) (NZ _ _ _ _ (by exact hne))).trans hy
 clear hrow8 hg8 hgl hA8
 refine hK.out _ _ ⟨e0,e1,e2,e3,e4,e5⟩ (λhH=>?_)
 clear hK K
 try simp only [Act.put,List.getElem_toArray,List.getElem_cons_zero,List.getElem_cons_succ,List.setIfInBounds_toArray,List.set_cons_zero,List.set_cons_succ]
 apply tk 8
 apply tk 9
 apply rd 10
 intro K hK
 go_simp
 refine hK.out _ _ ⟨hS e0,hS e1,hS e2,hS e3,hS e4,hS e5⟩ (λhH=>?_)
 clear hK K
 refine wpAnyH_done Kf ?_ _
 go_wp2
 go_end0
 have hg:=HG8.out
 have hn8:=hg.newb (NK (NW _ _ k2) HA8.out.size) hnb'
 have hn:=HN.out
 subst hn
 exact ⟨rfl,_,_,_,_,_,H3.out.data (Kgrew.of H3.out.lt hnb (H3.out.there 2 Ke).1 HA8.out hg) (HR8.out.carry λi hi=>NZ _ _ _ _ KQ) rfl HD3.out HZ.out⟩):p:=h
def Z112(h:p:=by
 rintro v (rfl|rfl|rfl) e
 ·exact Nat.lt_irrefl _ (h.rd.blk_lt e)
 ·exact Nat.lt_irrefl _ (h.ra.blk_lt e)
 exact Nat.lt_irrefl _ (h.rb.blk_lt e)):p:=h
theorem Dw(w:World)(v0 v1 v2 v3 v4 v5:Value){T:TypeId} : ∀f,f<6->(w.alloc (.cells #[v0,v1,v2,v3,v4,v5] T)).drew.cell? ⟨w.heap.size,f,none⟩=[v0,v1,v2,v3,v4,v5][f]?:=by
 obtain ⟨q0,q1,q2,q3,q4,q5,-⟩:=dF (dD w (.cells #[v0,v1,v2,v3,v4,v5] T (0,0)))
 intro f hf
 have hf':=Y105
 rcases hf' with rfl|rfl|rfl|rfl|rfl|rfl
 ·exact q0
 ·exact q1
 ·exact q2
 ·exact q3
 ·exact q4
 exact q5
theorem Grew.newb{w w':World}{v v':Value}(g:Grew w v w' v'){b:Nat}(hb:b<w.heap.size)(h:blk v≠some b):blk v'≠some b:=λe=>by
 exact Z158
theorem Kgrew.put6{w w':World}{kb o g8 N c p:Nat}{v v0 v1 v2 v3 v4 v5:Value}(g:Kgrew w w' kb o v (.slice (some ⟨g8,0,none⟩) N c))(hne:g8≠kb):Kgrew w (eT w' g8 p v0 v1 v2 v3 v4 v5) kb o v (.slice (some ⟨g8,0,none⟩) N c):=by
 have hb:(eT w' g8 p v0 v1 v2 v3 v4 v5).heap[kb]?=w'.heap[kb]?:=gy _ _ _ _ _ _ _ _ _ kb (Ne.symm hne)
 have hcb:∀k,(eT w' g8 p v0 v1 v2 v3 v4 v5).cell? ⟨kb,k,none⟩=w'.cell? ⟨kb,k,none⟩:=λk=>NY (a:=⟨kb,k,none⟩) hb
 refine ⟨(sI ..).1.trans g.os,(sI ..).2.trans g.output,by rw [jG];exact g.size,λi hi h1 h2=>(gy _ _ _ _ _ _ _ _ _ i ?_).trans (g.old i hi h1 h2),(hcb o).trans g.c,λk hk=>(hcb k).trans (g.ck k hk),λk=>(um ..).trans (g.fk k),g.at'⟩
 rintro rfl
 rcases g.at' with e|⟨b,hb,e⟩
 ·exact h2 e.symm
 have:i=b:=LH
 omega
theorem yC{W0 w:World}{kb:Nat}{vd va vb:Value}{text:ByteArray}{ds:List Dat}{cells:List Value}{na:Nat}{ac:List Value}{bs:List ByteArray}{left:Int}{d:Dat}{c6:List Value}(h:KwV W0 w kb vd va vb text ds cells na ac bs left)(hd:d.liesO (lN kb vd va vb) w c6)(hl:0<=left)(hdz:d.sz<=1000000):
  Calls prog 24 #[.pointer (some ⟨kb,0,none⟩),.agg c6.toArray] w λe w'=>e=.returned (.tuple #[])/\Kw W0 w' kb text (ds++[d]) na bs (left-d.sz):=by
 obtain ⟨dk,dn,db,dt,dna,dka,dnl,dnc,dkl,dkc,rfl⟩:=aO hd
 unfold dcs at hd ⊢
 have hal:=ae w (.cells #[.int .i64 dk,.int .i64 dn,.int .u64 (db:Int),.string dt,.slice dna dnl dnc,.slice dka dkl dkc] 42 (0,0))
 have hbx:=dD w (.cells #[.int .i64 dk,.int .i64 dn,.int .u64 (db:Int),.string dt,.slice dna dnl dnc,.slice dka dkl dkc] 42 (0,0))
 obtain ⟨q0,q1,q2,q3,q4,q5,qz⟩:=dF hbx
 have h1:=h.more hal
 have hd1:=aN (ok:=lN kb vd va vb) ⟨hal.size,λi _ hl=>hal.old i hl⟩ _ _ hd
 have hne:=Y214
 have hown:∀v,(v=vd\/v=va\/v=vb)->blk v≠some w.heap.size:=by
  exact Z112
 have hsz:=AB d.count d (NL _) (w.alloc (.cells #[.int .i64 dk,.int .i64 dn,.int .u64 (db:Int),.string dt,.slice dna dnl dnc,.slice dka dkl dkc] 42 (0,0))) w.heap.size 0 ⟨_,rfl,λf hf=>by
  have hf':=Y105
  rcases hf' with rfl|rfl|rfl|rfl|rfl|rfl
  ·exact q0
  ·exact q1
  ·exact q2
  ·exact q3
  ·exact q4
  exact q5,aR _ _ hd1⟩ Kc
 have hw:wrap64 (left-d.sz)=left-d.sz:=by unfold wrap64;have:=h.sz;omega
 have hS:=h.setLeft (l:=left-d.sz) (by have:=h.sz;omega) Kc
 have h2:=hS.more (ae (w.setCell ⟨kb,14,none⟩ (.int .i64 (left-d.sz))) (.cells #[.int .i64 dk,.int .i64 dn,.int .u64 (db:Int),.string dt,.slice dna dnl dnc,.slice dka dkl dkc] 42 (0,0)))
 have k14:=h1.c14
 have kz:=(h1.there 14 Ke).2
 obtain ⟨k1,k2,k3⟩:=CG w kb 14 (.int .i64 (left-d.sz))
 have hbx2:=dD (w.setCell ⟨kb,14,none⟩ (.int .i64 (left-d.sz))) (.cells #[.int .i64 dk,.int .i64 dn,.int .u64 (db:Int),.string dt,.slice dna dnl dnc,.slice dka dkl dkc] 42 (0,0))
 rw [k2] at hbx2
 have hd2:=aN (ok:=lN kb vd va vb) (w:=w) (w':=(w.setCell ⟨kb,14,none⟩ (.int .i64 (left-d.sz))).alloc (.cells #[.int .i64 dk,.int .i64 dn,.int .u64 (db:Int),.string dt,.slice dna dnl dnc,.slice dka dkl dkc] 42 (0,0))) ⟨by rw [dE,k2];exact Nat.le_succ _,λi hi hl=>((ae (w.setCell ⟨kb,14,none⟩ (.int .i64 (left-d.sz))) (.cells #[.int .i64 dk,.int .i64 dn,.int .u64 (db:Int),.string dt,.slice dna dnl dnc,.slice dka dkl dkc] 42 (0,0))).old i (by rw [k2];exact hl)).trans (k1 i hi.1)⟩ _ _ hd
 have hs2:((w.setCell ⟨kb,14,none⟩ (.int .i64 (left-d.sz))).alloc (.cells #[.int .i64 dk,.int .i64 dn,.int .u64 (db:Int),.string dt,.slice dna dnl dnc,.slice dka dkl dkc] 42 (0,0))).heap.size=w.heap.size+1:=by rw [dE,k2]
 have hds:ds.length<=262144:=by have:=h.sz;have:=ll ds;omega
 have HZ:Hid (left-d.sz+aY ds+d.sz<=262144):=by show _<=_;have:=h.sz;omega
 have hkl:kb<w.heap.size:=h.lt
 have hnb:blk vd≠some kb:=λe=>(h.own kb (.inl e)).2 rfl
 clear h hd h1 hd1 hbx hal qz k1 k2 k3 hS
 go_enter func24,ntmps24
 go_upto_region 3 with (go_at_call 27;refine hsz.mono ?_;rintro e w1 ⟨rfl,rfl⟩)
 generalize hW2:(w.setCell ⟨kb,14,none⟩ (.int .i64 (left-d.sz))).alloc (.cells #[.int .i64 dk,.int .i64 dn,.int .u64 (db:Int),.string dt,.slice dna dnl dnc,.slice dka dkl dkc] 42 (0,0))=w2 at *
 clear hW2 k14 kz hsz hw q0 q1 q2 q3 q4 q5
 go_cut [16] (λs16 wx=>(s16=.bool true\/s16=.bool false)/\Add w2 wx)
 case first=>
  go_region
  all_goals (go_wp2;go_meet;first|exact ⟨.inl rfl,(ae w2 _).trans (af _)⟩|exact ⟨.inr rfl,(ae w2 _).trans (af _)⟩)
 obtain ⟨hb16,hA3⟩:=hcut
 generalize wc=w3 at *
 have h3:=h2.more hA3
 have hd3:=aN (ok:=lN kb vd va vb) ⟨hA3.size,λi _ hl=>hA3.old i hl⟩ _ _ hd2
 have hlt2:w.heap.size<w2.heap.size:=Kc
 have hbx3:=(hA3.old _ hlt2).trans hbx2
 obtain ⟨q0,q1,q2,q3,q4,q5,qz⟩:=dF hbx3
 have k2:=h3.c2
 have kz:=(h3.there 2 Ke).2
 obtain ⟨xa,xc,rfl⟩:=h3.rd.shape
 obtain ⟨n,hn⟩:∃n,ds.length=n:=⟨_,rfl⟩
 have hR:=h3.rd
 rw [hn] at hR hds k2
 have HN:=bf hn
 obtain ⟨iV,zV,hiV,hzV,hsV,hz6,hbV⟩:=Tryz.infoD6
 have hbyte:=Y215
 have HD3:=bf hd3
 have H3:=bf h3
 have hnb':blk (.slice xa n xc)≠some kb:=by rw [<-hn];exact hnb
 have hbb:blk (.slice xa n xc)≠some w.heap.size:=by rw [<-hn];exact hown _ (.inl rfl)
 have hA3z:=NK hlt2 hA3.size
 clear hbV hd3 h3 hd2 h2 hbx2 hA3 hs2 hn hown
 rcases hb16 with rfl|rfl
 ·go_upto_region 5 with (at_builtin;refine dH _ rfl _ _ 28 28 rfl Ke iV zV iV.bytes underlying28 hiV hzV hsV rfl hz6 rfl (hR.alloc _) _ 1 _ rfl (Src.six _ underlying28 _ rfl 42 _ _ _ _ _ _ yK) Ki (hbyte _ Kc) ?_;intro v8 w8 hrow8 hg8;have HG8:=bf hg8;have HR8:=bf hrow8;obtain ⟨g8,c8,rfl,hgl,-⟩:=hrow8.at_pos Kc;have hA8:=ae w3 (.cells #[.int .i64 0,.int .i64 0,.int .u64 0,.string ⟨#[]⟩,.slice none 0 0,.slice none 0 0] 42);have hz8:=hA8.size;have ek:=hg8.cell (NK (NW _ _ k2) hz8) hnb' (hA8.cell k2);have fk:w8.frozen? ⟨kb,2,none⟩=false:=(hg8.frozen (NK (NW _ _ k2) hz8) hnb').trans ((hA8.frozen (NW _ _ k2)).trans kz);have hb8:=(hg8.old w.heap.size (by rw [dE];have:=hA3z;omega) hbb).trans ((hA8.old w.heap.size (by have:=hA3z;omega)).trans hbx3);have HA8:=bf hA8;clear hrow8 hg8 hA8)
  have hn8:blk (.slice (some ⟨g8,0,none⟩) (n+1) c8)≠some kb:=HG8.out.newb (NK (NW _ _ k2) HA8.out.size) hnb'
  have hgk:g8≠kb:=λe=>hn8 (by rw [e];rfl)
  have hr9:=HR8.out.carry (w':=w8.setCell ⟨kb,2,none⟩ (.slice (some ⟨g8,0,none⟩) (n+1) c8)) λi hi=>NZ _ _ _ _ KQ
  have hb9:=(NZ w8 ⟨kb,2,none⟩ (.slice (some ⟨g8,0,none⟩) (n+1) c8) w.heap.size hne).trans hb8
  obtain ⟨p0,p1,p2,p3,p4,p5,-⟩:=dF hb9
  have hL:=Row.last (v0:=.int .i64 dk) (v1:=.int .i64 dn) (v2:=.int .u64 (db:Int)) (v3:=.string dt) (v4:=.slice dna dnl dnc) (v5:=.slice dka dkl dkc) hr9 hR.len
  have HL:=bf hL.1
  have hth:=hL.2
  obtain ⟨z0,t0⟩:=Y164
  obtain ⟨z1,t1⟩:=Y165
  obtain ⟨z2,t2⟩:=Y166
  obtain ⟨z3,t3⟩:=Y167
  obtain ⟨z4,t4⟩:=Y168
  obtain ⟨z5,t5⟩:=Y169
  have y0:=(hth 0 Kc).2
  have y1:=(hth 1 Kc).2
  have y2:=(hth 2 Kc).2
  have y3:=(hth 3 Kc).2
  have y4:=(hth 4 Kc).2
  have y5:=(hth 5 Kc).2
  have HK9:Hid (Kgrew w3 (w8.setCell ⟨kb,2,none⟩ (.slice (some ⟨g8,0,none⟩) (n+1) c8)) kb 2 (.slice xa n xc) (.slice (some ⟨g8,0,none⟩) (n+1) c8)):=Kgrew.of H3.out.lt hnb' (H3.out.there 2 Ke).1 HA8.out HG8.out
  have i0:(0:Int)<=(n:Int):=Kc
  have i1:(n:Int)<((n+1:Nat):Int):=Kc
  clear hL hth hr9 hb9 hb8 ek fk
  generalize w8.setCell ⟨kb,2,none⟩ (.slice (some ⟨g8,0,none⟩) (n+1) c8)=w9 at *
  rw [Nat.add_zero] at t0 y0
  clear hn8
  go_wp2
  go_end0
  have hk:=HK9.out
  have hr:=HL.out
  have hk6:=hk.put6 (p:=n*6) (v0:=.int .i64 dk) (v1:=.int .i64 dn) (v2:=.int .u64 (db:Int)) (v3:=.string dt) (v4:=.slice dna dnl dnc) (v5:=.slice dka dkl dkc) hgk
  unfold eT at hr hk6
  have hn:=HN.out
  subst hn
  exact ⟨rfl,_,_,_,_,_,H3.out.data hk6 hr rfl HD3.out HZ.out⟩
 have hc6:∀f,f<6->(w3.alloc (.cells #[.int .i64 dk,.int .i64 dn,.int .u64 (db:Int),.string dt,.slice dna dnl dnc,.slice dka dkl dkc] 42)).drew.cell? ⟨w3.heap.size,f,none⟩=[.int .i64 dk,.int .i64 dn,.int .u64 (db:Int),.string dt,.slice dna dnl dnc,.slice dka dkl dkc][f]?:=Dw w3 _ _ _ _ _ _
 go_upto_region 6 with fail
 refine wp_region_held_drew (S:=(λw'=>w'.cell? ⟨w.heap.size,0,none⟩=some (.int .i64 dk)/\w'.cell? ⟨w.heap.size,1,none⟩=some (.int .i64 dn)/\w'.cell? ⟨w.heap.size,2,none⟩=some (.int .u64 (db:Int))/\w'.cell? ⟨w.heap.size,3,none⟩=some (.string dt)/\w'.cell? ⟨w.heap.size,4,none⟩=some (.slice dna dnl dnc)/\w'.cell? ⟨w.heap.size,5,none⟩=some (.slice dka dkl dkc))) Kf ?_ (λhH=>?_)
 ·exact ⟨q0,q1,q2,q3,q4,q5⟩
 apply tk 0
 apply tk 1
 apply tk 2
 apply tk 3
 apply tk 5
 refine wpAnyH_ready (rs:=[4,6]) Kf Kh ?_
 refine AllReadyH.cons rfl (λK hK=>?_) (AllReadyH.cons rfl (λK hK=>?_) AllReadyH.nil)
 ·have lk:w3.drew.cell? ⟨kb,2,none⟩=some (.slice xa n xc):=k2
  go_simp
  refine hK.out _ _ ⟨q0,q1,q2,q3,q4,q5⟩ (λhH=>?_)
  clear hK K lk
  try simp only [Act.put,List.getElem_toArray,List.getElem_cons_zero,List.getElem_cons_succ,List.setIfInBounds_toArray,List.set_cons_zero,List.set_cons_succ]
  apply rd 6
  intro K hK
  go_simp
  refine hK.out _ _ ⟨(ae w3 _).cell q0,(ae w3 _).cell q1,(ae w3 _).cell q2,(ae w3 _).cell q3,(ae w3 _).cell q4,(ae w3 _).cell q5⟩ (λhH=>?_)
  clear hK K
  exact Z12
 go_simp
 refine hK.out _ _ ⟨(ae w3 _).cell q0,(ae w3 _).cell q1,(ae w3 _).cell q2,(ae w3 _).cell q3,(ae w3 _).cell q4,(ae w3 _).cell q5⟩ (λhH=>?_)
 clear hK K
 try simp only [Act.put,List.getElem_toArray,List.getElem_cons_zero,List.getElem_cons_succ,List.setIfInBounds_toArray,List.set_cons_zero,List.set_cons_succ]
 apply rd 4
 intro K hK
 have lk:(w3.alloc (.cells #[.int .i64 dk,.int .i64 dn,.int .u64 (db:Int),.string dt,.slice dna dnl dnc,.slice dka dkl dkc] 42)).cell? ⟨kb,2,none⟩=some (.slice xa n xc):=(ae w3 _).cell k2
 go_simp
 refine hK.out _ _ ⟨(ae w3 _).cell q0,(ae w3 _).cell q1,(ae w3 _).cell q2,(ae w3 _).cell q3,(ae w3 _).cell q4,(ae w3 _).cell q5⟩ (λhH=>?_)
 clear hK K lk
 exact Z12
end
section
def Z124(h:p:=by
 go_enter func15,ntmps15
 exact Z261):p:=h
def Z261(h:p:=by
 go_wp2
 go_end0
 exact ⟨rfl,_,_,_,_,_,⟨_,_,_,_,_,H2.out⟩,Nat.le_succ _,Nat.le_succ _⟩):p:=h
structure OpB(A B C:Int)(S:ByteArray):Prop where
 a : -9223372036854775808<=A/\A<=9223372036854775807
 b : -9223372036854775808<=B/\B<=9223372036854775807
 c : -9223372036854775808<=C/\C<=9223372036854775807
 s:S.size<=262144
def qG(W0:World)(kb na nb:Nat)(e:Ending)(w':World):Prop:=e=.returned (.tuple #[])/\∃text ds na' bs left,Kw W0 w' kb text ds na' bs left/\na'<=na+1/\bs.length<=nb+1
section
variable {W0 w:World} {kb:Nat} {vd va vb:Value} {text:ByteArray} {ds:List Dat} {cells:List Value} {na:Nat} {ac:List Value} {bs:List ByteArray} {left A B C:Int} {S:ByteArray}
theorem kstep1(h:KwV W0 w kb vd va vb text ds cells na ac bs left)(hO:OpB A B C S):
  Calls prog 15 #[.pointer (some ⟨kb,0,none⟩),.agg #[.int .i64 1,.int .i64 A,.int .i64 B,.int .i64 C,.string S]] w λe w'=>qG W0 kb na bs.length e w':=by
 have h1:=h.more (ae w (.cells #[.int .i64 1,.int .i64 A,.int .i64 B,.int .i64 C,.string S] 52 (0,0)))
 have k1:=h1.c1
 have kz:=(h1.there 1 Ke).2
 have H2:=bf (h1.setText hO.s)
 clear h h1 hO
 exact Z124
theorem kstep7(h:KwV W0 w kb vd va vb text ds cells na ac bs left):
  Calls prog 15 #[.pointer (some ⟨kb,0,none⟩),.agg #[.int .i64 7,.int .i64 A,.int .i64 B,.int .i64 C,.string S]] w λe w'=>qG W0 kb na bs.length e w':=by
 have h1:=h.more (ae w (.cells #[.int .i64 7,.int .i64 A,.int .i64 B,.int .i64 C,.string S] 52 (0,0)))
 obtain ⟨y,k1⟩:=Option.isSome_iff_exists.1 (h1.there 12 Ke).1
 have kz:=(h1.there 12 Ke).2
 have H2:=bf (h1.num (o:=12) Ke Ke (.string S))
 clear h h1
 exact Z124
theorem kstep0{K:Int}(h:KwV W0 w kb vd va vb text ds cells na ac bs left)(hK:K<1\/8<K):
  Calls prog 15 #[.pointer (some ⟨kb,0,none⟩),.agg #[.int .i64 K,.int .i64 A,.int .i64 B,.int .i64 C,.string S]] w λe w'=>qG W0 kb na bs.length e w':=by
 have H2:=bf (h.more (ae w (.cells #[.int .i64 K,.int .i64 A,.int .i64 B,.int .i64 C,.string S] 52 (0,0))))
 have e1:(K=1)=False:=eq_false Kc
 have b1:(K==1)=false:=by simp [e1]
 have e2:(K=2)=False:=eq_false Kc
 have b2:(K==2)=false:=by simp [e2]
 have e3:(K=3)=False:=eq_false Kc
 have b3:(K==3)=false:=by simp [e3]
 have e4:(K=4)=False:=eq_false Kc
 have b4:(K==4)=false:=by simp [e4]
 have e5:(K=5)=False:=eq_false Kc
 have b5:(K==5)=false:=by simp [e5]
 have e6:(K=6)=False:=eq_false Kc
 have b6:(K==6)=false:=by simp [e6]
 have e7:(K=7)=False:=eq_false Kc
 have b7:(K==7)=false:=by simp [e7]
 have e8:(K=8)=False:=eq_false Kc
 have b8:(K==8)=false:=by simp [e8]
 clear h hK
 exact Z124
end
end
section
def Y216(h:p:=by exact (show ∀n,n<=300001->n*iV.bytes<=140737488355328 from λn hn=>NM (Nat.mul_le_mul hn hbV) Ke)):p:=h
def Z15(h:p:=by
 try simp only [Act.put,List.getElem_toArray,List.getElem_cons_zero,List.getElem_cons_succ,List.setIfInBounds_toArray,List.set_cons_zero,List.set_cons_succ]
 apply rd 8
 intro K hK
 refine dO _ Kl _ _ 31 31 Kl Ke iS zS iS.bytes underlying31 hiS hzS hsS rfl hz1 Kl (show Row (w1.alloc (.cells #[.string S] 9)).drew 1 (.slice xa n xc) n (bs.map Value.string) from (hR.alloc (.cells #[.string S] 9)).carry λ_ _=>rfl) _ 1 _ Kl (dm _ underlying31 w1.heap.size _ hc1 rfl) Ki (hbyte _ Kc) ?_
 intro v8 w8 hrow8 hg8
 have HG8:=bf hg8
 have HR8:=bf hrow8
 obtain ⟨g8,c8,rfl,hgl,-⟩:=Y154
 have hA8:Add w1 (w1.alloc (.cells #[.string S] 9)).drew:=(ae w1 (.cells #[.string S] 9)).trans (af _)
 have HA8:=bf hA8
 have hz8:=hA8.size
 have e4:=hg8.cell (NK (NW _ _ o4) hz8) hbb (hA8.cell o4)
 have ek:=hg8.cell (NK (NW _ _ kc) hz8) hnb' (hA8.cell kc)
 have fk:w8.frozen? ⟨kb,13,none⟩=false:=(hg8.frozen (NK (NW _ _ kc) hz8) hnb').trans ((hA8.frozen (NW _ _ kc)).trans kz)
 have hS:∀ {b o:Nat} {y:Value} (_:b≠kb),w8.cell? ⟨b,o,none⟩=some y->(w8.setCell ⟨kb,13,none⟩ (.slice (some ⟨g8,0,none⟩) (n+1) c8)).cell? ⟨b,o,none⟩=some y:=λhb hy=>(NY (a:=⟨_,_,none⟩) (NZ _ _ _ _ MO)).trans hy
 clear hrow8 hg8 hgl hA8
 refine hK.out _ _ e4 (λhH=>?_)
 clear hK K
 try simp only [Act.put,List.getElem_toArray,List.getElem_cons_zero,List.getElem_cons_succ,List.setIfInBounds_toArray,List.set_cons_zero,List.set_cons_succ]
 apply tk 9
 apply tk 10
 apply rd 11
 intro K hK
 go_simp
 refine hK.out _ _ (hS hne e4) (λhH=>?_)
 clear hK K
 refine wpAnyH_done Kf ?_ _
 go_wp2
 go_end0
 have hn8:=HG8.out.newb (NK (NW _ _ kc) HA8.out.size) hnb'
 have hn:=HN.out
 subst hn
 exact ⟨rfl,_,_,_,_,_,⟨_,_,_,_,_,H1.out.bytes (Kgrew.of H1.out.lt hnb0 (H1.out.there 13 Ke).1 HA8.out HG8.out) (HR8.out.carry λi hi=>NZ _ _ _ _ KQ) HO.out⟩,Nat.le_succ _,by rw [List.length_append];exact NL _⟩):p:=h
theorem gO{W:World}{B:Nat}{v0 v1 v2 v3 v4:Value}{T:TypeId}(h:W.heap[B]?=some (.cells #[v0,v1,v2,v3,v4] T (0,0))):
  W.cell? ⟨B,0,none⟩=some v0/\W.cell? ⟨B,1,none⟩=some v1/\W.cell? ⟨B,2,none⟩=some v2/\W.cell? ⟨B,3,none⟩=some v3/\W.cell? ⟨B,4,none⟩=some v4/\∀k,W.frozen? ⟨B,k,none⟩=false:=by
 refine ⟨?_,?_,?_,?_,?_,λk=>by unfold World.frozen?;rw [h];simp⟩
 all_goals (unfold World.cell?;rw [h];rfl)
theorem CP(w:World)(x:Value){T:TypeId} : (w.alloc (.cells #[x] T)).drew.cell? ⟨w.heap.size,0,none⟩=some x:=by
 show (w.alloc (.cells #[x] T)).cell? ⟨w.heap.size,0,none⟩=some x
 unfold World.cell?
 rw [dD]
 rfl
theorem dm{P:Program}(w:World){tx e':TypeId}(hk:P.underlying tx=some (.slice e'))(g:Nat)(x:Value)(hc:w.cell? ⟨g,0,none⟩=some x)(h1:x.oneCell'=true):Src P 1 tx (.slice (some ⟨g,0,none⟩) 1 1) 1 [x] w:=by
 refine Src.ofSlice _ hk _ 1 1 [x] rfl (λj u hu=>?_) (λu hu=>by rw [List.mem_singleton.1 hu];exact h1)
 have hj:j<1:=(Oi hu).1
 obtain rfl:j=0:=Kc
 rw [Addr.add_lit,NV,hc]
 exact hu
theorem Tryz.infoA:(prog.info? 72).map (λi=>(i.zero.map (λz=>z.cells.size),i.size))=some (some 7,7):=Kf
theorem Tryz.infoAb:(prog.info? 72).map (λi=>decide (i.bytes<=1000))=some true:=Kf
theorem Tryz.infoA7:∃i z,prog.info? 72=some i/\i.zero=some z/\i.size=7/\z.cells.size=7/\i.bytes<=1000:=by
 obtain ⟨i,h1,h2⟩:=Option.map_eq_some_iff.1 Tryz.infoA
 obtain ⟨i',h1',h3⟩:=Option.map_eq_some_iff.1 Tryz.infoAb
 exact Z91
theorem tM(w:World)(g:Nat)(hg:g=w.heap.size)(v0 v1 v2 v3 v4 v5 v6:Value){T:TypeId} : ∀f,f<7->(w.alloc (.cells #[v0,v1,v2,v3,v4,v5,v6] T)).cell? ⟨g,f,none⟩=[v0,v1,v2,v3,v4,v5,v6][f]?:=by
 intro f hf
 subst hg
 have h:=dD w (.cells #[v0,v1,v2,v3,v4,v5,v6] T (0,0))
 unfold World.cell?
 rw [h]
 have hf':f=0\/f=1\/f=2\/f=3\/f=4\/f=5\/f=6:=Kc
 rcases hf' with rfl|rfl|rfl|rfl|rfl|rfl|rfl <;> rfl
theorem dx{P:Program}(w:World){tx e':TypeId}(hk:P.underlying tx=some (.slice e'))(g:Nat)(v0 v1 v2 v3 v4 v5 v6:Value)(hc:∀f,f<7->w.cell? ⟨g,f,none⟩=[v0,v1,v2,v3,v4,v5,v6][f]?)(h1:∀u∈[v0,v1,v2,v3,v4,v5,v6],u.oneCell'=true):Src P 7 tx (.slice (some ⟨g,0,none⟩) 1 1) 1 [v0,v1,v2,v3,v4,v5,v6] w:=by
 refine Src.ofSlice _ hk _ 1 1 [v0,v1,v2,v3,v4,v5,v6] rfl (λj u hu=>?_) h1
 have hj:j<7:=(Oi hu).1
 exact Z207
theorem one7:∀u∈[Value.bool true,.int .i64 0,.int .i64 0,.int .u64 0,.string ⟨#[]⟩,.slice none 0 0,.slice none 0 0],u.oneCell'=true:=by
 intro u hu
 rcases List.mem_cons.1 hu with rfl|hu
 ·rfl
 exact yK u hu
section
variable {W0 w:World} {kb:Nat} {vd va vb:Value} {text:ByteArray} {ds:List Dat} {cells:List Value} {na:Nat} {ac:List Value} {bs:List ByteArray} {left A B C:Int} {S:ByteArray}
theorem kstep8(h:KwV W0 w kb vd va vb text ds cells na ac bs left)(hO:OpB A B C S)(hb:bs.length<=300000):
  Calls prog 15 #[.pointer (some ⟨kb,0,none⟩),.agg #[.int .i64 8,.int .i64 A,.int .i64 B,.int .i64 C,.string S]] w λe w'=>qG W0 kb na bs.length e w':=by
 have hal:=ae w (.cells #[.int .i64 8,.int .i64 A,.int .i64 B,.int .i64 C,.string S] 52 (0,0))
 have h1:=h.more hal
 obtain ⟨o0,o1,o2,o3,o4,-⟩:=gO (dD w (.cells #[.int .i64 8,.int .i64 A,.int .i64 B,.int .i64 C,.string S] 52 (0,0)))
 have hne:=Y214
 have hown:∀v,(v=vd\/v=va\/v=vb)->blk v≠some w.heap.size:=by
  exact Z112
 have kc:=h1.c13
 have kz:=(h1.there 13 Ke).2
 have hnb0:blk vb≠some kb:=λe=>(h.own kb (.inr (.inr e))).2 rfl
 have hbb0:blk vb≠some w.heap.size:=hown _ (.inr (.inr rfl))
 obtain ⟨xa,xc,rfl⟩:=h1.rb.shape
 have hR:=h1.rb
 obtain ⟨n,hn⟩:∃n,bs.length=n:=⟨_,rfl⟩
 rw [hn] at hR kc
 have hnb':blk (.slice xa n xc)≠some kb:=by rw [<-hn];exact hnb0
 have hbb:blk (.slice xa n xc)≠some w.heap.size:=by rw [<-hn];exact hbb0
 have hnn:n<=300000:=Kc
 have HN:=bf hn
 obtain ⟨iS,zS,hiS,hzS,hsS,hz1,hbS⟩:=Tryz.infoS1
 have hbyte:∀n,n<=300001->n*iS.bytes<=140737488355328:=λn hn=>NM (Nat.mul_le_mul hn hbS) Ke
 clear hbS
 have H1:=bf h1
 have HO:=bf hO.s
 clear h h1 hO hown hal hn hb
 go_enter func15,ntmps15
 go_upto_region 27 with fail
 generalize hW1:w.alloc (.cells #[.int .i64 8,.int .i64 A,.int .i64 B,.int .i64 C,.string S] 52 (0,0))=w1 at *
 have hc1:(w1.alloc (.cells #[.string S] 9)).drew.cell? ⟨w1.heap.size,0,none⟩=some (.string S):=CP w1 _
 refine wp_region_held_drew (S:=(λw'=>w'.cell? ⟨w.heap.size,4,none⟩=some (.string S))) Kf ?_ (λhH=>?_)
 ·exact o4
 apply tk 0
 apply tk 1
 apply tk 2
 apply tk 3
 apply tk 5
 apply tk 6
 refine wpAnyH_ready (rs:=[4,7]) Kf Kh ?_
 refine AllReadyH.cons rfl (λK hK=>?_) (AllReadyH.cons rfl (λK hK=>?_) AllReadyH.nil)
 ·have lk:w1.drew.cell? ⟨kb,13,none⟩=some (.slice xa n xc):=kc
  go_simp
  refine hK.out _ _ o4 (λhH=>?_)
  clear hK K lk
  try simp only [Act.put,List.getElem_toArray,List.getElem_cons_zero,List.getElem_cons_succ,List.setIfInBounds_toArray,List.set_cons_zero,List.set_cons_succ]
  apply rd 7
  intro K hK
  go_simp
  refine hK.out _ _ ((ae w1 _).cell o4) (λhH=>?_)
  clear hK K
  exact Z15
 go_simp
 refine hK.out _ _ ((ae w1 _).cell o4) (λhH=>?_)
 clear hK K
 try simp only [Act.put,List.getElem_toArray,List.getElem_cons_zero,List.getElem_cons_succ,List.setIfInBounds_toArray,List.set_cons_zero,List.set_cons_succ]
 apply rd 4
 intro K hK
 have lk:(w1.alloc (.cells #[.string S] 9)).cell? ⟨kb,13,none⟩=some (.slice xa n xc):=(ae w1 _).cell kc
 go_simp
 refine hK.out _ _ ((ae w1 _).cell o4) (λhH=>?_)
 clear hK K lk
 exact Z15
theorem kstep6(h:KwV W0 w kb vd va vb text ds cells na ac bs left)(hO:OpB A B C S):
  Calls prog 15 #[.pointer (some ⟨kb,0,none⟩),.agg #[.int .i64 6,.int .i64 A,.int .i64 B,.int .i64 C,.string S]] w λe w'=>qG W0 kb na bs.length e w':=by
 have hal:=ae w (.cells #[.int .i64 6,.int .i64 A,.int .i64 B,.int .i64 C,.string S] 52 (0,0))
 have h1:=h.more hal
 obtain ⟨o0,o1,o2,o3,o4,-⟩:=gO (dD w (.cells #[.int .i64 6,.int .i64 A,.int .i64 B,.int .i64 C,.string S] 52 (0,0)))
 have hne:=Y214
 have hown:∀v,(v=vd\/v=va\/v=vb)->blk v≠some w.heap.size:=by
  exact Z112
 have hpk:=λW=>Bh A 8 W hO.a.1 hO.a.2 Ke Ke
 obtain ⟨k,hk,hk8⟩:∃k:Nat,(if A<0 then -(A+1) else A) % 8=(k:Int)/\k<8:=⟨((if A<0 then -(A+1) else A) % 8).toNat,by omega,by omega⟩
 rw [hk] at hpk
 obtain ⟨y,kc⟩:=Option.isSome_iff_exists.1 (h1.there (4+k) Kc).1
 have kz:=(h1.there (4+k) Kc).2
 have H2:=bf ((h1.more (af _)).num (o:=4+k) Kc Kc (.int .i64 B))
 have i0:(0:Int)<=(k:Int):=Kc
 have i1:(k:Int)<8:=Kc
 clear h h1 hO hown hal hk
 go_enter func15,ntmps15
 go_upto_region 23 with fail
 generalize hW1:w.alloc (.cells #[.int .i64 6,.int .i64 A,.int .i64 B,.int .i64 C,.string S] 52 (0,0))=w1 at *
 have hS:∀ {b o:Nat} {y:Value} (_:b≠kb),w1.cell? ⟨b,o,none⟩=some y->(w1.drew.setCell ⟨kb,4+k,none⟩ (.int .i64 B)).cell? ⟨b,o,none⟩=some y:=λhb hy=>(NY (a:=⟨_,_,none⟩) (NZ _ _ _ _ MO)).trans hy
 have s1:=hS hne o1
 have s2:=hS hne o2
 clear hS hW1 o0 o3 o4
 refine wp_region_held_drew (S:=(λw'=>w'.cell? ⟨w.heap.size,1,none⟩=some (.int .i64 A)/\w'.cell? ⟨w.heap.size,2,none⟩=some (.int .i64 B))) Kf ?_ (λhH=>?_)
 ·exact ⟨o1,o2⟩
 apply tk 0
 apply tk 1
 apply tk 2
 apply tk 4
 apply tk 5
 apply tk 6
 apply tk 7
 apply rd 3
 intro K hK
 go_simp
 go_wp2_with (go_at_call 26;refine (hpk _).mono ?_;rintro e w2 ⟨rfl,rfl⟩)
 refine hK.out _ _ ⟨o1,o2⟩ (λhH=>?_)
 clear hK K
 try simp only [Act.put,List.getElem_toArray,List.getElem_cons_zero,List.getElem_cons_succ,List.setIfInBounds_toArray,List.set_cons_zero,List.set_cons_succ]
 apply tk 8
 apply rd 9
 intro K hK
 go_simp
 refine hK.out _ _ ⟨s1,s2⟩ (λhH=>?_)
 clear hK K
 refine wpAnyH_done Kf ?_ _
 exact Z261
theorem kstep2(h:KwV W0 w kb vd va vb text ds cells na ac bs left)(hO:OpB A B C S)(hl:0<=left):
  Calls prog 15 #[.pointer (some ⟨kb,0,none⟩),.agg #[.int .i64 2,.int .i64 A,.int .i64 B,.int .i64 C,.string S]] w λe w'=>qG W0 kb na bs.length e w':=by
 have hal:=ae w (.cells #[.int .i64 2,.int .i64 A,.int .i64 B,.int .i64 C,.string S] 52 (0,0))
 have h1:=h.more hal
 obtain ⟨o0,o1,o2,o3,o4,-⟩:=gO (dD w (.cells #[.int .i64 2,.int .i64 A,.int .i64 B,.int .i64 C,.string S] 52 (0,0)))
 have hne:=Y214
 have hown:∀v,(v=vd\/v=va\/v=vb)->blk v≠some w.heap.size:=by
  exact Z112
 obtain ⟨bits,hbits,hb64⟩:∃n:Nat,C % 18446744073709551616=(n:Int)/\n<18446744073709551616:=⟨(C % 18446744073709551616).toNat,by omega,by omega⟩
 have hd:(Dat.mk A B bits S [] []).liesO (lN kb vd va vb) (w.alloc (.cells #[.int .i64 2,.int .i64 A,.int .i64 B,.int .i64 C,.string S] 52 (0,0))) [.int .i64 A,.int .i64 B,.int .u64 (bits:Int),.string S,.slice none 0 0,.slice none 0 0]:=by
  rw [Dat.liesO]
  exact ⟨none,0,none,0,rfl,hO.a,hO.b,hb64,.inl rfl,by rw [aJ];trivial⟩
 have hz:(Dat.mk A B bits S [] []).sz<=1000000:=by rw [Dat.sz,eH,aY];have:=hO.s;omega
 have had:=yC h1 hd hl hz
 have hu:IntKind.u64.wrap C=(bits:Int):=hbits
 clear h h1 hO hown hal hd hz hbits
 go_enter func15,ntmps15
 go_wp2_with (go_at_call 24;refine had.mono ?_;rintro e w2 ⟨rfl,hk2⟩)
 go_end0
 exact ⟨rfl,_,_,_,_,_,hk2,Nat.le_succ _,Nat.le_succ _⟩
theorem kstep5(h:KwV W0 w kb vd va vb text ds cells na ac bs left)(hna:na<=300000):
  Calls prog 15 #[.pointer (some ⟨kb,0,none⟩),.agg #[.int .i64 5,.int .i64 A,.int .i64 B,.int .i64 C,.string S]] w λe w'=>qG W0 kb na bs.length e w':=by
 have hal:=ae w (.cells #[.int .i64 5,.int .i64 A,.int .i64 B,.int .i64 C,.string S] 52 (0,0))
 have h1:=h.more hal
 obtain ⟨o0,o1,o2,o3,o4,-⟩:=gO (dD w (.cells #[.int .i64 5,.int .i64 A,.int .i64 B,.int .i64 C,.string S] 52 (0,0)))
 have hne:=Y214
 have hown:∀v,(v=vd\/v=va\/v=vb)->blk v≠some w.heap.size:=by
  exact Z112
 have kc:=h1.c3
 have kz:=(h1.there 3 Ke).2
 have hnb0:blk va≠some kb:=λe=>(h.own kb (.inr (.inl e))).2 rfl
 have hbb0:blk va≠some w.heap.size:=hown _ (.inr (.inl rfl))
 obtain ⟨xa,xc,rfl⟩:=h1.ra.shape
 have hR:=h1.ra
 obtain ⟨iV,zV,hiV,hzV,hsV,hz7,hbV⟩:=Tryz.infoA7
 have hbyte:=Y216
 clear hbV
 have H1:=bf h1
 clear h h1 hown hal
 go_enter func15,ntmps15
 go_wp2_with (at_builtin;refine dH _ rfl _ _ 29 29 rfl Ke iV zV iV.bytes underlying29 hiV hzV hsV rfl hz7 rfl (hR.alloc _) _ 1 _ rfl (dx _ underlying29 _ _ _ _ _ _ _ _ (tM _ _ (dE _ _).symm _ _ _ _ _ _ _) one7) Ki (hbyte _ Kc) ?_;intro v8 w8 hrow8 hg8;have HG8:=bf hg8;have HR8:=bf hrow8;obtain ⟨g8,c8,rfl,hgl,-⟩:=hrow8.at_pos Kc;have hA8:=ae (w.alloc (.cells #[.int .i64 5,.int .i64 A,.int .i64 B,.int .i64 C,.string S] 52 (0,0))) (.cells #[.bool true,.int .i64 0,.int .i64 0,.int .u64 0,.string ⟨#[]⟩,.slice none 0 0,.slice none 0 0] 72);have hz8:=hA8.size;have ek:=hg8.cell (NK (NW _ _ kc) hz8) hnb0 (hA8.cell kc);have fk:w8.frozen? ⟨kb,3,none⟩=false:=(hg8.frozen (NK (NW _ _ kc) hz8) hnb0).trans ((hA8.frozen (NW _ _ kc)).trans kz);have HA8:=bf hA8;clear hrow8 hg8 hA8)
 go_end0
 have hn8:=HG8.out.newb (NK (NW _ _ kc) HA8.out.size) hnb0
 exact ⟨rfl,_,_,_,_,_,⟨_,_,_,_,_,H1.out.acts (Kgrew.of H1.out.lt hnb0 (H1.out.there 3 Ke).1 HA8.out HG8.out) (HR8.out.carry λi hi=>NZ _ _ _ _ KQ)⟩,NL _,Nat.le_succ _⟩
end
end
end Go.Proofs.YtmphmjkinmkidaaGreatDoor
