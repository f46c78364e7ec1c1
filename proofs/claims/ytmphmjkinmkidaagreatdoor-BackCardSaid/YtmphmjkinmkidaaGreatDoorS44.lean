import Derived.Test.YtmphmjkinmkidaaGreatDoorS43
set_option linter.defProp false
open Go.Proofs.Tryz
set_option maxRecDepth 8000
set_option maxHeartbeats 4000000
open Go Go.RowKit Go.Extern.Stop Go.Stop Go.Extern
namespace Go.Proofs.YtmphmjkinmkidaaGreatDoor
variable{p:Prop}
section
def Z11(h:p:=by
 try simp only [Act.put,List.getElem_toArray,List.getElem_cons_zero,List.getElem_cons_succ,List.setIfInBounds_toArray,List.set_cons_zero,List.set_cons_succ]
 apply rd 8
 intro K hK
 refine dO _ Kl _ _ 29 29 Kl Ke iV zV iV.bytes underlying29 hiV hzV hsV rfl hz7 Kl (show Row (w3.alloc (.cells #[.bool false,.int .i64 dk,.int .i64 dn,.int .u64 (db:Int),.string dt,.slice dna dnl dnc,.slice dka dkl dkc] 72)).drew 7 (.slice xa na xc) na ac from (hR.alloc (.cells #[.bool false,.int .i64 dk,.int .i64 dn,.int .u64 (db:Int),.string dt,.slice dna dnl dnc,.slice dka dkl dkc] 72)).carry λ_ _=>rfl) _ 1 _ Kl (dx _ underlying29 w3.heap.size _ _ _ _ _ _ _ hc7 (one7' dk dn db dt dna dka dnl dnc dkl dkc)) Ki (hbyte _ Kc) ?_
 intro v8 w8 hrow8 hg8
 have HG8:=bf hg8
 have HR8:=bf hrow8
 obtain ⟨g8,c8,rfl,hgl,-⟩:=Y154
 have hA8:Add w3 (w3.alloc (.cells #[.bool false,.int .i64 dk,.int .i64 dn,.int .u64 (db:Int),.string dt,.slice dna dnl dnc,.slice dka dkl dkc] 72)).drew:=(ae w3 (.cells #[.bool false,.int .i64 dk,.int .i64 dn,.int .u64 (db:Int),.string dt,.slice dna dnl dnc,.slice dka dkl dkc] 72)).trans (af _)
 have HA8:=bf hA8
 have hz8:=hA8.size
 have e0:=hg8.cell (NK (NW _ _ q0) hz8) hbb0 (hA8.cell q0)
 have e1:=hg8.cell (NK (NW _ _ q1) hz8) hbb0 (hA8.cell q1)
 have e2:=hg8.cell (NK (NW _ _ q2) hz8) hbb0 (hA8.cell q2)
 have e3:=hg8.cell (NK (NW _ _ q3) hz8) hbb0 (hA8.cell q3)
 have e4:=hg8.cell (NK (NW _ _ q4) hz8) hbb0 (hA8.cell q4)
 have e5:=hg8.cell (NK (NW _ _ q5) hz8) hbb0 (hA8.cell q5)
 have ek:=hg8.cell (NK (NW _ _ k3) hz8) hnb0 (hA8.cell k3)
 have fk:w8.frozen? ⟨kb,3,none⟩=false:=(hg8.frozen (NK (NW _ _ k3) hz8) hnb0).trans ((hA8.frozen (NW _ _ k3)).trans kz)
 have hS:∀ {b o:Nat} {y:Value} (_:b≠kb),w8.cell? ⟨b,o,none⟩=some y->(w8.setCell ⟨kb,3,none⟩ (.slice (some ⟨g8,0,none⟩) (na+1) c8)).cell? ⟨b,o,none⟩=some y:=λhb hy=>(NY (a:=⟨_,_,none⟩) (NZ _ _ _ _ MO)).trans hy
 clear hrow8 hg8 hgl hA8
 refine hK.out _ _ ⟨e0,e1,e2,e3,e4,e5⟩ (λhH=>?_)
 clear hK K
 try simp only [Act.put,List.getElem_toArray,List.getElem_cons_zero,List.getElem_cons_succ,List.setIfInBounds_toArray,List.set_cons_zero,List.set_cons_succ]
 apply tk 9
 apply tk 10
 apply rd 11
 intro K hK
 go_simp
 refine hK.out _ _ ⟨hS hkn e0,hS hkn e1,hS hkn e2,hS hkn e3,hS hkn e4,hS hkn e5⟩ (λhH=>?_)
 clear hK K
 refine wpAnyH_done Kf ?_ _
 go_wp2
 go_end0
 have hn8:=HG8.out.newb (NK (NW _ _ k3) HA8.out.size) hnb0
 exact ⟨rfl,_,_,_,_,_,⟨_,_,_,_,_,H3.out.acts (Kgrew.of H3.out.lt hnb0 (H3.out.there 3 Ke).1 HA8.out HG8.out) (HR8.out.carry λi hi=>NZ _ _ _ _ KQ)⟩,NL _,Nat.le_succ _⟩):p:=h
theorem au{ok:Nat->Prop}{w:World} : ∀(l:List Dat) (cs:List Value),ai ok w l cs->∀j (h:j<l.length),∃c6,c6.length=6/\l[j].liesO ok w c6/\∀f,f<6->cs[j*6+f]?=c6[f]?
 |[],_,_,j,h=>absurd h (Nat.not_lt_zero _)
 |d::r,cs,h,0,_=>by
  obtain ⟨c,rest,rfl,hc,hd,-⟩:=h
  exact ⟨c,hc,hd,λf hf=>by rw [List.getElem?_append_left Kc];congr 1;omega⟩
 |d::r,cs,h,j+1,hj=>by
  obtain ⟨c,rest,rfl,hc,-,hr⟩:=h
  obtain ⟨c6,h1,h2,h3⟩:=au r rest hr j La
  refine ⟨c6,h1,h2,λf hf=>?_⟩
  rw [List.getElem?_append_right Kc,<-h3 f hf]
  congr 1
  omega
theorem HY{x:Int}(h0 : -9223372036854775808<=x)(h1:x<=9223372036854775807):IntKind.i64.wrap x=x:=by
 rw [IntKind.wrap_i64];omega
theorem FE(ds:List Dat)(j:Nat)(h:j<ds.length):ds[j].sz<=aY ds:=by
 have:=BA ds (j+1)
 rw [wN ds j h] at this
 omega
theorem one7'(k n:Int)(b:Nat)(t:ByteArray)(na ka:Option Addr)(nl nc kl kc:Nat):∀u∈Value.bool false::dcs k n b t na ka nl nc kl kc,u.oneCell'=true:=by
 intro u hu
 rcases List.mem_cons.1 hu with rfl|hu
 ·rfl
 exact Cc k n b t na ka nl nc kl kc u hu
section
variable {W0 w:World} {kb:Nat} {vd va vb:Value} {text:ByteArray} {ds:List Dat} {cells:List Value} {na:Nat} {ac:List Value} {bs:List ByteArray} {left A B C:Int} {S:ByteArray}
theorem kstep4(h:KwV W0 w kb vd va vb text ds cells na ac bs left)(hl:0<=left)(hna:na<=300000):
  Calls prog 15 #[.pointer (some ⟨kb,0,none⟩),.agg #[.int .i64 4,.int .i64 A,.int .i64 B,.int .i64 C,.string S]] w λe w'=>qG W0 kb na bs.length e w':=by
 have hal:=ae w (.cells #[.int .i64 4,.int .i64 A,.int .i64 B,.int .i64 C,.string S] 52 (0,0))
 have h1:=h.more hal
 obtain ⟨o0,o1,o2,o3,o4,-⟩:=gO (dD w (.cells #[.int .i64 4,.int .i64 A,.int .i64 B,.int .i64 C,.string S] 52 (0,0)))
 have hne:=Y214
 have hown:∀v,(v=vd\/v=va\/v=vb)->blk v≠some w.heap.size:=by
  exact Z112
 have kc:=h1.c2
 by_cases hn:ds.length=0
 ·obtain ⟨xa,xc,rfl⟩:=h1.rd.shape
  rw [hn] at kc
  have H1:=bf h1
  clear h h1 hown hal hn hne o1 o2 o3 o4
  go_enter func15,ntmps15
  go_wp2
  go_end0
  exact ⟨rfl,_,_,_,_,_,⟨_,_,_,_,_,H1.out⟩,Nat.le_succ _,Nat.le_succ _⟩
 obtain ⟨n,hn⟩:∃n,ds.length=n+1:=⟨ds.length-1,by omega⟩
 obtain ⟨c6,h6,hd,hc6⟩:=au _ _ h1.lie n Kc
 have hdz:=FE ds n Kc
 have hsz:=h1.sz
 obtain ⟨dk,dn,db,dt,dna,dka,dnl,dnc,dkl,dkc,rfl⟩:=aO hd
 unfold dcs at hd hc6
 obtain ⟨g,c,rfl,-,-⟩:=h1.rd.at_pos Kc
 have hrow:∀f,f<6->(w.alloc (.cells #[.int .i64 4,.int .i64 A,.int .i64 B,.int .i64 C,.string S] 52 (0,0))).cell? ⟨g,n*6+f,none⟩=[.int .i64 dk,.int .i64 dn,.int .u64 (db:Int),.string dt,.slice dna dnl dnc,.slice dka dkl dkc][f]?:=λf hf=>by
  rcases h1.rd with ⟨e,-⟩|⟨g',c',e,hr⟩
  ·cases e
  obtain ⟨rfl,-⟩:g=g'/\c=c':=NA
  rw [<-hc6 f hf]
  exact hr.holds _ Kc
 have r0:(w.alloc (.cells #[.int .i64 4,.int .i64 A,.int .i64 B,.int .i64 C,.string S] 52 (0,0))).cell? ⟨g,n*6,none⟩=some (.int .i64 dk):=hrow 0 Kc
 have r1:(w.alloc (.cells #[.int .i64 4,.int .i64 A,.int .i64 B,.int .i64 C,.string S] 52 (0,0))).cell? ⟨g,n*6+1,none⟩=some (.int .i64 dn):=hrow 1 Kc
 have r2:(w.alloc (.cells #[.int .i64 4,.int .i64 A,.int .i64 B,.int .i64 C,.string S] 52 (0,0))).cell? ⟨g,n*6+2,none⟩=some (.int .u64 (db:Int)):=hrow 2 Kc
 have r3:(w.alloc (.cells #[.int .i64 4,.int .i64 A,.int .i64 B,.int .i64 C,.string S] 52 (0,0))).cell? ⟨g,n*6+3,none⟩=some (.string dt):=hrow 3 Kc
 have r4:(w.alloc (.cells #[.int .i64 4,.int .i64 A,.int .i64 B,.int .i64 C,.string S] 52 (0,0))).cell? ⟨g,n*6+4,none⟩=some (.slice dna dnl dnc):=hrow 4 Kc
 have r5:(w.alloc (.cells #[.int .i64 4,.int .i64 A,.int .i64 B,.int .i64 C,.string S] 52 (0,0))).cell? ⟨g,n*6+5,none⟩=some (.slice dka dkl dkc):=hrow 5 Kc
 have hnn:n<=262144:=by have:=ll ds;omega
 have i0:((n:Int)+1-1)=n:=Kc
 have i1:wrap64 ((n:Int)+1-1)=n:=Kn
 have i5:IntKind.i64.wrap (n:Int)=n:=HY Kc Kc
 have i6:((n:Int)<(n:Int)+1)=True:=eq_true Kc
 have i2:(0:Int)<=(n:Int):=Kc
 have i3:(n:Int)<((n+1:Nat):Int):=Kc
 have i4:((0:Int)<((n+1:Nat):Int))=True:=eq_true Kc
 rw [hn] at kc
 generalize hdj:ds[n]=d at hd hdz
 have HD:=bf hd
 have HN:=bf hn
 have H1:=bf h1
 have HZ:Hid (d.sz<=aY ds/\left+aY ds<=262144):=⟨hdz,hsz⟩
 have HOWN:=bf hown
 clear h h1 hown hal hn hrow hc6 hd hdz hsz hdj
 go_enter func15,ntmps15
 go_upto_region 16 with fail
 generalize hW1:w.alloc (.cells #[.int .i64 4,.int .i64 A,.int .i64 B,.int .i64 C,.string S] 52 (0,0))=w1 at *
 clear hW1 o0 o1 o2 o3 o4
 refine wp_region_held_drew (S:=(λw'=>w'.cell? ⟨kb,2,none⟩=some (.slice (some ⟨g,0,none⟩) (n+1) c)/\w'.cell? ⟨g,n*6,none⟩=some (.int .i64 dk)/\w'.cell? ⟨g,n*6+1,none⟩=some (.int .i64 dn)/\w'.cell? ⟨g,n*6+2,none⟩=some (.int .u64 (db:Int))/\w'.cell? ⟨g,n*6+3,none⟩=some (.string dt)/\w'.cell? ⟨g,n*6+4,none⟩=some (.slice dna dnl dnc)/\w'.cell? ⟨g,n*6+5,none⟩=some (.slice dka dkl dkc))) Kf ?_ (λhH=>?_)
 ·exact ⟨kc,r0,r1,r2,r3,r4,r5⟩
 apply tk 0
 apply tk 1
 apply tk 2
 apply tk 3
 apply tk 4
 apply tk 5
 apply tk 6
 apply tk 7
 apply tk 8
 apply tk 9
 apply tk 10
 apply tk 11
 apply rd 12
 intro K hK
 go_simp
 refine hK.out _ _ ⟨(ae w1 _).cell kc,(ae w1 _).cell r0,(ae w1 _).cell r1,(ae w1 _).cell r2,(ae w1 _).cell r3,(ae w1 _).cell r4,(ae w1 _).cell r5⟩ (λhH=>?_)
 clear hK K
 apply rd 13
 intro K hK
 go_simp
 refine hK.out _ _ ⟨(ae w1 _).cell kc,(ae w1 _).cell r0,(ae w1 _).cell r1,(ae w1 _).cell r2,(ae w1 _).cell r3,(ae w1 _).cell r4,(ae w1 _).cell r5⟩ (λhH=>?_)
 clear hK K hH r0 r1 r2 r3 r4 r5 i0 i1 i2 i3 i4 i5 i6
 refine wpAnyH_done Kf ?_ _
 have hA2:Add w1 (w1.alloc (.cells #[.int .i64 dk,.int .i64 dn,.int .u64 (db:Int),.string dt,.slice dna dnl dnc,.slice dka dkl dkc] 42 (0,0))).drew:=(ae w1 _).trans (af _)
 have hb2:(w1.alloc (.cells #[.int .i64 dk,.int .i64 dn,.int .u64 (db:Int),.string dt,.slice dna dnl dnc,.slice dka dkl dkc] 42 (0,0))).drew.heap[w1.heap.size]?=some (.cells #[.int .i64 dk,.int .i64 dn,.int .u64 (db:Int),.string dt,.slice dna dnl dnc,.slice dka dkl dkc] 42 (0,0)):=dD w1 _
 generalize (w1.alloc (.cells #[.int .i64 dk,.int .i64 dn,.int .u64 (db:Int),.string dt,.slice dna dnl dnc,.slice dka dkl dkc] 42 (0,0))).drew=w2 at *
 have h2:=H1.out.more hA2
 have hd2:=aN ⟨hA2.size,λi _ hl=>hA2.old i hl⟩ _ _ HD.out
 obtain ⟨q0,q1,q2,q3,q4,q5,qz⟩:=dF hb2
 have hsz:=AB d.count d (NL _) w2 w1.heap.size 0 ⟨_,rfl,λf hf=>by
  have hf':=Y105
  rcases hf' with rfl|rfl|rfl|rfl|rfl|rfl
  ·exact q0
  ·exact q1
  ·exact q2
  ·exact q3
  ·exact q4
  exact q5,aR _ _ hd2⟩ Lt
 have hw:wrap64 (left-d.sz)=left-d.sz:=by unfold wrap64;have:=HZ.out;omega
 have k14:=h2.c14
 have kz14:=(h2.there 14 Ke).2
 have hkn:w1.heap.size≠kb:=NR H1.out.lt
 have h3:=h2.setLeft (l:=left-d.sz) Lt Lt
 have hb3:=(NZ w2 ⟨kb,14,none⟩ (.int .i64 (left-d.sz)) w1.heap.size hkn).trans hb2
 have H2:=bf h2
 have hs2:w2.heap.size ≥ w1.heap.size:=hA2.size
 clear h2 hd2 hA2 hb2 q0 q1 q2 q3 q4 q5 qz
 go_upto_region 19 with (go_at_call 27;refine hsz.mono ?_;rintro e w5 ⟨rfl,hw5⟩;obtain rfl:w2=w5:=hw5.symm;clear hw5)
 generalize w2.setCell ⟨kb,14,none⟩ (.int .i64 (left-d.sz))=w3 at *
 clear k14 kz14 hsz hw
 have k3:=h3.c3
 have kz:=(h3.there 3 Ke).2
 have hnb0:blk va≠some kb:=λe=>(h3.own kb (.inr (.inl e))).2 rfl
 have hbb0:blk va≠some w1.heap.size:=λe=>Nat.lt_irrefl _ (H1.out.ra.blk_lt e)
 obtain ⟨xa,xc,rfl⟩:=h3.ra.shape
 have hR:=h3.ra
 obtain ⟨q0,q1,q2,q3,q4,q5,qz⟩:=dF hb3
 have H3:=bf h3
 obtain ⟨iV,zV,hiV,hzV,hsV,hz7,hbV⟩:=Tryz.infoA7
 have hbyte:=Y216
 clear hbV
 clear h3 hb3 qz
 have hc7:∀f,f<7->(w3.alloc (.cells #[.bool false,.int .i64 dk,.int .i64 dn,.int .u64 (db:Int),.string dt,.slice dna dnl dnc,.slice dka dkl dkc] 72)).drew.cell? ⟨w3.heap.size,f,none⟩=[.bool false,.int .i64 dk,.int .i64 dn,.int .u64 (db:Int),.string dt,.slice dna dnl dnc,.slice dka dkl dkc][f]?:=tM w3 _ rfl _ _ _ _ _ _ _
 refine wp_region_held_drew (S:=(λw'=>w'.cell? ⟨w1.heap.size,0,none⟩=some (.int .i64 dk)/\w'.cell? ⟨w1.heap.size,1,none⟩=some (.int .i64 dn)/\w'.cell? ⟨w1.heap.size,2,none⟩=some (.int .u64 (db:Int))/\w'.cell? ⟨w1.heap.size,3,none⟩=some (.string dt)/\w'.cell? ⟨w1.heap.size,4,none⟩=some (.slice dna dnl dnc)/\w'.cell? ⟨w1.heap.size,5,none⟩=some (.slice dka dkl dkc))) Kf ?_ (λhH=>?_)
 ·exact ⟨q0,q1,q2,q3,q4,q5⟩
 apply tk 0
 apply tk 1
 apply tk 2
 apply tk 3
 apply tk 5
 apply tk 6
 refine wpAnyH_ready (rs:=[4,7]) Kf Kh ?_
 refine AllReadyH.cons rfl (λK hK=>?_) (AllReadyH.cons rfl (λK hK=>?_) AllReadyH.nil)
 ·have lk:w3.drew.cell? ⟨kb,3,none⟩=some (.slice xa na xc):=k3
  go_simp
  refine hK.out _ _ ⟨q0,q1,q2,q3,q4,q5⟩ (λhH=>?_)
  clear hK K lk
  try simp only [Act.put,List.getElem_toArray,List.getElem_cons_zero,List.getElem_cons_succ,List.setIfInBounds_toArray,List.set_cons_zero,List.set_cons_succ]
  apply rd 7
  intro K hK
  go_simp
  refine hK.out _ _ ⟨(ae w3 _).cell q0,(ae w3 _).cell q1,(ae w3 _).cell q2,(ae w3 _).cell q3,(ae w3 _).cell q4,(ae w3 _).cell q5⟩ (λhH=>?_)
  clear hK K
  exact Z11
 go_simp
 refine hK.out _ _ ⟨(ae w3 _).cell q0,(ae w3 _).cell q1,(ae w3 _).cell q2,(ae w3 _).cell q3,(ae w3 _).cell q4,(ae w3 _).cell q5⟩ (λhH=>?_)
 clear hK K
 try simp only [Act.put,List.getElem_toArray,List.getElem_cons_zero,List.getElem_cons_succ,List.setIfInBounds_toArray,List.set_cons_zero,List.set_cons_succ]
 apply rd 4
 intro K hK
 have lk:(w3.alloc (.cells #[.bool false,.int .i64 dk,.int .i64 dn,.int .u64 (db:Int),.string dt,.slice dna dnl dnc,.slice dka dkl dkc] 72)).cell? ⟨kb,3,none⟩=some (.slice xa na xc):=(ae w3 _).cell k3
 go_simp
 refine hK.out _ _ ⟨(ae w3 _).cell q0,(ae w3 _).cell q1,(ae w3 _).cell q2,(ae w3 _).cell q3,(ae w3 _).cell q4,(ae w3 _).cell q5⟩ (λhH=>?_)
 clear hK K lk
 exact Z11
end
end
section
theorem Row.take{w:World}{size N k c:Nat}{a:Option Addr}{cs:List Value}(h:Row w size (.slice a N c) N cs)(hk:k<=N):Row w size (.slice a k c) k (cs.take (k*size)):=by
 have hm:k*size<=N*size:=Nat.mul_le_mul_right _ hk
 rcases h with ⟨e,rfl,rfl⟩|⟨g,c',e,hr⟩
 ·obtain rfl:k=0:=Kc
  exact .inl ⟨e,rfl,by simp⟩
 cases e
 refine .inr ⟨g,_,rfl,hr.lt,NM hk hr.le,hr.max,?_,λj hj=>?_,hr.there⟩
 ·rw [List.length_take,hr.len];omega
 rw [hr.holds j Kc,List.getElem?_take,if_pos hj]
theorem ay{ok:Nat->Prop}{w:World} : ∀(l:List Dat) (cs:List Value) (k:Nat),ai ok w l cs->ai ok w (l.take k) (cs.take (k*6))/\ai ok w (l.drop k) (cs.drop (k*6))
 |l,cs,0,h=>⟨by simp [ai],by simpa using h⟩
 |[],cs,k+1,h=>by
  obtain rfl:cs=[]:=h
  exact ⟨by simp [ai],by simp [ai]⟩
 |d::r,cs,k+1,h=>by
  obtain ⟨c,rest,rfl,hc,hd,hr⟩:=h
  obtain ⟨i1,i2⟩:=ay r rest k hr
  have e:(k+1)*6=c.length+k*6:=Kc
  rw [e,List.take_length_add_append,List.drop_length_add_append,List.take_succ_cons,List.drop_succ_cons]
  exact ⟨⟨c,_,rfl,hc,hd,i1⟩,i2⟩
theorem oV(ds:List Dat)(k:Nat):aY (ds.take k)+aY (ds.drop k)=aY ds:=by
 induction ds generalizing k with
 |nil=>simp [aY]
 |cons d r ih=>
  cases k with
  |zero=>simp [aY]
  |succ k=>simp [aY];have:=ih k;omega
theorem Ae(a:Option Addr)(n m c d:Nat):blk (.slice a n c)=blk (.slice a m d):=by cases a <;> rfl
theorem KwV.trunc{W0 w:World}{kb:Nat}{va vb:Value}{xa:Option Addr}{xc k:Nat}{text:ByteArray}{ds:List Dat}{cells:List Value}{na:Nat}{ac:List Value}{bs:List ByteArray}{left:Int}(h:KwV W0 w kb (.slice xa ds.length xc) va vb text ds cells na ac bs left)(hk:k<=ds.length):
  KwV W0 (w.setCell ⟨kb,2,none⟩ (.slice xa k xc)) kb (.slice xa k xc) va vb text (ds.take k) (cells.take (k*6)) na ac bs left/\ai (lN kb (.slice xa k xc) va vb) (w.setCell ⟨kb,2,none⟩ (.slice xa k xc)) (ds.drop k) (cells.drop (k*6)):=by
 obtain ⟨k1,k2,k3⟩:=CG w kb 2 (.slice xa k xc)
 obtain ⟨b1,b2,b3,b4,b5⟩:=Y204
 have eb:=Ae xa k ds.length xc xc
 have hlk:(ds.take k).length=k:=by rw [List.length_take];omega
 have hs:=oV ds k
 have hok:lN kb (.slice xa ds.length xc) va vb=lN kb (.slice xa k xc) va vb:=by funext b;unfold lN;rw [eb]
 rw [hok] at b3
 obtain ⟨t1,t2⟩:=ay _ _ k b3
 exact ⟨⟨b1,h.ge,(k3 0 Ke).trans h.c0,(k3 1 Ke).trans h.c1,Cn (h.there 2 Ke).1,(k3 3 Ke).trans h.c3,(k3 13 Ke).trans h.c13,(k3 14 Ke).trans h.c14,zT h.there,by rw [hlk];exact b2.take hk,t1,b4,b5,λb hb=>h.own b (by rw [<-eb];exact hb),λb hb=>h.da b (eb ▸ hb),λb hb=>h.db b (eb ▸ hb),h.ab,by have:=h.sz;omega,h.lo,h.tz,h.bz⟩,t2⟩
end
section
def Y217(h:p:=by exact (hg8.cell (NW _ _ s2) Ml s2)):p:=h
def Y218(h:p:=by exact (hg8.cell (NW _ _ d5) Ml d5)):p:=h
def Y219(h:p:=by exact (show w8.frozen? ⟨w.heap.size+1,5,none⟩=false from (hg8.frozen (NW _ _ d5) Ml).trans dz5)):p:=h
def Y220(h:p:=by exact (show Add w5 w8 from ⟨HG8.out.os,HG8.out.output,HG8.out.size,λi hi=>HG8.out.old i hi Ml⟩)):p:=h
def Z64(h:p:=by
 obtain ⟨g0,g1,g2,g3,g4,g5,-⟩:=dF hb7
 clear hd7 hnm7 hka hr7 hr8 hkv h7 hdr hb7 hr6 hnm6 h8 hA6 hb6 h6 hw6 hw6'
 go_wp2_with (go_at_call 24;refine had.mono ?_;rintro e w9 ⟨rfl,hk9⟩)
 all_goals (go_end0;exact ⟨rfl,_,_,_,_,_,hk9,Nat.le_succ _,Nat.le_succ _⟩)):p:=h
def Z67(h:p:=by
 rcases hnm6 with e|⟨b,o,ha,hb,hlt,hc⟩
 ·exact .inl e
 exact .inr ⟨b,o,ha,hok b hb.1,by simpa using hlt,λi hi=>(NY (a:=⟨b,o+i,none⟩) (NZ _ _ _ _ (by show b≠kb;have:=HH.out.lt;omega))).trans (hc i hi)⟩):p:=h
def Z99(h:p:=by
 have h2:=HA5.out.trans h8
 exact ⟨h2.os,h2.output,by simpa using h2.size,λi hi=>(NZ _ _ _ _ (by show i≠w.heap.size+1;omega)).trans (h2.old i hi)⟩):p:=h
def Z140(h:p:=by
 rcases HG8.out.at' with e|⟨g',hg',e⟩
 ·rw [e] at hi;cases hi
 rw [e] at hi;cases hi;exact hg'):p:=h
def Z147(h:p:=by
 rw [Dat.liesO]
 exact ⟨ya,yc,a8,c8,by rw [hdl];rfl,HO.out.a,HO.out.b,by decide,hnm7,hka⟩):p:=h
theorem dC{ok:Nat->Prop}{w:World}{a:Option Addr}{c:Nat}{ns:List ByteArray}(h:Row w 1 (.slice a ns.length c) ns.length (ns.map Value.string))(hb:∀i,blk (.slice a ns.length c)=some i->ok i):iK ok w a ns:=by
 rcases h with ⟨-,h0,-⟩|⟨g,c',e,hr⟩
 ·exact .inl (NT h0)
 cases e
 refine .inr ⟨g,0,rfl,hb g rfl,hr.lt,λi hi=>?_⟩
 rw [NV,hr.holds i Kc,List.getElem?_map,NP hi]
 rfl
theorem EF{ok:Nat->Prop}{w:World} : ∀ {l:List Dat} {cs:List Value},ai ok w l cs->∀u∈cs,u.oneCell'=true
 |[],cs,h,u,hu=>by
  obtain rfl:cs=[]:=h
  cases hu
 |d::r,cs,h,u,hu=>by
  obtain ⟨c,rest,rfl,-,hd,hr⟩:=h
  rcases List.mem_append.1 hu with hu|hu
  ·obtain ⟨k,n,b,t,na,ka,nl,nc,kl,kc,rfl⟩:=aO hd
   exact Cc _ _ _ _ _ _ _ _ _ _ u hu
  exact EF hr u hu
section
variable {W0 w:World} {kb:Nat} {vd va vb:Value} {text:ByteArray} {ds:List Dat} {cells:List Value} {na:Nat} {ac:List Value} {bs:List ByteArray} {left A B C:Int} {S:ByteArray}
theorem kstep3(h:KwV W0 w kb vd va vb text ds cells na ac bs left)(hO:OpB A B C S)(hl:0<=left):
  Calls prog 15 #[.pointer (some ⟨kb,0,none⟩),.agg #[.int .i64 3,.int .i64 A,.int .i64 B,.int .i64 C,.string S]] w λe w'=>qG W0 kb na bs.length e w':=by
 have hal:=ae w (.cells #[.int .i64 3,.int .i64 A,.int .i64 B,.int .i64 C,.string S] 52 (0,0))
 have h1:=h.more hal
 obtain ⟨o0,o1,o2,o3,o4,-⟩:=gO (dD w (.cells #[.int .i64 3,.int .i64 A,.int .i64 B,.int .i64 C,.string S] 52 (0,0)))
 have hne:=Y214
 have hown:∀v,(v=vd\/v=va\/v=vb)->blk v≠some w.heap.size:=by
  exact Z112
 have hln:=GI S ((w.alloc (.cells #[.int .i64 3,.int .i64 A,.int .i64 B,.int .i64 C,.string S] 52 (0,0))).alloc (.cells #[.int .i64 A,.int .i64 B,.int .u64 0,.string ⟨#[]⟩,.slice none 0 0,.slice none 0 0] 42 (0,0))) hO.s
 have hb1:=((ae (w.alloc (.cells #[.int .i64 3,.int .i64 A,.int .i64 B,.int .i64 C,.string S] 52 (0,0))) (.cells #[.int .i64 A,.int .i64 B,.int .u64 0,.string ⟨#[]⟩,.slice none 0 0,.slice none 0 0] 42 (0,0))).old w.heap.size Km).trans (dD w (.cells #[.int .i64 3,.int .i64 A,.int .i64 B,.int .i64 C,.string S] 52 (0,0)))
 have hb2:=dD (w.alloc (.cells #[.int .i64 3,.int .i64 A,.int .i64 B,.int .i64 C,.string S] 52 (0,0))) (.cells #[.int .i64 A,.int .i64 B,.int .u64 0,.string ⟨#[]⟩,.slice none 0 0,.slice none 0 0] 42 (0,0))
 have hA2:=hal.trans (ae (w.alloc (.cells #[.int .i64 3,.int .i64 A,.int .i64 B,.int .i64 C,.string S] 52 (0,0))) (.cells #[.int .i64 A,.int .i64 B,.int .u64 0,.string ⟨#[]⟩,.slice none 0 0,.slice none 0 0] 42 (0,0)))
 rw [dE] at hb2
 have hz2:((w.alloc (.cells #[.int .i64 3,.int .i64 A,.int .i64 B,.int .i64 C,.string S] 52 (0,0))).alloc (.cells #[.int .i64 A,.int .i64 B,.int .u64 0,.string ⟨#[]⟩,.slice none 0 0,.slice none 0 0] 42 (0,0))).heap.size=w.heap.size+2:=by rw [dE,dE]
 obtain ⟨p,hp,hpl⟩:∃p:Nat,(if C<0 then -(C+1) else C) % ((ds.length:Int)+1)=(p:Int)/\p<=ds.length:=⟨((if C<0 then -(C+1) else C) % ((ds.length:Int)+1)).toNat,by have:=Int.emod_nonneg (if C<0 then -(C+1) else C) (b:=(ds.length:Int)+1) Kc;omega,by have:=Int.emod_lt_of_pos (if C<0 then -(C+1) else C) (b:=(ds.length:Int)+1) Kc;omega⟩
 have hds:ds.length<=262144:=by have:=h.sz;have:=ll ds;omega
 have hpk:=λW=>Bh C ((ds.length:Int)+1) W hO.c.1 hO.c.2 Kc Kc
 rw [hp] at hpk
 have HH:=bf h
 have HO:=bf hO
 have HL:=bf hl
 obtain ⟨xa,xc,rfl⟩:=h.rd.shape
 obtain ⟨N,hN⟩:∃N,ds.length=N:=⟨_,rfl⟩
 rw [hN] at hpk hpl hds
 have HN:=bf hN
 have o0:=(gO hb1).1
 have o1:=(gO hb1).2.1
 have o2:=(gO hb1).2.2.1
 have o3:=(gO hb1).2.2.2.1
 have o4:=(gO hb1).2.2.2.2.1
 have kc:((w.alloc (.cells #[.int .i64 3,.int .i64 A,.int .i64 B,.int .i64 C,.string S] 52 (0,0))).alloc (.cells #[.int .i64 A,.int .i64 B,.int .u64 0,.string ⟨#[]⟩,.slice none 0 0,.slice none 0 0] 42 (0,0))).cell? ⟨kb,2,none⟩=some (.slice xa N xc):=by rw [<-hN];exact hA2.cell h.c2
 have HB1:=bf hb1
 have HB2:=bf hb2
 have HA2:=bf hA2
 have HZ2:=bf hz2
 clear h h1 hO hown hal hb1 hb2 hA2 hz2 hl hp hN hne
 go_enter func15,ntmps15
 go_upto_region 8 with fail
 generalize (w.alloc (.cells #[.int .i64 3,.int .i64 A,.int .i64 B,.int .i64 C,.string S] 52 (0,0))).alloc (.cells #[.int .i64 A,.int .i64 B,.int .u64 0,.string ⟨#[]⟩,.slice none 0 0,.slice none 0 0] 42 (0,0))=w2 at *
 go_upto_region 9 with (go_at_call 25;refine hln.mono ?_;rintro e w3 ⟨ns,v,rfl,hrN,hgN,hszN⟩;obtain ⟨ya,yc,rfl⟩:=hrN.shape;have hA3:Add w2 w3:=⟨hgN.os,hgN.output,hgN.size,λi hi=>hgN.old i hi Ml⟩;have hb3:=(hA3.old (w.heap.size+1) (by have:=HZ2.out;omega)).trans HB2.out;obtain ⟨d0,d1,d2,d3,d4,d5,dz⟩:=dF hb3;have dz4:=dz 4;have HA3:=bf hA3;have HB3:=bf hb3;have HRN:=bf hrN;have HGN:=bf hgN;have HSN:=bf hszN;clear dz hA3 hb3 hrN hgN hszN)
 have hA4:Add w (w3.setCell ⟨w.heap.size+1,4,none⟩ (.slice ya ns.length yc)):=(by
  have h3:=HA2.out.trans HA3.out
  exact ⟨h3.os,h3.output,by simpa using h3.size,λi hi=>(NZ _ _ _ _ (by show i≠w.heap.size+1;omega)).trans (h3.old i hi)⟩)
 have hb4:=dG HB3.out 4 (.slice ya ns.length yc)
 have ho4:=(NZ w3 ⟨w.heap.size+1,4,none⟩ (.slice ya ns.length yc) w.heap.size (by show w.heap.size≠w.heap.size+1;omega)).trans ((HA3.out.old w.heap.size (by have:=HZ2.out;omega)).trans HB1.out)
 have hz4:(w3.setCell ⟨w.heap.size+1,4,none⟩ (.slice ya ns.length yc)).heap.size=w3.heap.size:=Kh
 have hnm:Hid (iK (λb=>w.heap.size<=b/\b≠w.heap.size+1) (w3.setCell ⟨w.heap.size+1,4,none⟩ (.slice ya ns.length yc)) ya ns):=(by
  refine dC (c:=yc) (HRN.out.carry λi hi=>NZ _ _ _ _ ?_) λi hi=>?_
  ·show i≠w.heap.size+1
   rcases HGN.out.at' with e|⟨g,hg,e⟩
   ·rw [e] at hi;cases hi
   rw [e] at hi;cases hi;have:=HZ2.out;omega
  rcases HGN.out.at' with e|⟨g,hg,e⟩
  ·rw [e] at hi;cases hi
  rw [e] at hi;cases hi;have:=HZ2.out;exact ⟨by omega,by omega⟩)
 generalize w3.setCell ⟨w.heap.size+1,4,none⟩ (.slice ya ns.length yc)=w4 at *
 have h4:=HH.out.more hA4
 have k2:=h4.c2
 rw [HN.out] at k2
 have r3:=(gO ho4).2.2.2.1
 have i1:wrap64 ((N:Int)+1)=(N:Int)+1:=Kn
 have i2:IntKind.i64.wrap ((N:Int)+1)=(N:Int)+1:=HY Kc Kc
 have H4:=bf h4
 have HA4:=bf hA4
 have HB4:=bf hb4
 clear o0 o1 o2 o3 o4 d0 d1 d2 d3 d4 d5 dz4 kc h4 hA4 hb4 ho4 hln hz4 HRN HGN HB3 HB2 HB1 HA3 HA2
 go_quiet ((go_at_call 26;exact Calls.quiet_of_same (hpk _)))
 obtain ⟨kk,hkk⟩:∃kk:Nat,(N:Int)-p=(kk:Int):=⟨N-p,by omega⟩
 have hkN:kk<=N:=Kc
 have i3:wrap64 ((N:Int)-p)=(kk:Int):=by rw [hkk];unfold wrap64;omega
 have i4:IntKind.i64.wrap ((N:Int)-p)=(kk:Int):=by rw [hkk];exact HY Kc Kc
 go_upto_region 11 with fail
 have hA5:Add w4 (w4.drewN nq):=⟨rfl,rfl,NL _,λ_ _=>rfl⟩
 have hb5:(w4.drewN nq).heap[w.heap.size+1]?=some (.cells #[.int .i64 A,.int .i64 B,.int .u64 0,.string ⟨#[]⟩,.slice ya ns.length yc,.slice none 0 0] 42 (0,0)):=HB4.out
 have hnm5:iK (λb=>w.heap.size<=b/\b≠w.heap.size+1) (w4.drewN nq) ya ns:=hnm.out.carry ⟨NL _,λ_ _ _=>rfl⟩
 generalize w4.drewN nq=w5 at *
 have hA5':=HA4.out.trans hA5
 have h5:=HH.out.more hA5'
 have s2:=hA5.cell k2
 obtain ⟨d0,d1,d2,d3,d4,d5,dz⟩:=dF hb5
 have dz5:=dz 5
 have hrd:=h5.rd
 rw [HN.out] at hrd
 obtain ⟨iV,zV,hiV,hzV,hsV,hz6,hbV⟩:=Tryz.infoD6
 have hbyte:=Y215
 have hkne:kb≠w.heap.size+1:=by have:=HH.out.lt;omega
 have H5:=bf h5
 have HA5:=bf hA5'
 have HB5:=bf hb5
 have HNM:=bf hnm5
 have HK:=bf hkN
 have hpN:N-kk=p:=Kc
 have HPN:=bf hpN
 clear hpN
 have hone:=EF h5.lie
 clear hbV k2 r3 h5 hA5 hA5' hb5 hnm5 hnm H4 HA4 HB4 dz i1 i2 i3 i4 hkk hpk
 rcases hrd with ⟨hxv,hN0,hcs⟩|⟨g,c,hxv,hr⟩
 ·cases hxv
  obtain rfl:kk=0:=Kc
  obtain rfl:p=0:=Kc
  refine wp_region_held_drew (S:=(λw'=>w'.cell? ⟨kb,2,none⟩=some (.slice none 0 0))) Kf ?_ (λhH=>?_)
  ·exact s2
  apply tk 0
  apply tk 2
  apply tk 3
  apply tk 4
  apply tk 5
  apply tk 6
  apply tk 7
  apply rd 1
  intro K hK
  go_simp
  refine hK.out _ _ s2 (λhH=>?_)
  clear hK K
  try simp only [Act.put,List.getElem_toArray,List.getElem_cons_zero,List.getElem_cons_succ,List.setIfInBounds_toArray,List.set_cons_zero,List.set_cons_succ]
  apply rd 8
  intro K hK
  refine dO _ Kl _ _ 28 28 Kl Ke iV zV iV.bytes underlying28 hiV hzV hsV rfl hz6 Kl (Row.nil w5.drew 6) _ 0 [] Kl (Src.ofNil _ underlying28 0) Ki (hbyte _ Kc) ?_
  intro v8 w8 hrow8 hg8
  rw [NV,List.nil_append] at hrow8
  obtain ⟨a8,c8,rfl⟩:=hrow8.shape
  have e2:=Y217
  have ed5:=Y218
  have ef5:=Y219
  have hS:(w8.setCell ⟨w.heap.size+1,5,none⟩ (.slice a8 0 c8)).cell? ⟨kb,2,none⟩=some (.slice none 0 0):=(NY (a:=⟨kb,2,none⟩) (NZ _ _ _ _ (by exact hkne))).trans e2
  have HR8:=bf hrow8
  have HG8:=bf hg8
  clear hrow8 hg8
  refine hK.out _ _ e2 (λhH=>?_)
  clear hK K
  try simp only [Act.put,List.getElem_toArray,List.getElem_cons_zero,List.getElem_cons_succ,List.setIfInBounds_toArray,List.set_cons_zero,List.set_cons_succ]
  apply tk 9
  apply rd 10
  intro K hK
  go_simp
  refine hK.out _ _ hS (λhH=>?_)
  clear hK K hH
  refine wpAnyH_done Kf ?_ _
  have h8:=Y220
  have hA6:Add w (w8.setCell ⟨w.heap.size+1,5,none⟩ (.slice a8 0 c8)):=by
   exact Z99
  have hlt5:=NW _ _ d5
  have hb6:=dG ((h8.old (w.heap.size+1) hlt5).trans HB5.out) 5 (.slice a8 0 c8)
  have hw6:∀i,blk (.slice a8 0 c8)=some i->w5.heap.size<=i:=λi hi=>by
   exact Z140
  have hr6:Row (w8.setCell ⟨w.heap.size+1,5,none⟩ (.slice a8 0 c8)) 6 (.slice a8 0 c8) 0 []:=HR8.out.carry λi hi=>NZ _ _ _ _ LG
  have hnm6:iK (λb=>w.heap.size<=b/\b≠w.heap.size+1) (w8.setCell ⟨w.heap.size+1,5,none⟩ (.slice a8 0 c8)) ya ns:=HNM.out.carry ⟨by simpa using h8.size,λi hi hl=>(NZ _ _ _ _ (by exact hi.2)).trans (h8.old i hl)⟩
  have hw6':∀i,blk (.slice a8 0 c8)=some i->w.heap.size<=i:=λi hi=>NM HA5.out.size (hw6 i hi)
  generalize w8.setCell ⟨w.heap.size+1,5,none⟩ (.slice a8 0 c8)=w6 at *
  have h6:=HH.out.more hA6
  have f2:=h6.c2
  rw [HN.out] at f2
  have fz2:=(h6.there 2 Ke).2
  obtain ⟨h7,hdr⟩:=h6.trunc (k:=0) (by rw [HN.out];have:=HK.out;omega)
  have hdl:(ds.drop 0).length=0:=by rw [List.length_drop,HN.out]
  have hb7:=(NZ w6 ⟨kb,2,none⟩ (.slice none 0 0) (w.heap.size+1) (Ne.symm hkne)).trans hb6
  have hok:∀b,w.heap.size<=b->lN kb (.slice none 0 0) va vb b:=λb hb=>⟨by have:=HH.out.lt;omega,λe=>by have:=HH.out.rd.blk_lt ((Ae _ _ 0 _ _).trans e);omega,λe=>by have:=HH.out.ra.blk_lt e;omega,λe=>by have:=HH.out.rb.blk_lt e;omega⟩
  have hr7:=hr6.carry (w':=w6.setCell ⟨kb,2,none⟩ (.slice none 0 0)) λi hi=>NZ _ _ _ _ Mr
  have hnm7:iK (lN kb (.slice none 0 0) va vb) (w6.setCell ⟨kb,2,none⟩ (.slice none 0 0)) ya ns:=by
   exact Z67
  have hr8:Row (w6.setCell ⟨kb,2,none⟩ (.slice none 0 0)) 6 (.slice a8 0 c8) (ds.drop 0).length []:=by rw [hdl];exact hr7
  obtain ⟨ka',kc',hkv,hka⟩:=Dat.row_lieAll hr8 (by rw [hcs] at hdr;exact hdr) (λi hi=>hok i (hw6' i hi))
  obtain ⟨rfl,rfl⟩:a8=ka'/\c8=kc':=MN
  have hd7:(Dat.mk A B 0 ⟨#[]⟩ ns (ds.drop 0)).liesO (lN kb (.slice none 0 0) va vb) (w6.setCell ⟨kb,2,none⟩ (.slice none 0 0)) [.int .i64 A,.int .i64 B,.int .u64 ((0:Nat):Int),.string ⟨#[]⟩,.slice ya ns.length yc,.slice a8 0 c8]:=by
   exact Z147
  have had:=yC h7 hd7 HL.out (by rw [Dat.sz];have h1:=HSN.out;have h2:=oV ds 0;have h3:=HH.out.sz;have h4:=HL.out;have h5:=HO.out.s;show 1+0+eH ns+aY (ds.drop 0)<=1000000;omega)
  exact Z64
 cases hxv
 have j1:((kk:Int)<=(N:Int))=True:=eq_true Kc
 have j2:(0:Int)<=(kk:Int):=Kc
 have j3:((N:Int)<=(xc:Int))=True:=eq_true (by have:=hr.le;omega)
 have j4:((kk:Int)<=(xc:Int))=True:=eq_true (by have:=hr.le;omega)
 have hsrc:Src prog 6 28 (.slice (if xc=kk then some ⟨g,0,none⟩ else some ⟨g,kk*6,none⟩) (N-kk) (xc-kk)) (N-kk) (cells.drop (kk*6)) w5.drew:=by
  have hle:=hr.le
  have hln:=hr.len
  by_cases hx:xc=kk
  ·rw [if_pos hx]
   have hd:cells.drop (kk*6)=[]:=List.drop_eq_nil_of_le Kc
   rw [hd]
   exact Src.ofSlice _ underlying28 _ _ _ [] (by rw [show N-kk=0 from by omega];rfl) (λj u hu=>by simp at hu) (λu hu=>by cases hu)
  rw [if_neg hx]
  refine Src.ofSlice _ underlying28 _ _ _ _ (by rw [List.length_drop];omega) (λj u hu=>?_) (λu hu=>hone u (List.mem_of_mem_drop hu))
  rw [List.getElem?_drop] at hu
  have hj:=(Oi hu).1
  rw [Addr.add_lit]
  exact (hr.holds _ Kc).trans hu
 clear hr
 refine wp_region_held_drew (S:=(λw'=>w'.cell? ⟨kb,2,none⟩=some (.slice (some ⟨g,0,none⟩) N xc))) Kf ?_ (λhH=>?_)
 ·exact s2
 apply tk 0
 apply tk 2
 apply tk 3
 apply tk 4
 apply tk 5
 apply tk 6
 apply tk 7
 apply rd 1
 intro K hK
 go_simp
 refine hK.out _ _ s2 (λhH=>?_)
 clear hK K
 try simp only [Act.put,List.getElem_toArray,List.getElem_cons_zero,List.getElem_cons_succ,List.setIfInBounds_toArray,List.set_cons_zero,List.set_cons_succ]
 apply rd 8
 intro K hK
 refine dO _ Kl _ _ 28 28 Kl Ke iV zV iV.bytes underlying28 hiV hzV hsV rfl hz6 Kl (Row.nil w5.drew 6) _ (N-kk) (cells.drop (kk*6)) Kl hsrc Ki (hbyte _ Kc) ?_
 intro v8 w8 hrow8 hg8
 rw [NV,List.nil_append] at hrow8
 obtain ⟨a8,c8,rfl⟩:=hrow8.shape
 have e2:=Y217
 have ed5:=Y218
 have ef5:=Y219
 have hS:(w8.setCell ⟨w.heap.size+1,5,none⟩ (.slice a8 (N-kk) c8)).cell? ⟨kb,2,none⟩=some (.slice (some ⟨g,0,none⟩) N xc):=(NY (a:=⟨kb,2,none⟩) (NZ _ _ _ _ (by exact hkne))).trans e2
 have HR8:=bf hrow8
 have HG8:=bf hg8
 clear hrow8 hg8
 refine hK.out _ _ e2 (λhH=>?_)
 clear hK K
 try simp only [Act.put,List.getElem_toArray,List.getElem_cons_zero,List.getElem_cons_succ,List.setIfInBounds_toArray,List.set_cons_zero,List.set_cons_succ]
 apply tk 9
 apply rd 10
 intro K hK
 go_simp
 refine hK.out _ _ hS (λhH=>?_)
 clear hK K hH
 refine wpAnyH_done Kf ?_ _
 have h8:=Y220
 have hA6:Add w (w8.setCell ⟨w.heap.size+1,5,none⟩ (.slice a8 (N-kk) c8)):=by
  exact Z99
 have hlt5:=NW _ _ d5
 have hb6:=dG ((h8.old (w.heap.size+1) hlt5).trans HB5.out) 5 (.slice a8 (N-kk) c8)
 have hw6:∀i,blk (.slice a8 (N-kk) c8)=some i->w5.heap.size<=i:=λi hi=>by
  exact Z140
 have hr6:Row (w8.setCell ⟨w.heap.size+1,5,none⟩ (.slice a8 (N-kk) c8)) 6 (.slice a8 (N-kk) c8) (N-kk) (cells.drop (kk*6)):=HR8.out.carry λi hi=>NZ _ _ _ _ LG
 have hnm6:iK (λb=>w.heap.size<=b/\b≠w.heap.size+1) (w8.setCell ⟨w.heap.size+1,5,none⟩ (.slice a8 (N-kk) c8)) ya ns:=HNM.out.carry ⟨by simpa using h8.size,λi hi hl=>(NZ _ _ _ _ (by exact hi.2)).trans (h8.old i hl)⟩
 have hw6':∀i,blk (.slice a8 (N-kk) c8)=some i->w.heap.size<=i:=λi hi=>NM HA5.out.size (hw6 i hi)
 generalize w8.setCell ⟨w.heap.size+1,5,none⟩ (.slice a8 (N-kk) c8)=w6 at *
 have h6:=HH.out.more hA6
 have f2:=h6.c2
 rw [HN.out] at f2
 have fz2:=(h6.there 2 Ke).2
 obtain ⟨h7,hdr⟩:=h6.trunc (k:=kk) (by rw [HN.out];have:=HK.out;omega)
 have hdl:(ds.drop kk).length=(N-kk):=by rw [List.length_drop,HN.out]
 have hb7:=(NZ w6 ⟨kb,2,none⟩ (.slice (some ⟨g,0,none⟩) kk xc) (w.heap.size+1) (Ne.symm hkne)).trans hb6
 have hok:∀b,w.heap.size<=b->lN kb (.slice (some ⟨g,0,none⟩) kk xc) va vb b:=λb hb=>⟨by have:=HH.out.lt;omega,λe=>by have:=HH.out.rd.blk_lt ((Ae _ _ kk _ _).trans e);omega,λe=>by have:=HH.out.ra.blk_lt e;omega,λe=>by have:=HH.out.rb.blk_lt e;omega⟩
 have hr7:=hr6.carry (w':=w6.setCell ⟨kb,2,none⟩ (.slice (some ⟨g,0,none⟩) kk xc)) λi hi=>NZ _ _ _ _ Mr
 have hnm7:iK (lN kb (.slice (some ⟨g,0,none⟩) kk xc) va vb) (w6.setCell ⟨kb,2,none⟩ (.slice (some ⟨g,0,none⟩) kk xc)) ya ns:=by
  exact Z67
 have hr8:Row (w6.setCell ⟨kb,2,none⟩ (.slice (some ⟨g,0,none⟩) kk xc)) 6 (.slice a8 (N-kk) c8) (ds.drop kk).length (cells.drop (kk*6)):=by rw [hdl];exact hr7
 obtain ⟨ka',kc',hkv,hka⟩:=Dat.row_lieAll hr8 hdr (λi hi=>hok i (hw6' i hi))
 obtain ⟨rfl,rfl⟩:a8=ka'/\c8=kc':=MN
 have hd7:(Dat.mk A B 0 ⟨#[]⟩ ns (ds.drop kk)).liesO (lN kb (.slice (some ⟨g,0,none⟩) kk xc) va vb) (w6.setCell ⟨kb,2,none⟩ (.slice (some ⟨g,0,none⟩) kk xc)) [.int .i64 A,.int .i64 B,.int .u64 ((0:Nat):Int),.string ⟨#[]⟩,.slice ya ns.length yc,.slice a8 (N-kk) c8]:=by
  exact Z147
 have had:=yC h7 hd7 HL.out (by rw [Dat.sz];have h1:=HSN.out;have h2:=oV ds kk;have h3:=HH.out.sz;have h4:=HL.out;have h5:=HO.out.s;show 1+0+eH ns+aY (ds.drop kk)<=1000000;omega)
 exact Z64
end
end
section
theorem GP{W0 w:World}{kb:Nat}{text:ByteArray}{ds:List Dat}{na:Nat}{bs:List ByteArray}{left K A B C:Int}{S:ByteArray}(h:Kw W0 w kb text ds na bs left)(hO:OpB A B C S)(hl:0<=left)(hna:na<=300000)(hb:bs.length<=300000):
  Calls prog 15 #[.pointer (some ⟨kb,0,none⟩),.agg #[.int .i64 K,.int .i64 A,.int .i64 B,.int .i64 C,.string S]] w λe w'=>qG W0 kb na bs.length e w':=by
 obtain ⟨vd,va,vb,cells,ac,h⟩:=h
 by_cases h0:K<1\/8<K
 ·exact kstep0 h h0
 by_cases h1:K=1
 ·subst h1;exact kstep1 h hO
 by_cases h2:K=2
 ·subst h2;exact kstep2 h hO hl
 by_cases h3:K=3
 ·subst h3;exact kstep3 h hO hl
 by_cases h4:K=4
 ·subst h4;exact kstep4 h hl hna
 by_cases h5:K=5
 ·subst h5;exact kstep5 h hna
 by_cases h6:K=6
 ·subst h6;exact kstep6 h hO
 by_cases h7:K=7
 ·subst h7;exact kstep7 h
 obtain rfl:K=8:=Kc
 exact kstep8 h hO hb
end
end Go.Proofs.YtmphmjkinmkidaaGreatDoor
