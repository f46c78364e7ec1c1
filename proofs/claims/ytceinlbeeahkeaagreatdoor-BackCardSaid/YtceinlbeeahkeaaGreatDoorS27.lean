import Derived.Lib.SliceRun
import Derived.Test.YtceinlbeeahkeaaGreatDoorS26
set_option linter.defProp false
open Go.Proofs.Tryz
set_option maxRecDepth 8000
set_option maxHeartbeats 8000000
open Go Go.RowKit Go.Extern.Stop Go.Stop Go.Extern
namespace Go.Proofs.YtceinlbeeahkeaaGreatDoor
variable{p:Prop}
section
def Z106(h:p:=by
 go_wp2
 go_roundw
 case rel=>exact ⟨by first|rfl|trivial,j+1,hlt,by go_num,by rw [hs,hd];simp⟩
 simp only [intOf];exact wg hlt):p:=h
theorem FZ{w:World}{ad:Option Addr}{n cap:Nat}(hal:Calls prog 4 #[] w λe w'=>e=.returned (.bool true)/\Add w w')
  (htd:∀W,Add w W->Calls prog 5 #[.slice ad n cap] W λe w'=>Add W w'/\((∃v,e=.returned (.tuple #[v,.bool false]))\/∃(Ok Fit:Dat->Prop) (Rd:World->Nat->Prop) (kb sb:Nat) (c:ByteArray) (xa ya:Option Addr) (xc yc:Nat) (ds:List Dat) (bs:List ByteArray),e=.returned (.tuple #[.pointer (some ⟨kb,0,none⟩),.bool true])/\BkC Ok Fit Rd w' kb sb c xa ya xc yc ds bs)):
  Calls prog 3 #[.slice ad n cap] w λe w'=>e=.returned (.bool true)/\Add w w':=by
 go_enter func3,ntmps3
 go_upto_region 4 with (go_at_call 4;(with_reducible refine hal.mono ?_);rintro e w1 ⟨rfl,hA1⟩)
 have htd1:=htd w1 hA1
 have HA1:=bf hA1
 clear hal htd hA1
 go_upto_region 7 with (go_at_call 5;(with_reducible refine htd1.mono ?_);rintro e w2 ⟨hA2,⟨v,rfl⟩|⟨Ok,Fit,Rd,kb,sb,c,xa,ya,xc,yc,ds,bs,rfl,hB⟩⟩)
 ·go_ret
  exact ⟨rfl,HA1.out.trans hA2⟩
 have HW2:=bf (HA1.out.trans hA2)
 have c0:=hB.c0
 have hcan:=hB.can w2 (Add.refl _)
 have hcn:=hB.cn
 have HB:=bf hB
 clear htd1 hB HA1 hA2
 go_upto_region 8 with (go_at_call 6;(with_reducible refine hcan.mono ?_);rintro e w3 ⟨rfl,hA3⟩)
 have HA3:=bf hA3
 have v0:=hA3.cell c0
 clear hcan hA3 c0
 go_upto_region 10 with fail
 clear v0
 go_wp2
 go_loopw [8,9] (λsp cnt wr=>wr=w3/\∃j:Nat,j<=c.size/\cnt=.int .i64 j/\sp=.bool (xq c j)) (λ_ cnt _=>c.size-(intOf cnt).toNat)
 case atStart=>exact ⟨rfl,0,NQ _,rfl,by rw [Gi]⟩
 obtain ⟨hwr,j,hj,rfl,rfl⟩:=hrel
 obtain rfl:w3=_:=hwr.symm
 by_cases hlt:j<c.size
 ·have hs:=GK c j hlt
  cases hd:xq c j with
  |false=>
   exact Z106
  |true=>
   exact Z106
 obtain rfl:j=c.size:=Kc
 generalize hd:xq c c.size=bb
 go_upto_if 53 with fail
 go_cut [7,10,11,12,13] (λr _ _ _ _ wx=>∃rb,r=.pointer (some ⟨rb,0,none⟩)/\Add w3 wx/\Rd wx rb)
 case rest=>
  obtain ⟨rb,rfl,hA4,hR4⟩:=hcut
  have HA4:=bf (HA3.out.trans hA4)
  have HR4:=bf hR4
  clear hA4 hR4 HA3 hcn hj hlt hd
  go_wp2
  go_loopw [14] (λcnt wr=>∃j:Nat,j<=ds.length/\cnt=.int .i64 j/\Add wc wr) (λcnt _=>ds.length-(intOf cnt).toNat)
  case atStart=>exact ⟨0,NQ _,rfl,Add.refl _⟩
  obtain ⟨j,hj,rfl,hA5⟩:=hrel
  have v2:=(HA4.out.trans hA5).cell HB.out.c2
  have hdn:=HB.out.dn
  by_cases hlt:j<ds.length
  ·obtain ⟨xb,xo,cs,rfl,-,h6,hcs,hl⟩:=Dat.lieAll_get ds 0 HB.out.data j hlt
   have hbk:=HB.out.bck _ (HA4.out.trans hA5) rb (HB.out.rda _ _ _ HR4.out hA5) ds[j] xb (xo+j*6) ⟨cs,h6,λf hf=>by
    have h1:=hcs f hf
    rw [NV] at h1
    obtain ⟨y,hy⟩:=Y106
    rw [hy] at h1 ⊢
    exact (HA4.out.trans hA5).cell h1,Dat.lies_carry (Old.add (HA4.out.trans hA5)) _ _ hl⟩ (HB.out.dok _ (NS hlt))
   have HA5:=bf hA5
   clear h6 hcs hl hA5
   go_wp2_with (go_at_call 9;(with_reducible refine hbk.mono ?_);rintro e w6 ⟨rfl,hA6⟩)
   go_roundw
   case rel=>exact ⟨j+1,by omega,by go_num,HA5.out.trans hA6⟩
   simp only [intOf];exact wg hlt
  obtain rfl:j=ds.length:=Kc
  have HA5:=bf hA5
  clear hA5 hj hlt
  go_upto_region 29 with fail
  clear v2
  go_wp2
  go_loopw [15] (λcnt wr=>∃j:Nat,j<=bs.length/\cnt=.int .i64 j/\Add wc wr) (λcnt _=>bs.length-(intOf cnt).toNat)
  case atStart=>exact ⟨0,NQ _,rfl,HA5.out⟩
  clear HA5
  obtain ⟨j,hj,rfl,hA5⟩:=hrel
  have v13:=(HA4.out.trans hA5).cell HB.out.c13
  have hbn:=HB.out.bn
  by_cases hlt:j<bs.length
  ·obtain ⟨yb,yo,rfl,hyt⟩:=jE.get HB.out.bytes hlt
   have v0:=(HA4.out.trans hA5).cell HB.out.c0
   have vt:=(HA4.out.trans hA5).cell hyt
   have htz:=HB.out.bz _ (NS hlt)
   generalize bs[j]=t at *
   go_upto_region 32 with fail
   go_cut [16,17,18] (λc16 c17 c18 wx=>∃(b7:Nat) (k n7:Int),c16=.pointer (some ⟨b7,0,none⟩)/\c17=.int .i64 k/\c18=.int .i64 n7/\Add wc wx/\(n7=0->0<=k/\k<=t.size/\∃x:Dat,Ok x/\Fit x/\x.atP wx b7 0))
   case rest=>
    clear v0 v13 vt hA5
    obtain ⟨b7,k,n7,rfl,rfl,rfl,hA7,hx7⟩:=hcut
    by_cases hn7:n7=0
    ·subst hn7
     obtain ⟨k0,k1,x,hok,hft,hat⟩:=hx7 rfl
     have HAT:=bf hat
     obtain ⟨cs,-,hcs,hl⟩:=hat
     obtain ⟨na,nc,ka,kc,rfl,-⟩:=Dat.lies_cells hl
     have A7:=HA4.out.trans hA7
     have v0:=A7.cell HB.out.c0
     have q0:wc.cell? ⟨b7,0,none⟩=some (.int .i64 x.kind):=by have h1:=hcs 0 Kc;rw [NV] at h1;exact h1
     have q1:wc.cell? ⟨b7,1,none⟩=some (.int .i64 x.int):=by have h1:=hcs 1 Kc;rw [NV] at h1;exact h1
     have q2:wc.cell? ⟨b7,2,none⟩=some (.int .u64 (x.bits:Int)):=by have h1:=hcs 2 Kc;rw [NV] at h1;exact h1
     have q3:wc.cell? ⟨b7,3,none⟩=some (.string x.text):=by have h1:=hcs 3 Kc;rw [NV] at h1;exact h1
     have q4:wc.cell? ⟨b7,4,none⟩=some (.slice na x.names.length nc):=by have h1:=hcs 4 Kc;rw [NV] at h1;exact h1
     have q5:wc.cell? ⟨b7,5,none⟩=some (.slice ka x.kids.length kc):=by have h1:=hcs 5 Kc;rw [NV] at h1;exact h1
     have hfit:=HB.out.fit _ (A7.trans (af _)) x _ (Dat.lies_carry (Old.add (af _)) _ _ hl) hok hft
     have HL:=bf hl
     have HA7:=bf hA7
     have HT:=bf hyt
     clear hx7 hcs hl hA7 hyt
     go_upto_region 34 with fail
     refine wp_region_held_drew (S:=(λw'=>w'.cell? ⟨kb,0,none⟩=some (.pointer (some ⟨sb,0,none⟩))/\w'.cell? ⟨b7,0,none⟩=some (.int .i64 x.kind)/\w'.cell? ⟨b7,1,none⟩=some (.int .i64 x.int)/\w'.cell? ⟨b7,2,none⟩=some (.int .u64 (x.bits:Int))/\w'.cell? ⟨b7,3,none⟩=some (.string x.text)/\w'.cell? ⟨b7,4,none⟩=some (.slice na x.names.length nc)/\w'.cell? ⟨b7,5,none⟩=some (.slice ka x.kids.length kc))) Kf ?_ (λhH=>?_)
     ·exact ⟨v0,q0,q1,q2,q3,q4,q5⟩
     apply tk 0
     apply tk 1
     apply tk 2
     apply tk 3
     apply tk 4
     apply rd 5
     intro K hK
     go_simp
     go_wp2_with (go_at_call 11;(with_reducible refine hfit.mono ?_);rintro e w8 ⟨rfl,hA8⟩)
     have B8:=(af _).trans hA8
     refine hK.out _ _ ⟨B8.cell v0,B8.cell q0,B8.cell q1,B8.cell q2,B8.cell q3,B8.cell q4,B8.cell q5⟩ (λhH=>?_)
     clear hK K
     try simp only [Act.put,List.getElem_toArray,List.getElem_cons_zero,List.getElem_cons_succ,List.setIfInBounds_toArray,List.set_cons_zero,List.set_cons_succ]
     apply tk 6
     refine wpAnyH_done Kf ?_ _
     have hbk:=HB.out.bck _ (A7.trans B8) rb (HB.out.rda _ _ _ HR4.out (HA7.out.trans B8)) x b7 0 (ah HAT.out B8) hok
     have HB8:=bf B8
     have HC7:=bf A7
     clear hH hfit v0 q0 q1 q2 q3 q4 q5 hA8 A7 B8
     go_upto_region 36 with (go_at_call 9;(with_reducible refine hbk.mono ?_);rintro e w9 ⟨rfl,hA9⟩)
     have C9:=HC7.out.trans (HB8.out.trans hA9)
     have v13:=C9.cell HB.out.c13
     have vt:=C9.cell HT.out
     have hk0:(k<0)=False:=eq_false Kc
     have hk1:((t.size:Int)<k)=False:=eq_false Kc
     have HA9:=bf hA9
     clear hbk C9 hA9
     go_wp2
     go_roundw
     case rel=>exact ⟨j+1,by omega,by go_num,HA7.out.trans (HB8.out.trans HA9.out)⟩
     simp only [intOf];exact wg hlt
    have HA7:=bf hA7
    clear hA7 hx7
    go_wp2
    go_roundw
    case rel=>exact ⟨j+1,by omega,by go_num,HA7.out⟩
    simp only [intOf];exact wg hlt
   have A5:=HA4.out.trans hA5
   have hdec:=λW k=>HB.out.dec W (A5.trans k) t htz
   refine wp_region_held_drew (S:=(λw'=>w'.cell? ⟨kb,0,none⟩=some (.pointer (some ⟨sb,0,none⟩))/\w'.cell? ⟨kb,13,none⟩=some (.slice (some ⟨yb,yo,none⟩) bs.length yc)/\w'.cell? ⟨yb,yo+j,none⟩=some (.string t))) Kf ?_ (λhH=>?_)
   ·exact ⟨v0,v13,vt⟩
   apply tk 0
   apply tk 1
   apply tk 2
   apply tk 3
   apply tk 4
   apply tk 5
   apply tk 6
   apply tk 7
   apply tk 8
   apply tk 9
   apply tk 10
   refine wpAnyH_ready (rs:=[11,16]) Kf Kh ?_
   refine AllReadyH.cons rfl (λK hK=>?_) (AllReadyH.cons rfl (λK hK=>?_) AllReadyH.nil)
   ·have HDEC:=hdec _ (af _)
    go_simp
    go_wp2_with (go_at_call 10;(with_reducible refine HDEC.mono ?_);rintro e w6 ⟨hA6,k,n7,dk,dn,db,dt,dna,dka,dnl,dnc,dkl,dkc,rfl,hx6⟩)
    have B6:=(af _).trans hA6
    obtain ⟨hN1,hN2⟩:=dec_new B6 dk dn db dt dna dka dnl dnc dkl dkc
    refine hK.out _ _ ⟨B6.cell v0,B6.cell v13,B6.cell vt⟩ (λhH=>?_)
    clear hK K HDEC
    try simp only [Act.put,List.getElem_toArray,List.getElem_cons_zero,List.getElem_cons_succ,List.setIfInBounds_toArray,List.set_cons_zero,List.set_cons_succ]
    apply tk 12
    apply tk 13
    apply tk 14
    apply tk 15
    apply rd 16
    intro K hK
    go_simp
    refine hK.out _ _ ⟨(ae w6 _).cell (B6.cell v0),(ae w6 _).cell (B6.cell v13),(ae w6 _).cell (B6.cell vt)⟩ (λhH=>?_)
    clear hK K
    try simp only [Act.put,List.getElem_toArray,List.getElem_cons_zero,List.getElem_cons_succ,List.setIfInBounds_toArray,List.set_cons_zero,List.set_cons_succ]
    apply rd 17
    intro K hK
    go_simp
    refine hK.out _ _ ⟨(ae w6 _).cell (B6.cell v0),(ae w6 _).cell (B6.cell v13),(ae w6 _).cell (B6.cell vt)⟩ (λhH=>?_)
    clear hK K
    try simp only [Act.put,List.getElem_toArray,List.getElem_cons_zero,List.getElem_cons_succ,List.setIfInBounds_toArray,List.set_cons_zero,List.set_cons_succ]
    apply tk 18
    apply tk 19
    refine wpAnyH_done Kf ?_ _
    go_wp2
    go_meet
    exact ⟨_,_,_,rfl,rfl,rfl,hA5.trans hN1,λh0=>by
     obtain ⟨g1,g2,x,gx,g3,g4⟩:=hx6 h0
     exact ⟨g1,g2,x,g3,g4,hN2 x _ gx⟩⟩
   have hza:=ae wr (.cells #[.int .i64 0,.int .i64 0,.int .u64 0,.string ⟨#[]⟩,.slice none 0 0,.slice none 0 0] 42 (0,0))
   go_simp
   refine hK.out _ _ ⟨(hza.trans (af _)).cell v0,(hza.trans (af _)).cell v13,(hza.trans (af _)).cell vt⟩ (λhH=>?_)
   clear hK K
   try simp only [Act.put,List.getElem_toArray,List.getElem_cons_zero,List.getElem_cons_succ,List.setIfInBounds_toArray,List.set_cons_zero,List.set_cons_succ]
   apply rd 11
   intro K hK
   have HDEC:=hdec _ (hza.trans (af _))
   go_simp
   go_wp2_with (go_at_call 10;(with_reducible refine HDEC.mono ?_);rintro e w6 ⟨hA6,k,n7,dk,dn,db,dt,dna,dka,dnl,dnc,dkl,dkc,rfl,hx6⟩)
   have hA6':=(af _).trans hA6
   obtain ⟨hN1,hN2⟩:=dec_put (b:=wr.heap.size) rfl hA6' dk dn db dt dna dka dnl dnc dkl dkc
   have B6:=hza.trans hA6'
   obtain ⟨t0,t1,t2,t3,t4,t5,tz⟩:=dF ((hA6'.old _ Km).trans (dD wr (.cells #[.int .i64 0,.int .i64 0,.int .u64 0,.string ⟨#[]⟩,.slice none 0 0,.slice none 0 0] 42 (0,0))))
   refine hK.out _ _ ⟨B6.cell v0,B6.cell v13,B6.cell vt⟩ (λhH=>?_)
   clear hK K HDEC
   try simp only [Act.put,List.getElem_toArray,List.getElem_cons_zero,List.getElem_cons_succ,List.setIfInBounds_toArray,List.set_cons_zero,List.set_cons_succ]
   clear hza hA6'
   apply tk 12
   apply tk 13
   apply tk 14
   apply tk 15
   apply rd 17
   intro K hK
   unfold dV at hN1 hN2
   go_simp
   refine hK.out _ _ ⟨hN1.cell v0,hN1.cell v13,hN1.cell vt⟩ (λhH=>?_)
   clear hK K
   try simp only [Act.put,List.getElem_toArray,List.getElem_cons_zero,List.getElem_cons_succ,List.setIfInBounds_toArray,List.set_cons_zero,List.set_cons_succ]
   apply tk 18
   apply tk 19
   refine wpAnyH_done Kf ?_ _
   go_wp2
   go_meet
   exact ⟨_,_,_,rfl,rfl,rfl,hA5.trans hN1,λh0=>by
    obtain ⟨g1,g2,x,gx,g3,g4⟩:=hx6 h0
    exact ⟨g1,g2,x,g3,g4,hN2 x gx⟩⟩
  obtain rfl:j=bs.length:=Kc
  go_wp2
  go_ret
  exact ⟨rfl,HW2.out.trans (HA4.out.trans hA5)⟩
 cases bb with
 |true=>
  go_wp2
  go_meet
  exact ⟨sb,rfl,Add.refl _,HB.out.rda _ _ _ HB.out.rd0 HA3.out⟩
 |false=>
  have hpar:=HB.out.par hd w3 HA3.out
  go_upto_region 18 with (go_at_call 7;(with_reducible refine hpar.mono ?_);rintro e w4 ⟨rb,rfl,hA4,hR4,hcn4,hmt4⟩)
  have hcn5:=hcn4 w4 (Add.refl _)
  have HR4:=bf hR4
  have HA4:=bf hA4
  clear hpar hcn4 hA4 hR4
  go_upto_region 19 with (go_at_call 6;(with_reducible refine hcn5.mono ?_);rintro e w5 ⟨rfl,hA5⟩)
  have hmt5:=hmt4 w5 hA5
  have HA5:=bf hA5
  have v0:=(HA3.out.trans (HA4.out.trans hA5)).cell HB.out.c0
  clear hcn5 hmt4 hA5
  go_wp2_with (go_at_call 8;(with_reducible refine hmt5.mono ?_);rintro e w6 ⟨rfl,hA6⟩)
  go_meet
  exact ⟨rb,rfl,HA4.out.trans (HA5.out.trans hA6),HB.out.rda _ _ _ HR4.out (HA5.out.trans hA6)⟩
def Y107(h:p:=by exact (show ∀n,n<=70000->n*iV.bytes<=140737488355328 from λn hn=>NM (Nat.mul_le_mul hn hbV) Ke)):p:=h
theorem wT{w w':World}{o':Obj}{v v':Value}(hg:Grew (w.alloc o') v w' v'){b o:Nat}{x:Value}(hb:b<w.heap.size)(hn:blk v≠some b)(hx:w.cell? ⟨b,o,none⟩=some x):w'.cell? ⟨b,o,none⟩=some x:=hg.cell Km hn ((ae _ _).cell hx)
theorem kid_b{wL w wr w3 w5:World}{mb p j:Nat}{v:Value}{cs:List Value}(hI:KidI mb w wr v j cs)(hu:Upd mb wr w5)(hp:p<wL.heap.size)(hM:Mk wL w mb)(h3:wr.heap.size<w3.heap.size)(h35:w3.heap.size<=w5.heap.size):
  p<w5.heap.size/\blk v≠some p/\wr.heap.size<w5.heap.size/\blk v≠some wr.heap.size:=by
 have h1:=hM.old.size
 have h2:=hI.upd.size
 have h4:=hu.size
 exact ⟨by omega,λe=>by have:=hI.own _ e;omega,by omega,λe=>by have:=hI.row.blk_lt e;omega⟩
theorem Jv{wL:World}{tab:List TNode}{pl:Nat->Nat}{k:Nat}(hm:BP wL tab pl k)(hL:Lay wL tab pl){w:World}{mb:Nat}(hM:Mk wL w mb)(i:Nat)(hi:i<tab.length)(hk:tab[i].kind=11\/tab[i].kind=12)(ok:Nat->Prop)(l:List J)(kk n:Int)(t:ByteArray)(a na:Option Addr)(c nl nc:Nat)(m:Option Nat)(hl:J.lieAll ok wL a 0 l)(hlen:l.length<=65536)(d:Int)(hd:d=32-(k:Int))(hk32:k<=32):
  Calls prog 162 #[.pointer (some ⟨mb,0,none⟩),.pointer (some ⟨pl i,0,none⟩),.agg (jc kk n t a na l.length c nl nc m).toArray,.int .i64 d] w λe w'=>Ka isSl mb w e w':=by
 have hT:=hL.lies i hi
 have HIT:=bf (hL.item i hi hk)
 obtain ⟨v7,h7,hv7⟩:=hT.item
 have hpv:=hv7 hk
 subst hpv
 have HL7:=bf hT.lt
 have HM:=bf hM
 have HM0:=bf hM.lt
 obtain ⟨mn,ml,hmb⟩:=hM.at'
 have HD:Hid (d+1=33-(k:Int)):=Np
 have hd1:IntKind.i64.wrap (d+1)=d+1:=KD
 generalize hN:l.length=N at *
 have HN:=bf hN
 have HLA:=bf hl
 have H7:=bf h7
 have HK:=bf hm
 unfold jc
 have hal:=ae w (.cells #[.int .i64 kk,.int .i64 n,.string t,.slice a N c,.slice na nl nc,.map m] 85 (0,0))
 obtain ⟨q0,q1,q2,q3,q4,q5,qz⟩:=dF (dD w (.cells #[.int .i64 kk,.int .i64 n,.string t,.slice a N c,.slice na nl nc,.map m] 85 (0,0)))
 obtain ⟨m0,m1,mz⟩:=nN ((hal.old mb hM.lt).trans hmb)
 have m1z:=mz 1
 have HMB:=bf ((hal.old mb hM.lt).trans hmb)
 have hne:w.heap.size≠mb:=NR hM.lt
 have HA1:=bf hal
 clear hv7 hk hT hmb mz m0 hd hk32 hN hl h7 hm hL hM q0 q1 q2 q4 q5 qz hal
 go_enter func162,ntmps162
 go_upto_region 1 with fail
 generalize hW1:w.alloc (.cells #[.int .i64 kk,.int .i64 n,.string t,.slice a N c,.slice na nl nc,.map m] 85 (0,0))=w1 at *
 clear hW1
 go_upto_region 2 with fail
 go_region
 go_wp2
 generalize wrap64 (ml+(N:Int))=lx
 have hK0:KidI mb w (w1.setCell ⟨mb,1,none⟩ (.int .i64 lx)).drew (.slice none 0 0) 0 []:=⟨Row.nil _ _,λ_ h=>Lm,⟨mn,lx,mk_set1 HMB.out lx⟩,((HA1.out.upd mb).trans (Upd.set mb 1 w1 _)).trans ((af _).upd mb)⟩
 clear q3 m1 m1z HMB hne
 generalize (w1.setCell ⟨mb,1,none⟩ (.int .i64 lx)).drew=w2 at *
 clear HA1
 go_loopw [10,30] (λkv cnt wr=>∃(j:Nat) (cs:List Value),j<=N/\cnt=.int .i64 j/\KidI mb w wr kv j cs) (λ_ cnt _=>N-(intOf cnt).toNat)
 case atStart=>exact ⟨0,[],NQ _,rfl,hK0⟩
 obtain ⟨j,cs,hj,rfl,hI⟩:=hrel
 have HI:=bf hI
 have hMr:=HM.out.upd hI.upd hI.mkr
 by_cases hlt:j<N
 ·have hlt':j<l.length:=KC
  have ji:=Y51
  have j0:=Y52
  have j1:=Y53
  obtain ⟨b,o,cx,rfl,hb1,hb2,h6,hcc,hlies⟩:=J.lieAll_get l 0 HLA.out j hlt'
  have hcr:∀f,f<6->wr.cell? ⟨b,o+j*6+f,none⟩=cx[f]?:=λf hf=>by
   have:=hcc f hf
   rw [NV] at this
   exact (hMr.old.cell hb2).trans this
  have hdc:=λW (h:Add wr W)=>HK.out ok W mb tab[i].item cx l[j] (d+1) HIT.out hlies (hMr.add h) HD.out
  generalize hx:l[j]=x at hlies hdc
  clear hx
  obtain ⟨n6,t6,a6,na6,l6,c6,nl6,nc6,m6,rfl⟩:=J.lies_cells hlies
  unfold jc at hcr hdc
  have g0:=Y78
  have g1:=Y79
  have g2:=Y80
  have g3:=Y81
  have g4:=Y82
  have g5:=Y83
  clear hcr hcc hlies hb1 hb2 h6
  have hal:=ae wr (.cells #[.int .i64 x.kindI,.int .i64 n6,.string t6,.slice a6 l6 c6,.slice na6 nl6 nc6,.map m6] 85 (0,0))
  obtain ⟨q0,q1,q2,q3,q4,q5,qz⟩:=dF (dD wr (.cells #[.int .i64 x.kindI,.int .i64 n6,.string t6,.slice a6 l6 c6,.slice na6 nl6 nc6,.map m6] 85 (0,0)))
  have h7:wr.cell? ⟨pl i,7,none⟩=some (.pointer (some ⟨pl tab[i].item,0,none⟩)):=(hMr.old.cell HL7.out).trans H7.out
  replace h7:=hal.cell h7
  have HA:=bf hal
  go_upto_region 7 with fail
  generalize hW3:wr.alloc (.cells #[.int .i64 x.kindI,.int .i64 n6,.string t6,.slice a6 l6 c6,.slice na6 nl6 nc6,.map m6] 85 (0,0))=w3 at *
  have HX:=bf (show wr.heap.size<w3.heap.size by rw [<-hW3,dE];omega)
  have HNE:Hid (wr.heap.size≠mb/\pl i≠mb):=⟨NR hMr.lt,by have:=HL7.out;have:=HM.out.new;omega⟩
  clear hW3 qz g0 g1 g2 g3 g4 g5 hal hMr
  obtain ⟨va,vc,hvs⟩:=hI.row.shape
  subst hvs
  obtain ⟨iV,zV,hiV,hzV,hsV,hz6,hbV⟩:=Tryz.infoD6
  have hbyte:=Y107
  clear hI hbV
  go_region_held_law (λw'=>w'.cell? ⟨pl i,7,none⟩=some (.pointer (some ⟨pl tab[i].item,0,none⟩))/\w'.cell? ⟨wr.heap.size,0,none⟩=some (.int .i64 x.kindI)/\w'.cell? ⟨wr.heap.size,1,none⟩=some (.int .i64 n6)/\w'.cell? ⟨wr.heap.size,2,none⟩=some (.string t6)/\w'.cell? ⟨wr.heap.size,3,none⟩=some (.slice a6 l6 c6)/\w'.cell? ⟨wr.heap.size,4,none⟩=some (.slice na6 nl6 nc6)/\w'.cell? ⟨wr.heap.size,5,none⟩=some (.map m6)) (first|(with_reducible exact ⟨e7,e0,e1,e2,e3,e4,e5⟩)|(with_reducible exact ⟨k7,k0,k1,k2,k3,k4,k5⟩)|go_keep)
   (first
   |(go_at_call 127;refine (hdc _ (HA.out.trans (af w3))).mono ?_;rintro e w5 ⟨⟨T,v,rfl⟩|⟨⟨v,rfl,hv⟩,hat⟩,hu5⟩;exact ⟨rfl,.inl ⟨_,_,rfl⟩,HI.out.upd.trans ((HA.out.upd mb).trans (((af w3).upd mb).trans hu5))⟩;obtain ⟨dk,dn,db,dt,dna,dka,dnl,dnc,dkl,dkc,rfl⟩:=hv;unfold dcs;have HU5:=bf ((HA.out.upd mb).trans (((af w3).upd mb).trans hu5));have HAT:=bf hat;have HROW:Hid (Row w5 6 (.slice va j vc) j cs):=HI.out.row.carry (λg hg=>HU5.out.old g (HI.out.row.blk_lt hg) (by have:=HI.out.own g hg;have:=HM0.out;omega));have hu3:=((af w3).upd mb).trans hu5;have k7:=hu3.cell HNE.out.2 h7;have k0:=hu3.cell HNE.out.1 q0;have k1:=hu3.cell HNE.out.1 q1;have k2:=hu3.cell HNE.out.1 q2;have k3:=hu3.cell HNE.out.1 q3;have k4:=hu3.cell HNE.out.1 q4;have k5:=hu3.cell HNE.out.1 q5;have HB:Hid (pl i<w5.heap.size/\blk (.slice va j vc)≠some (pl i)/\wr.heap.size<w5.heap.size/\blk (.slice va j vc)≠some wr.heap.size):=kid_b HI.out HU5.out HL7.out HM.out HX.out hu3.size;clear hat hu5 hu3)
   |(refine dO _ Kl _ _ 28 28 Kl Ke iV zV iV.bytes underlying28 hiV hzV hsV rfl hz6 Kl (HROW.out.alloc _) _ 1 _ Kl (Src.six _ underlying28 _ Kl 42 _ _ _ _ _ _ (Cc _ _ _ _ _ _ _ _ _ _)) Ki (hbyte _ Kc) ?_;intro v8 w8 hrow8 hg8;have HG8:=bf hg8;have HR8:=bf hrow8;obtain ⟨a8,c8,rfl⟩:=hrow8.shape;have e7:=wT hg8 HB.out.1 HB.out.2.1 k7;have e0:=wT hg8 HB.out.2.2.1 HB.out.2.2.2 k0;have e1:=wT hg8 HB.out.2.2.1 HB.out.2.2.2 k1;have e2:=wT hg8 HB.out.2.2.1 HB.out.2.2.2 k2;have e3:=wT hg8 HB.out.2.2.1 HB.out.2.2.2 k3;have e4:=wT hg8 HB.out.2.2.1 HB.out.2.2.2 k4;have e5:=wT hg8 HB.out.2.2.1 HB.out.2.2.2 k5;clear hrow8 hg8))
  all_goals go_wp2
  all_goals go_roundw
  case rel=>exact ⟨j+1,_,by omega,by go_num,HI.out.push HM0.out HU5.out HAT.out HG8.out HR8.out⟩
  simp only [intOf];exact oK hlt
 have ji:=Y54
 obtain ⟨rn,rl,hrm⟩:=hI.mkr
 obtain ⟨r0,r1,rz⟩:=nN hrm
 obtain ⟨va,vc,rfl⟩:=hI.row.shape
 have hst:=nQ 1000 wr Ke Ke hMr.powr
 clear hlt hI hMr r0 rz
 by_cases hbig:1000<wrap64 (rl-ml)
 ·have hb:(1000<wrap64 (rl-ml))=True:=eq_true hbig
  clear hbig
  go_wp2_with (first
   |(go_at_call 68;refine hst.mono ?_;rintro e w6 ⟨s6,rfl,hs6,ha6⟩;have hc6:(9223372036854775807<25+s6.size)=False:=eq_false Kc;have hc7:(9223372036854775807<25+s6.size+25)=False:=eq_false Kc)
   |(go_at_call 81;refine (dR _ _).mono ?_;rintro e w7 ⟨⟨T,v,rfl⟩,hb7⟩))
  exact ⟨rfl,.inl ⟨_,_,rfl⟩,HI.out.upd.trans ((ha6.trans hb7).upd mb)⟩
 have hb:(1000<wrap64 (rl-ml))=False:=eq_false hbig
 clear hbig
 go_wp2
 go_ret
 exact ⟨.inr ⟨⟨_,rfl,⟨_,_,_,rfl⟩⟩,rn,rl,hrm⟩,HI.out.upd⟩
def Y108(h:p:=by exact (((HA5.out.trans ha6).old _ (Oh HB3.out).1).trans HB3.out)):p:=h
theorem Keep.of_old{ok:Nat->Prop}{w w':World}(h:Old w w'):Keep ok w w':=⟨h.size,λi _ hi=>h.old i hi⟩
theorem lies_in{ok:Nat->Prop}{w:World}{j:J}{cs:List Value}(h:j.lies ok w cs):j.lies (λi=>ok i/\i<w.heap.size) w cs:=bP (λ_ ho hb=>⟨ho,hb⟩) _ _ h
def wE(tab:List TNode):Prop:=∀i (h:i<tab.length),∀f∈tab[i].fields,f.1.size<=3000000
theorem told6{w W:World}{B:Nat}{z0 z1 z2 z3 z4 z5:Value}{T:TypeId}(ha:Add w W)(hB:w.heap.size<=B)(hb:W.heap[B]?=some (.cells #[z0,z1,z2,z3,z4,z5] T (0,0)))(v0 v1 v2 v3 v4 v5:Value):Add w (dV W B v0 v1 v2 v3 v4 v5).drew/\(dV W B v0 v1 v2 v3 v4 v5).drew.heap[B]?=some (.cells #[v0,v1,v2,v3,v4,v5] T (0,0)):=by
 have h1:=sP ha hB v0 v1 v2 v3 v4 v5
 have h2:=fF hb v0 v1 v2 v3 v4 v5
 generalize dV W B v0 v1 v2 v3 v4 v5=G at *
 exact ⟨h1.trans (af G),h2⟩
theorem nD(j:J)(K n:Int)(t:ByteArray)(a na:Option Addr)(l c nl nc:Nat)(m:Option Nat)(w:World):
  Calls prog 156 #[.agg #[.int .i64 j.kindI,.int .i64 n,.string t,.slice a l c,.slice na nl nc,.map m],.int .i64 K] w λe w'=>(fV e\/(e=.returned (.agg #[.int .i64 j.kindI,.int .i64 n,.string t,.slice a l c,.slice na nl nc,.map m])/\j.kindI=K))/\Add w w':=by
 by_cases h:j.kindI=K
 ·subst h
  refine (sH j.kindI n t a na l c nl nc m w).mono ?_
  rintro e w' ⟨rfl,ha⟩
  exact ⟨.inr ⟨rfl,rfl⟩,ha⟩
 refine (qb j.kindI K n t a na l c nl nc m w h).mono ?_
 rintro e w' ⟨hs,ha⟩
 exact ⟨.inl hs,ha⟩
theorem GV{wL:World}{tab:List TNode}{pl:Nat->Nat}{k:Nat}(hm:BP wL tab pl k)(hL:Lay wL tab pl)(hNm:wE tab){w:World}{mb:Nat}(hM:Mk wL w mb)(i:Nat)(hi:i<tab.length)(ok:Nat->Prop)(j0:J)(cs0:List Value)(hl:j0.lies ok wL cs0)(d:Int)(hd:d=32-(k:Int))(hk32:k<=32):
  Calls prog 161 #[.pointer (some ⟨mb,0,none⟩),.pointer (some ⟨pl i,0,none⟩),.agg cs0.toArray,.int .i64 d] w λe w'=>Ka isSl mb w e w':=by
 have hT:=hL.lies i hi
 obtain ⟨fa,fc,h3,hfs⟩:=hT.fields
 have hfid:=hL.fields i hi
 have hnms:=hNm i hi
 have hszs:=(hL.sizes i hi).2.2.2
 have HIN:=bf (lies_in hl)
 obtain ⟨n,t,a,na,l,c,nl,nc,m,rfl⟩:=J.lies_cells hl
 generalize tab[i].fields=F at *
 obtain ⟨N,hN⟩:∃N,F.length=N:=⟨_,rfl⟩
 rw [hN] at h3 hszs
 have HN:=bf hN
 have H12:=bf hszs
 have H3:=bf h3
 have HL7:=bf hT.lt
 have HD:Hid (d+1=33-(k:Int)):=Np
 have hd1:IntKind.i64.wrap (d+1)=d+1:=KD
 have HK:=bf hm
 have hck:=λW=>nD j0 6 n t a na l c nl nc m W
 unfold jc
 have HM0:=bf hM
 have hpl:pl i≠w.heap.size:=by have:=hT.lt;have:=hM.old.size;omega
 clear hT hm hL hNm hl hszs hN h3 hd hk32
 have hob:=dD w (.cells #[.int .i64 j0.kindI,.int .i64 n,.string t,.slice a l c,.slice na nl nc,.map m] 85 (0,0))
 have hal:=ae w (.cells #[.int .i64 j0.kindI,.int .i64 n,.string t,.slice a l c,.slice na nl nc,.map m] 85 (0,0))
 have HOB:=bf hob
 have HAL:=bf hal
 obtain ⟨q0,q1,q2,q3,q4,q5,qz⟩:=dF hob
 clear hob hal qz
 go_enter func161,ntmps161
 go_upto_region 1 with fail
 generalize hW1:w.alloc (.cells #[.int .i64 j0.kindI,.int .i64 n,.string t,.slice a l c,.slice na nl nc,.map m] 85 (0,0))=w1 at *
 clear hW1
 go_upto_region 3 with (go_at_call 156;refine (hck _).mono ?_;rintro e w2 ⟨⟨T,v,rfl⟩|⟨rfl,hkj⟩,ha2⟩;exact ⟨rfl,.inl ⟨_,_,rfl⟩,(HAL.out.trans ha2).upd mb⟩)
 have hb2:=(ha2.old _ (Oh HOB.out).1).trans HOB.out
 have hw2:=HAL.out.trans ha2
 have hM2:=HM0.out.add hw2
 have h3:w2.cell? ⟨pl i,3,none⟩=some (.slice fa N fc):=(hM2.old.cell HL7.out).trans H3.out
 have HUW:=bf (hw2.upd mb)
 have HM:=bf hM2
 have HMB:=bf hM2.lt
 have HNB:Hid (w.heap.size≠mb):=NR HM0.out.lt
 have HB2:=bf hb2
 have hK0:KidI mb w2 w2 (.slice none 0 0) 0 []:=⟨Row.nil _ _,λ_ h=>Lm,hM2.at',Upd.refl _ _⟩
 clear hck hkj q0 q1 q2 q3 q4 q5 ha2 hw2 hM2 hb2 HOB HAL HM0 hpl
 go_upto_region 4 with fail
 clear h3
 go_loopw [9,21] (λkv cnt wr=>∃(j:Nat) (cs:List Value),j<=N/\cnt=.int .i64 j/\KidI mb w2 wr kv j cs) (λ_ cnt _=>N-(intOf cnt).toNat)
 case atStart=>exact ⟨0,[],NQ _,rfl,hK0⟩
 obtain ⟨j,cs,hj,rfl,hI⟩:=hrel
 have HI:=bf hI
 have hMr:=HM.out.upd hI.upd hI.mkr
 clear hK0
 by_cases hltj:j<N
 ·have hltF:j<F.length:=by rw [HN.out];exact hltj
  have ji:=Y51
  have j0':(0:Int)<=(j:Int):=Kc
  have j1:=Y53
  have hj12:j<=12:=MI
  rcases hfs with hf0|⟨fbk,fo,rfl,hfbk,hfat⟩
  ·exact Z218
  obtain ⟨aa,al,ac,k',i',tt,a',na',l',c',nl',nc',m',d9,hcells,hdef⟩:=hfat j hltF
  have hfit:F[j].2<tab.length:=hfid F[j] (NS hltF)
  have hfn:F[j].1.size<=3000000:=hnms F[j] (NS hltF)
  have hfc:∀f,f<10->wr.cell? ⟨fbk,fo+j*10+f,none⟩=(fcs F[j].1 aa al ac (pl F[j].2) k' i' tt a' na' l' c' nl' nc' m' d9.isSome)[f]?:=λf hf=>(hMr.old.cell hfbk).trans (hcells f hf)
  generalize hFj:F[j].2=it at hfc hfit
  generalize F[j].1=fn at hfc hfn
  clear hFj hcells hfat hfid hnms
  unfold fcs at hfc
  have c0:=Y96
  have c1:=Y97
  have c2:=Y98
  have c3:=Y99
  have c4:=Y100
  have c5:=Y101
  have c6:=Y102
  have c7:=Y103
  have c8:=Y104
  have c9:wr.cell? ⟨fbk,fo+j*10+9,none⟩=some (.bool d9.isSome):=hfc 9 Kc
  have hbx:=(hI.upd.old w.heap.size (Oh HB2.out).1 HNB.out).trans HB2.out
  have hrl:w.heap.size<wr.heap.size:=(Oh hbx).1
  have HDEF:=bf hdef
  have HFIT:=bf hfit
  have HFN:=bf hfn
  have HMR:=bf hMr
  clear hfc hdef hfit hfn hMr
  go_upto_region 6 with fail
  have hal3:=ae wr (.cells #[.string fn,.slice aa al ac,.pointer (some ⟨pl it,0,none⟩),.int .i64 k',.int .i64 i',.string tt,.slice a' l' c',.slice na' nl' nc',.map m',.bool d9.isSome] 150 (0,0))
  have hb3:=dD wr (.cells #[.string fn,.slice aa al ac,.pointer (some ⟨pl it,0,none⟩),.int .i64 k',.int .i64 i',.string tt,.slice a' l' c',.slice na' nl' nc',.map m',.bool d9.isSome] 150 (0,0))
  replace hbx:=(hal3.old w.heap.size hrl).trans hbx
  have HA3:=bf hal3
  clear c0 c1 c2 c3 c4 c5 c6 c7 c8 c9 hal3
  generalize hW3:wr.alloc (.cells #[.string fn,.slice aa al ac,.pointer (some ⟨pl it,0,none⟩),.int .i64 k',.int .i64 i',.string tt,.slice a' l' c',.slice na' nl' nc',.map m',.bool d9.isSome] 150 (0,0))=w3 at *
  clear hW3
  have HB3:=bf hb3
  have f0:=(dN hb3).1
  obtain ⟨q0,q1,q2,q3,q4,q5,qz⟩:=dF hbx
  have hM3:=HMR.out.add HA3.out
  have hnm:=lZ fn w3 (by have:=HFN.out;omega) (J.lies_carry (Keep.of_old hM3.old) _ _ HIN.out)
  unfold jc at hnm
  obtain ⟨va,vc,hvs⟩:=hI.row.shape
  subst hvs
  obtain ⟨iV,zV,hiV,hzV,hsV,hz6,hbV⟩:=Tryz.infoD6
  have hbyte:=Y107
  have HM3:=bf hM3
  clear hI hbV hb3 hbx qz hM3
  generalize hO:j0.named fn=O at hnm
  cases O with
  |some x=>
   go_upto_region 7 with (go_at_call 146;refine hnm.mono ?_;rintro e w5 ⟨⟨cs5,rfl,hcs⟩,ha5⟩;have hls:=bN (W0:=wL) (λi h=>h.1.2) (λi hi=>(HM3.out.add ha5).old.old i hi) _ _ hcs;obtain ⟨n8,t8,a8,na8,l8,c8,nl8,nc8,m8,rfl⟩:=J.lies_cells hls;have HLS:=bf hls;unfold jc at HLS ⊢;clear hcs hls;have HA5:=bf ha5;clear ha5)
   have ha6:=ae w5 (.cells #[.int .i64 x.kindI,.int .i64 n8,.string t8,.slice a8 l8 c8,.slice na8 nl8 nc8,.map m8] 85 (0,0))
   have hb6:=dD w5 (.cells #[.int .i64 x.kindI,.int .i64 n8,.string t8,.slice a8 l8 c8,.slice na8 nl8 nc8,.map m8] 85 (0,0))
   generalize w5.alloc (.cells #[.int .i64 x.kindI,.int .i64 n8,.string t8,.slice a8 l8 c8,.slice na8 nl8 nc8,.map m8] 85 (0,0))=w6 at ha6 hb6 ⊢
   have hf6:=Y108
   have f2:=(dN hf6).2.2.1
   obtain ⟨p0,p1,p2,p3,p4,p5,pz⟩:=dF hb6
   have HDC:=bf (HK.out _ w6 mb it _ x (d+1) HFIT.out HLS.out (HM3.out.add (HA5.out.trans ha6)) HD.out)
   have HU6:=bf (((HA3.out.trans HA5.out).trans ha6).upd mb)
   clear hnm q0 q1 q2 q3 q4 q5 f0 pz hb6 hf6 ha6
   go_wp2_with (first
    |(go_at_call 127;refine HDC.out.mono ?_;rintro e w8 ⟨⟨T,v,rfl⟩|⟨⟨v,rfl,hv⟩,hat⟩,hu8⟩;exact ⟨rfl,.inl ⟨_,_,rfl⟩,HUW.out.trans (HI.out.upd.trans (HU6.out.trans hu8))⟩;obtain ⟨dk,dn,db,dt,dna,dka,dnl,dnc,dkl,dkc,rfl⟩:=hv;unfold dcs;have HU8:=bf (HU6.out.trans hu8);have HAT:=bf hat;have HROW:Hid (Row w8 6 (.slice va j vc) j cs):=HI.out.row.carry (λg hg=>HU8.out.old g (HI.out.row.blk_lt hg) MM);clear hat hu8)
    |(at_builtin;refine dH _ rfl _ _ 28 28 rfl Ke iV zV iV.bytes underlying28 hiV hzV hsV rfl hz6 rfl (HROW.out.alloc _) _ 1 _ rfl (Src.six _ underlying28 _ rfl 42 _ _ _ _ _ _ (Cc _ _ _ _ _ _ _ _ _ _)) Ki (hbyte _ Kc) ?_;intro v9 w9 hrow9 hg9;have HG9:=bf hg9;have HR9:=bf hrow9;obtain ⟨a9,c9,rfl⟩:=hrow9.shape;clear hrow9 hg9))
   all_goals go_roundw
   case rel=>exact ⟨j+1,_,by omega,by go_num,HI.out.push HMB.out HU8.out HAT.out HG9.out HR9.out⟩
   simp only [intOf];exact oK hltj
  |none=>
   go_upto_region 7 with (go_at_call 146;refine hnm.mono ?_;rintro e w5 ⟨rfl,ha5⟩;have HA5:=bf ha5;clear ha5)
   have ha6:=ae w5 (.cells #[.int .i64 0,.int .i64 0,.string ⟨#[]⟩,.slice none 0 0,.slice none 0 0,.map none] 85 (0,0))
   have hb6:=dD w5 (.cells #[.int .i64 0,.int .i64 0,.string ⟨#[]⟩,.slice none 0 0,.slice none 0 0,.map none] 85 (0,0))
   generalize w5.alloc (.cells #[.int .i64 0,.int .i64 0,.string ⟨#[]⟩,.slice none 0 0,.slice none 0 0,.map none] 85 (0,0))=w6 at ha6 hb6 ⊢
   have hf6:=Y108
   obtain ⟨g0,g1,g2,g3,g4,g5,g6,g7,g8,g9,gz⟩:=dN hf6
   obtain ⟨p0,p1,p2,p3,p4,p5,pz⟩:=dF hb6
   have hne:wr.heap.size≠w5.heap.size:=by have h1:=(Oh HB3.out).1;have h2:=HA5.out.size;omega
   have HB6:=bf hb6
   have HA6:=bf ha6
   have HF6:=bf hf6
   have HNE:=bf hne
   have z0:=pz 0
   have z1:=pz 1
   have z2:=pz 2
   have z3:=pz 3
   have z4:=pz 4
   have z5:=pz 5
   clear hnm q0 q1 q2 q3 q4 q5 f0 hb6 hf6 ha6 gz pz
   go_upto_region 8 with fail
   go_region
   have hQ:=told6 HA6.out (NL _) HB6.out (.int .i64 k') (.int .i64 i') (.string tt) (.slice a' l' c') (.slice na' nl' nc') (.map m')
   unfold dV at hQ
   clear p0 p1 p2 p3 p4 p5 z0 z1 z2 z3 z4 z5 hne g0 g1 g2 g3 g4 g5 g6 g7 g8 g9
   generalize ((((((w6.setCell ⟨w5.heap.size,0,none⟩ (.int .i64 k')).setCell ⟨w5.heap.size,1,none⟩ (.int .i64 i')).setCell ⟨w5.heap.size,2,none⟩ (.string tt)).setCell ⟨w5.heap.size,3,none⟩ (.slice a' l' c')).setCell ⟨w5.heap.size,4,none⟩ (.slice na' nl' nc')).setCell ⟨w5.heap.size,5,none⟩ (.map m')).drew=w7 at hQ ⊢
   obtain ⟨ha7,hb7⟩:=hQ
   have hf7:=((HA5.out.trans ha7).old _ (Oh HB3.out).1).trans HB3.out
   obtain ⟨p0,p1,p2,p3,p4,p5,pz⟩:=dF hb7
   have f0:=(dN hf7).1
   have f2:=(dN hf7).2.2.1
   have HU7:=bf (((HA3.out.trans HA5.out).trans ha7).upd mb)
   cases d9 with
   |none=>
    have hc8:(9223372036854775807<52+fn.size)=False:=eq_false (by have:=HFN.out;omega)
    clear pz hb7 hf7 ha7
    go_wp2_with (go_at_call 81;refine (dR _ _).mono ?_;rintro e w8 ⟨⟨T,v,rfl⟩,hb8⟩)
    all_goals exact ⟨rfl,.inl ⟨_,_,rfl⟩,HUW.out.trans (HI.out.upd.trans (HU7.out.trans (hb8.upd mb)))⟩
   |some jd=>
    have HDC:=bf (HK.out _ w7 mb it _ jd (d+1) HFIT.out HDEF.out (HM3.out.add (HA5.out.trans ha7)) HD.out)
    unfold jc at HDC
    clear pz hb7 hf7 ha7
    go_wp2_with (first
     |(go_at_call 127;refine HDC.out.mono ?_;rintro e w8 ⟨⟨T,v,rfl⟩|⟨⟨v,rfl,hv⟩,hat⟩,hu8⟩;exact ⟨rfl,.inl ⟨_,_,rfl⟩,HUW.out.trans (HI.out.upd.trans (HU7.out.trans hu8))⟩;obtain ⟨dk,dn,db,dt,dna,dka,dnl,dnc,dkl,dkc,rfl⟩:=hv;unfold dcs;have HU8:=bf (HU7.out.trans hu8);have HAT:=bf hat;have HROW:Hid (Row w8 6 (.slice va j vc) j cs):=HI.out.row.carry (λg hg=>HU8.out.old g (HI.out.row.blk_lt hg) MM);clear hat hu8)
     |(at_builtin;refine dH _ rfl _ _ 28 28 rfl Ke iV zV iV.bytes underlying28 hiV hzV hsV rfl hz6 rfl (HROW.out.alloc _) _ 1 _ rfl (Src.six _ underlying28 _ rfl 42 _ _ _ _ _ _ (Cc _ _ _ _ _ _ _ _ _ _)) Ki (hbyte _ Kc) ?_;intro v9 w9 hrow9 hg9;have HG9:=bf hg9;have HR9:=bf hrow9;obtain ⟨a9,c9,rfl⟩:=hrow9.shape;clear hrow9 hg9))
    all_goals go_roundw
    case rel=>exact ⟨j+1,_,by omega,by go_num,HI.out.push HMB.out HU8.out HAT.out HG9.out HR9.out⟩
    simp only [intOf];exact oK hltj
 have ji:=Y54
 obtain ⟨rn,rl,hrm⟩:=hI.mkr
 obtain ⟨va,vc,rfl⟩:=hI.row.shape
 clear hI hMr hltj hj
 go_wp2
 go_ret
 exact ⟨.inr ⟨⟨_,rfl,⟨_,_,_,rfl⟩⟩,rn,rl,hrm⟩,HUW.out.trans HI.out.upd⟩
def Y109(h:p:=by exact (show ∀n,n<=70000->n*iS.bytes<=140737488355328 from λn hn=>NM (Nat.mul_le_mul hn hbS) Ke)):p:=h
theorem Dy(ok:Nat->Prop)(na:Option Addr)(nc:Nat)(ns:List ByteArray)(w:World)(hl:ns.length<=65536)(hs:iK ok w na ns):
  Calls prog 163 #[.slice na ns.length nc] w λe w'=>(∃a c,e=.returned (.slice a ns.length c))/\Add w w':=by
 have q22:∀(w:World) (a:Option Addr) (n c n' c':Nat),(binOp .eql 31 (.slice a n c) (.slice none n' c')).run prog w=.ok (.bool a.isNone) w:=λw a n c n' c'=>Lib.run_eql_slice_nil w _ _ a n c n' c' underlying31
 obtain ⟨iS,zS,hiS,hzS,hsS,hz1,hbS⟩:=Tryz.infoS1
 have hbyS:=Y109
 clear hbS
 cases na with
 |none=>
  have hn:ns=[]:=by
   rcases hs with hs|⟨b,o,h,_⟩
   ·exact hs
   cases h
  subst hn
  clear hs
  go_enter func163,ntmps163
  go_wp2
  go_ret
  exact ⟨⟨_,_,rfl⟩,Add.refl _⟩
 |some ad=>
  have hsrc:∀te,Src prog 1 31 (.slice (some ad) ns.length nc) ns.length (ns.map Value.string) (w.alloc (.cells #[] te)):=by
   intro te
   refine Src.ofSlice _ underlying31 _ _ _ _ Kh (λj u hu=>?_) (λu hu=>by obtain ⟨x,_,rfl⟩:=List.mem_map.1 hu;rfl)
   rcases hs with rfl|⟨b,o,h,_,hb,hc⟩
   ·simp at hu
   cases h
   have hj:j<ns.length:=by have:=(Oi hu).1;simpa using this
   rw [Addr.add_lit]
   refine (ae w _).cell ((hc j hj).trans ?_)
   rw [<-hu]
   simp [List.getElem?_eq_getElem hj]
  have hrow:∀te,Row (w.alloc (.cells #[] te)) 1 (.slice (some ⟨w.heap.size,0,none⟩) 0 0) 0 []:=λte=>.inr ⟨_,_,rfl,by rw [dE];omega,NL _,by unfold maxLen;omega,rfl,λj hj=>by omega,λj hj=>by omega⟩
  generalize hN:ns.length=N at *
  have HB:Hid (N<=65536):=hl
  clear hs hl
  go_enter func163,ntmps163
  go_wp2_with (at_builtin;refine dH _ rfl _ _ 31 31 rfl Ke iS zS iS.bytes underlying31 hiS hzS hsS rfl hz1 rfl (hrow _) _ N _ rfl (hsrc _) KS (hbyS _ Ls) ?_;intro v2 w2 hrow2 hg2;obtain ⟨a2,c2,rfl⟩:=hrow2.shape)
  go_ret
  refine ⟨⟨_,_,rfl⟩,hg2.os,hg2.output,NM Km hg2.size,λi hi=>(hg2.old i Km (λe=>by cases e;exact Nat.lt_irrefl _ hi)).trans (Oc _ _ _ hi)⟩
end
end Go.Proofs.YtceinlbeeahkeaaGreatDoor
