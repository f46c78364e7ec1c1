import Derived.Test.YtmphmjkinmkidaaGreatDoorS34
set_option linter.defProp false
open Go.Proofs.Tryz
set_option maxRecDepth 8000
set_option maxHeartbeats 8000000
open Go Go.RowKit Go.Extern.Stop Go.Stop Go.Extern
namespace Go.Proofs.YtmphmjkinmkidaaGreatDoor
variable{p:Prop}
section
def Y143(h:p:=by exact (show Upd rb w4 (w5.setCell ⟨rb,2,none⟩ (.int .i64 ((l0:Int)+(C:Int)))) from (HA5.out.upd rb).trans (Upd.set rb 2 w5 _))):p:=h
def Y144(h:p:=by exact (HIT.out a1 i1 l1 wr (by have:=HSQ.out;omega) hI1 hu1' hD1')):p:=h
def Z5(h:p:=by
 have qi:((q:Int)<(C:Int))=False:=eq_false Kc
 obtain rfl:q=C:=Kc
 rw [Nat.sub_self,rep] at hrep
 have hbl:=HBL.out
 rw [<-hrep] at hbl
 have HBL2:=bf hbl
 have HI1:=bf hI1
 have HU1:=bf hu1'
 have HD1:=bf hD1'
 have HL1:=bf hl1
 have x1:=hD1'.rdr.c1
 have xr:=hD1'.werr.range.choose_spec.2
 have hv9:=λW' (h:Add wr W')=>nY (hD1'.add h)
 clear hrep hbl hI1 hu1' hD1' hl1 HBL HRR hlt hq
 go_upto_region 15 with fail
 cases so with
 |none=>
  simp only [Option.getD_none]
  refine wp_region_held_drew (S:=(λw'=>w'.cell? ⟨rb,1,none⟩=some (.int .i64 (i1:Int))/\w'.cell? ⟨21,0,none⟩=some r)) Kf ?_ (λhH=>?_)
  ·exact ⟨x1,xr⟩
  apply tk 0
  apply tk 1
  apply tk 2
  apply tu 3
  apply tu 4
  apply tu 5
  apply tu 6
  apply tu 7
  apply tu 8
  apply tu 9
  apply tu 10
  apply tk 11
  apply tk 12
  apply rd 13
  intro K hK
  go_simp
  go_wp2_with (go_at_call 86;refine (hrt _).mono ?_;rintro e w9 ⟨rfl,rfl⟩)
  refine hK.out _ _ ⟨x1,xr⟩ (λhH=>?_)
  clear hK K
  refine wpAnyH_done Kf ?_ _
  have hbl:=HBL2.out
  rw [if_pos Kh] at hbl
  exact Z250
 |some x=>
  simp only [Option.getD_some]
  have hx0:=HSO.out x rfl
  have hxb:(x == -1)=false:=Kr
  have hws:IntKind.i64.wrap ((i1:Int)-(jb:Int))=(i1:Int)-(jb:Int):=by have h1:=HD1.out.le;have h2:=HD1.out.sz;have h3:=HDX.out.le;rw [IntKind.wrap_i64];omega
  by_cases hxe:x=(i1:Int)-(jb:Int)
  ·have hxe':(x==(i1:Int)-(jb:Int))=true:=by rw [beq_iff_eq];exact hxe
   have HXE:=bf hxe
   clear hxe hx0
   refine wp_region_held_drew (S:=(λw'=>w'.cell? ⟨rb,1,none⟩=some (.int .i64 (i1:Int))/\w'.cell? ⟨21,0,none⟩=some r)) Kf ?_ (λhH=>?_)
   ·exact ⟨x1,xr⟩
   apply tk 0
   apply tk 1
   apply tk 2
   apply tk 3
   apply tk 4
   apply tk 5
   apply tk 6
   apply tk 7
   apply tk 8
   apply tk 9
   apply tk 10
   apply tk 11
   apply tk 12
   apply rd 13
   intro K hK
   go_simp
   go_wp2_with (go_at_call 86;refine (hrt _).mono ?_;rintro e w9 ⟨rfl,rfl⟩)
   refine hK.out _ _ ⟨x1,xr⟩ (λhH=>?_)
   clear hK K
   refine wpAnyH_done Kf ?_ _
   have hbl:=HBL2.out
   rw [if_pos (.inr (by rw [HXE.out]))] at hbl
   exact Z250
  have hxe':(x==(i1:Int)-(jb:Int))=false:=by rw [beq_eq_false_iff_ne];exact hxe
  have HXE:=bf hxe
  clear hxe hx0
  refine wp_region_held_drew (S:=(λw'=>w'.cell? ⟨rb,1,none⟩=some (.int .i64 (i1:Int))/\w'.cell? ⟨21,0,none⟩=some r)) Kf ?_ (λhH=>?_)
  ·exact ⟨x1,xr⟩
  apply tk 0
  apply tk 1
  apply tk 2
  apply tk 3
  apply tk 4
  apply tk 5
  apply tk 6
  apply tk 7
  apply tk 8
  apply tk 9
  apply tk 10
  apply tk 11
  apply tk 12
  apply rd 13
  intro K hK
  go_simp
  go_wp2_with (go_at_call 86;refine (hrf _).mono ?_;rintro e w9 ⟨rfl,rfl⟩)
  exact ⟨rfl,HU1.out.trans ((af wr).upd rb),.inl ⟨⟨_,.inr (.inl rfl),rfl⟩,by have h:=HBL2.out;rw [if_neg (by rintro (h|h);cases h;cases h;exact HXE.out rfl)] at h;exact h.symm⟩⟩):p:=h
def Z13(h:p:=by
 by_cases hneg:z<0
 ·have hn':(z<0)=True:=eq_true hneg
  have HNEG:=bf hneg
  rw [decide_eq_true hneg]
  clear hneg
  go_upto_region 6 with (go_at_call 89;refine hv2.mono ?_;rintro e w2 ⟨hu2,⟨⟨x,hx,rfl⟩,hz2⟩|⟨z2,j2,hz2,rfl,hD2,-⟩⟩;exact ⟨rfl,HUR.out.trans hu2,.inl ⟨⟨x,hx,rfl⟩,by have h:=HBL.out;unfold kG at h;rw [HZ.out] at h;simp only [HNEG.out,if_true,hz2] at h;exact h.symm⟩⟩;have hrc2:=hu2.cell (by have:=HNG.out;omega) hrc;have HU2:=bf hu2;have HZ2:=bf hz2;have HD2:=bf hD2;have HVO2:=bf (iX hz2);clear hu2 hz2 hD2)
  clear hv2 hrc
  by_cases hgood:0<=z2 /\ -9223372036854775808<z
  ·have g1:(0<=z2)=True:=eq_true hgood.1
   have g2:(-9223372036854775808<z)=True:=eq_true hgood.2
   have hnw:wrap64 (-z) = -z:=by have h1:=HVO.out;unfold wrap64;omega
   have HGD:=bf hgood
   clear hgood
   go_wp2_with (go_at_call 86;refine (hrt _).mono ?_;rintro e w3 ⟨rfl,rfl⟩)
   go_meet
   exact ⟨-z,some z2,j2,by rw [hnw],rfl,by unfold kG;rw [HZ.out];simp only [HNEG.out,if_true,HZ2.out];rw [if_pos HGD.out],by have:=HNEG.out;omega,by have:=HGD.out;omega,λx hx=>by cases hx;exact ⟨HGD.out.1,HVO2.out.1.2⟩,HINV.out _ _ _ HIR.out HU2.out,HUR.out.trans HU2.out,HD2.out⟩
  have HGD:=bf hgood
  have hp:(decide (0<=z2)&&decide (-9223372036854775808<z))=false:=by
   by_cases h1:0<=z2
   ·rw [decide_eq_false (λh2=>hgood ⟨h1,h2⟩),Bool.and_false]
   rw [decide_eq_false h1,Bool.false_and]
  have HRN:Hid (R=none):=by
   show _=_
   have h:=HBL.out
   unfold kG at h
   rw [HZ.out] at h
   simp only [HNEG.out,if_true,HZ2.out] at h
   rw [if_neg HGD.out] at h
   exact h.symm
  by_cases h1:0<=z2
  ·have g1:(0<=z2)=True:=eq_true h1
   have g2:(-9223372036854775808<z)=False:=eq_false (λh2=>hgood ⟨h1,h2⟩)
   exact Z256
  have g1:(0<=z2)=False:=eq_false h1
  exact Z256
 have hn':(z<0)=False:=eq_false hneg
 have HNEG:=bf hneg
 rw [decide_eq_false hneg]
 clear hneg hv2 hrc
 go_wp2
 go_meet
 exact ⟨z,none,j0,rfl,rfl,by unfold kG;rw [HZ.out];exact if_neg (by have:=HNEG.out;omega),by have h1:=HNEG.out;have h2:=HZ0.out;omega,HVO.out.1.2,λx hx=>(by cases hx),HIR.out,HUR.out,HDR.out⟩):p:=h
def Z52(h:p:=by
 rw [if_neg hcl] at hbl
 have hcl':((C:Int)<=1000-(l0:Int))=False:=eq_false hcl
 have HBL:=bf hbl
 clear hbl hcl
 go_upto_region 8 with fail
 go_region_dies
 all_goals (go_wp2_with (go_at_call 86;refine (hmf _).mono ?_;rintro e w5 ⟨rfl,rfl⟩))
 all_goals exact ⟨rfl,HUX.out.trans ((af w4).upd rb),.inl ⟨⟨_,.inr (.inr (.inr rfl)),rfl⟩,HBL.out.symm⟩⟩):p:=h
def Z53(h:p:=by
 go_roundw
 case rel=>exact ⟨q+1,i8,l8,a8,by omega,by go_num,by have h1:=HREP.out;rw [hO] at h1;exact h1,NM HL1.out (HLM.out a8 i8 l8 HLB1.out.1 HLB1.out.2 hO),by have h1:=HSZ.out _ _ _ _ _ _ hO;have h2:=HSQ.out;have h3:=HLM.out a8 i8 l8 HLB1.out.1 HLB1.out.2 hO;omega,hI8,hu8,hD8⟩
 simp only [intOf];exact oK hlt):p:=h
def Z56(h:p:=by
 subst hz0
 have hh:kG t i0=some (0,none,j0):=by unfold kG;rw [hz];rfl
 rw [hh] at hbl
 have HBL:=bf hbl
 have HIR:=bf hIr
 have HUR:=bf hur
 have HDR:=bf hDr
 clear hbl hIr hur hDr hh hz hvo hlb hfl
 go_wp2
 go_end0
 exact ⟨HUR.out,.inr ⟨a,j0,l0,by rw [<-HBL.out];rfl,rfl,HIR.out,HDR.out⟩⟩):p:=h
def Z250(h:p:=by
 have HBL:=bf hbl
 have hv:=hv9 wr.drew (af wr)
 have HFV:=bf (show 1<=f by have h1:=HFL.out;have h2:=HL1.out;have h3:=HD1.out.lb;omega)
 clear hbl hv9 x1 xr
 go_wp2_with (go_at_call 89;refine hv.mono ?_;rintro e w10 ⟨hu10,⟨⟨x,hx,rfl⟩,hz10⟩|⟨z10,j10,hz10,rfl,hD10,-⟩⟩;exact ⟨rfl,HU1.out.trans (((af wr).upd rb).trans hu10),.inl ⟨⟨x,hx,rfl⟩,by have h1:=HBL.out;obtain ⟨f',hf'⟩:∃f',f=f'+1:=⟨f-1,by have:=HFV.out;omega⟩;rw [hf',eB] at h1;unfold kG at h1;rw [hz10] at h1;exact h1.symm⟩⟩)
 go_roundw
 case rel=>exact ⟨f,i1,l1,j10,a1,z10,rfl,hz10,by have h1:=HFL.out;have h2:=HL1.out;omega,by have h1:=HSQ.out;omega,HBL.out,HINV.out _ _ _ (HINV.out _ _ _ HI1.out ((af wr).upd rb)) hu10,HU1.out.trans (((af wr).upd rb).trans hu10),hD10⟩
 have h1:=hD10.rdr.c2;have h2:=HDR.out.rdr.c2;rw [h1,h2];simp only [intOf];have h3:=HL1.out;have h4:=HLB.out;have h5:=HC0.out;omega):p:=h
def Z256(h:p:=by
 clear hgood h1 hp
 go_wp2_with (go_at_call 86;refine (hrf _).mono ?_;rintro e w3 ⟨rfl,rfl⟩)
 exact ⟨rfl,HUR.out.trans HU2.out,.inl ⟨⟨_,.inr (.inl rfl),rfl⟩,HRN.out⟩⟩):p:=h
def ET{α:Type}(O:Option (α × Nat × Nat))(Inv:α->World->Prop)(w0 W:World)(tab:List TNode)(pl:Nat->Nat)(rb:Nat)(t:ByteArray)(s r d m:Value)(e:Ending)(w':World):Prop:=
 Upd rb w0 w'/\((pg s r d m e/\O=none)\/∃a j l,O=some (a,j,l)/\e=.returned (.tuple #[])/\Inv a w'/\Dcd W w' tab pl rb t s r d m j l)
theorem Rdr.listed{w:World}{rb:Nat}{t:ByteArray}{i l:Int}(h:Rdr w rb t i l)(j:Int):Rdr (w.setCell ⟨rb,2,none⟩ (.int .i64 j)) rb t i j:=by
 obtain ⟨a,b,c,d,e⟩:=h
 exact ⟨(Ob _ _ _ _ Kh).trans a,(Ob _ _ _ _ Kh).trans b,Oe _ _ _ c,by rw [Od];exact d,by rw [Od];exact e⟩
theorem Ee{α:Type}{item:α->Nat->Nat->Option (α × Nat × Nat)}{Inv:α->World->Prop}{W w0 w:World}{tab:List TNode}{pl:Nat->Nat}{rb:Nat}{t:ByteArray}{s r d m:Value}{i l:Nat}(c1 c2 c3 c4:Value)(a0:α)(sz:α->Nat)(hz0:sz a0<=l)(hI:Inv a0 w)(hu0:Upd rb w0 w)(hD:Dcd W w tab pl rb t s r d m i l)
  (hinv:∀a wr w',Inv a wr->Upd rb wr w'->Inv a w') (hle:∀a i l a' j l',l<=1000->i<=t.size->item a i l=some (a',j,l')->l<=l') (hsz:∀a i l a' j l',item a i l=some (a',j,l')->sz a'=sz a+1)
  (hit:∀a i l wr,sz a<l->Inv a wr->Upd rb w0 wr->Dcd W wr tab pl rb t s r d m i l->Calls prog 133 #[c1,c2,c3,c4] wr λe w'=>ET (item a i l) Inv w0 W tab pl rb t s r d m e w'):
  Calls prog 132 #[.pointer (some ⟨rb,0,none⟩),.func (.func 133) #[] #[c1,c2,c3,c4]] w λe w'=>ET (eB t item 1001 a0 i l) Inv w0 W tab pl rb t s r d m e w':=by
 have HINV:=bf hinv
 have HLE:=bf hle
 have HSZ:=bf hsz
 have HZ00:=bf hz0
 have HIT:=bf hit
 have HU0:=bf hu0
 have HI:=bf hI
 have hv0:=nY hD
 generalize hR:eB t item 1001 a0 i l=R
 have HR:=bf hR
 have HL:=bf hD.lb
 clear hinv hle hsz hz0 hit hu0 hI hD hR
 go_enter func132,ntmps132
 go_wp2_with (go_at_call 89;refine hv0.mono ?_;rintro e w1 ⟨hu1,⟨⟨x,hx,rfl⟩,hz⟩|⟨z,j,hz,rfl,hD1,-⟩⟩;exact ⟨rfl,HU0.out.trans hu1,.inl ⟨⟨x,hx,rfl⟩,by rw [<-HR.out,eB];unfold kG;rw [hz]⟩⟩)
 have HZ:=bf hz
 have HU1:=bf hu1
 have HD1:=bf hD1
 clear hv0 hz hu1 hD1
 go_loopw [4] (λcnt wr=>∃(f i0 l0 j0:Nat) (a:α) (z:Int),cnt=.int .i64 z/\lT t i0=some (z,j0)/\1001<=f+l0/\sz a<=l0/\eB t item f a i0 l0=R/\Inv a wr/\Upd rb w0 wr/\Dcd W wr tab pl rb t s r d m j0 l0) (λ_ wr=>1001-(match wr.cell? ⟨rb,2,none⟩ with|some v=>(intOf v).toNat|none=>0))
 case atStart=>exact ⟨1001,i,l,j,a0,z,rfl,HZ.out,by omega,HZ00.out,HR.out,HINV.out _ _ _ HI.out HU1.out,HU0.out.trans HU1.out,HD1.out⟩
 obtain ⟨f,i0,l0,j0,a,z,rfl,hz,hfl,hsa,hbl,hIr,hur,hDr⟩:=hrel
 have HSA:=bf hsa
 clear hsa
 clear HZ HU1 HD1
 have hvo:=iX hz
 have hlb:=hDr.lb
 obtain ⟨f,rfl⟩:∃f',f=f'+1:=⟨f-1,by omega⟩
 rw [eB] at hbl
 by_cases hz0:z=0
 ·exact Z56
 have hzb:(z==0)=false:=Nn
 have hzn:(z != 0)=true:=by rw [bne,hzb];rfl
 have HZ:=bf hz
 have HBL:=bf hbl
 have HIR:=bf hIr
 have HUR:=bf hur
 have HDR:=bf hDr
 have HZ0:=bf hz0
 have HVO:=bf hvo
 have HLB:=bf hlb
 have HFL:=bf hfl
 obtain ⟨rT,hrT,hrc⟩:=hDr.werr.range
 obtain ⟨mT,hmT,hmc⟩:=hDr.werr.many
 have hrt:∀W,Calls prog 86 #[.bool true,r] W λe w'=>e=.returned (.tuple #[])/\w'=W:=λW=>by rw [hrT];exact gN _ _ W
 have hrf:∀W,Calls prog 86 #[.bool false,r] W λe w'=>e=.panicked (gF r)/\w'=W:=λW=>by rw [hrT];exact gV _ _ W
 have hmt:∀W,Calls prog 86 #[.bool true,m] W λe w'=>e=.returned (.tuple #[])/\w'=W:=λW=>by rw [hmT];exact gN _ _ W
 have hmf:∀W,Calls prog 86 #[.bool false,m] W λe w'=>e=.panicked (gF m)/\w'=W:=λW=>by rw [hmT];exact gV _ _ W
 clear hrT hmT
 have HNG:=bf hDr.rbn
 have hv2:=nY hDr
 clear hz hbl hIr hur hDr hz0 hvo hlb hfl
 go_upto_if 14 with fail
 go_cut [4,5] from 9 to 67 (λs4 s5 wx=>∃(c:Int) (so:Option Int) (jb:Nat),s4=.int .i64 c/\s5=.int .i64 (so.getD (-1))/\kG t i0=some (c,so,jb)/\0<c/\c<=9223372036854775807/\(∀x,so=some x->0<=x/\x<=9223372036854775807)/\Inv a wx/\Upd rb w0 wx/\Dcd W wx tab pl rb t s r d m jb l0)
 case first=>
  exact Z13
 obtain ⟨c,so,jb,rfl,rfl,hh,hc0,hc1,hso,hIx,hux,hDx⟩:=hcut
 generalize wc=w4 at *
 obtain ⟨C,rfl⟩:∃C:Nat,c=C:=⟨c.toNat,by omega⟩
 have hbl:=HBL.out
 rw [hh] at hbl
 simp only [show ¬ ((C:Int)=0) by omega,if_false,Int.toNat_natCast] at hbl
 have HSO:=bf hso
 have HIX:=bf hIx
 have HUX:=bf hux
 have HDX:=bf hDx
 have HC0:Hid (0<C):=by show _<_;omega
 have x2:=hDx.rdr.c2
 have x1:=hDx.rdr.c1
 have xm:=hDx.werr.many.choose_spec.2
 have xr:=hDx.werr.range.choose_spec.2
 have xf:=hDx.rdr.f2
 have hlb4:=hDx.lb
 clear hv2 hrc hmc hh hso hIx hux hDx HBL
 have hw1:IntKind.i64.wrap (1000-(l0:Int))=1000-(l0:Int):=KD
 by_cases hcl:(C:Int)<=1000-(l0:Int)
 ·rw [if_pos hcl] at hbl
  have hcl':((C:Int)<=1000-(l0:Int))=True:=eq_true hcl
  have HCL:=bf hcl
  have HBL:=bf hbl
  have hw2:IntKind.i64.wrap ((l0:Int)+(C:Int))=(l0:Int)+(C:Int):=KD
  have hw3:wrap64 ((l0:Int)+(C:Int))=(l0:Int)+(C:Int):=Kn
  clear hbl hcl
  go_upto_region 8 with fail
  go_quiet ((go_at_call 86;exact Calls.quiet_of_same (hmt _)))
  have hA5:Add w4 (w4.drewN nq):=Add.drewN w4 nq
  generalize w4.drewN nq=w5 at hA5 ⊢
  have hD5:=HDX.out.add hA5
  have y2:=hD5.rdr.c2
  have y1:=hD5.rdr.c1
  have yf:=hD5.rdr.f2
  have HD5:=bf hD5
  have HA5:=bf hA5
  clear x1 x2 xm xr xf hD5 hA5 hw1 hcl' hmt hmf
  go_upto_region 11 with fail
  have hu6:=Y143
  have hr6:=HD5.out.rdr.listed ((l0:Int)+(C:Int))
  generalize w5.setCell ⟨rb,2,none⟩ (.int .i64 ((l0:Int)+(C:Int)))=w6 at hu6 hr6 ⊢
  rw [<-Int.natCast_add] at hr6
  have hl6:l0+C<=1000:=by have:=HCL.out;omega
  have hD6:=HDX.out.step hu6 hr6 HDX.out.le hl6
  have HI6:=bf (HINV.out _ _ _ HIX.out hu6)
  have HU6:=bf (HUX.out.trans hu6)
  have HD6:=bf hD6
  have HL6:=bf hl6
  have hC1000:C<=1000:=Kc
  generalize hRR:rep item C a jb (l0+C)=RR at *
  have HRR:=bf hRR
  clear y1 y2 yf hu6 hr6 hD6 hl6 hRR hw2 hw3
  go_wp2
  go_loopw [49] (λcnt wr=>∃(q i1 l1:Nat) (a1:α),q<=C/\cnt=.int .i64 q/\rep item (C-q) a1 i1 l1=RR/\l0+C<=l1/\sz a1+(C-q)<=l1/\Inv a1 wr/\Upd rb w0 wr/\Dcd W wr tab pl rb t s r d m i1 l1) (λcnt _=>C-(intOf cnt).toNat)
  case atStart=>exact ⟨0,jb,l0+C,a,NQ _,rfl,HRR.out,NL _,by have:=HSA.out;omega,HI6.out,HU6.out,HD6.out⟩
  obtain ⟨q,i1,l1,a1,hq,rfl,hrep,hl1,hsq,hI1,hu1',hD1'⟩:=hrel
  have HSQ:=bf hsq
  clear hsq
  by_cases hlt:q<C
  ·have qi:((q:Int)<(C:Int))=True:=eq_true Kc
   have ecq:C-q=(C-(q+1))+1:=Kc
   rw [ecq,rep] at hrep
   have hitm:=Y144
   have HREP:=bf hrep
   have HLM:=bf (HLE.out a1 i1 l1)
   have HLB1:Hid (l1<=1000/\i1<=t.size):=⟨hD1'.lb,hD1'.le⟩
   have HL1:=bf hl1
   clear hrep hI1 hu1' hD1' hl1 ecq hq
   go_wp2_with (go_at_call 133;refine hitm.mono ?_;rintro e w8 ⟨hu8,⟨⟨x,hx,rfl⟩,hO⟩|⟨a8,i8,l8,hO,rfl,hI8,hD8⟩⟩;exact ⟨rfl,hu8,.inl ⟨⟨x,hx,rfl⟩,by have h1:=HREP.out;rw [hO] at h1;have h2:=HBL.out;rw [<-h1] at h2;exact h2.symm⟩⟩)
   exact Z53
  exact Z5
 exact Z52
end
end Go.Proofs.YtmphmjkinmkidaaGreatDoor
