import Derived.Test.YtmphmjkinmkidaaGreatDoorS36
set_option linter.defProp false
open Go.Proofs.Tryz
set_option maxRecDepth 8000
set_option maxHeartbeats 8000000
namespace Go.Proofs.YtmphmjkinmkidaaGreatDoor
variable{p:Prop}
section
open Go Go.RowKit Go.Extern.Stop Go.Stop Go.Extern
def Y184(h:p:=by exact (dE w (.cells #[.pointer (some ⟨rb,0,none⟩)] 138 (0,0)))):p:=h
def Y185(h:p:=by exact (dD w (.cells #[.pointer (some ⟨rb,0,none⟩)] 138 (0,0)))):p:=h
def Y186(h:p:=by exact (ae w1 (.cells #[.pointer (some ⟨pid,0,none⟩)] 53 (0,0)))):p:=h
def Y187(h:p:=by exact (dE w1 (.cells #[.pointer (some ⟨pid,0,none⟩)] 53 (0,0)))):p:=h
def Y188(h:p:=by exact (dD w1 (.cells #[.pointer (some ⟨pid,0,none⟩)] 53 (0,0)))):p:=h
def Y189(h:p:=by exact (dD w2 (.cells #[.int .i64 dep] 3 (0,0)))):p:=h
theorem ArI.new(w:World)(rb pid:Nat)(dep:Int)(hrb:rb<w.heap.size):ArI w.heap.size rb pid dep [] ((((w.alloc (.cells #[.pointer (some ⟨rb,0,none⟩)] 138 (0,0))).alloc (.cells #[.pointer (some ⟨pid,0,none⟩)] 53 (0,0))).alloc (.cells #[.int .i64 dep] 3 (0,0))).alloc (.cells #[.slice none 0 0] 28 (0,0))):=by
 have s1:=Y184
 have b1:=Y185
 generalize w.alloc (.cells #[.pointer (some ⟨rb,0,none⟩)] 138 (0,0))=w1 at *
 have a2:=Y186
 have s2:=Y187
 have b2:=Y188
 generalize w1.alloc (.cells #[.pointer (some ⟨pid,0,none⟩)] 53 (0,0))=w2 at *
 have a3:=ae w2 (.cells #[.int .i64 dep] 3 (0,0))
 have s3:=dE w2 (.cells #[.int .i64 dep] 3 (0,0))
 have b3:=Y189
 generalize w2.alloc (.cells #[.int .i64 dep] 3 (0,0))=w3 at *
 have a4:=ae w3 (.cells #[.slice none 0 0] 28 (0,0))
 have b4:=dD w3 (.cells #[.slice none 0 0] 28 (0,0))
 generalize w3.alloc (.cells #[.slice none 0 0] 28 (0,0))=w4 at *
 rw [s1] at b2
 rw [s2,s1] at b3
 rw [s3,s2,s1] at b4
 have c1:w1.cell? ⟨w.heap.size,0,none⟩=some (.pointer (some ⟨rb,0,none⟩)):=by unfold World.cell?;rw [b1];rfl
 have c2:w2.cell? ⟨w.heap.size+1,0,none⟩=some (.pointer (some ⟨pid,0,none⟩)):=KY
 have c3:w3.cell? ⟨w.heap.size+2,0,none⟩=some (.int .i64 dep):=by unfold World.cell?;rw [b3];rfl
 have c4:w4.cell? ⟨w.heap.size+3,0,none⟩=some (.slice none 0 0):=by unfold World.cell?;rw [b4];rfl
 exact ⟨a4.cell (a3.cell (a2.cell c1)),a4.cell (a3.cell c2),a4.cell c3,⟨_,_,c4,by unfold World.frozen?;rw [b4];simp,KidD.nil _ _⟩,hrb⟩
theorem GG{tab:List TNode}{pl:Nat->Nat}{t:ByteArray}{dep:Int}{g:Nat->Nat->Nat->DR}(hg:uj tab pl t dep g)(hgl:∀id i l x j l',l<=1000->i<=t.size->g id i l=some (x,j,l')->l<=l')(id:Nat)(hid:id<tab.length)(hk:tab[id].kind=11\/tab[id].kind=12){W w:World}{rb:Nat}{s r d m:Value}{i l:Nat}(hD:Dcd W w tab pl rb t s r d m i l):
  Calls prog 96 #[.pointer (some ⟨rb,0,none⟩),.pointer (some ⟨pl id,0,none⟩),.int .i64 dep] w λe w'=>Ib (eB t (lC g tab[id].item) 1001 [] i l) W tab pl rb t s r d m w e w':=by
 have hmf:=Y37
 have hI:=ArI.new w rb (pl id) dep hD.rdr.lt
 have hA:Add w ((((w.alloc (.cells #[.pointer (some ⟨rb,0,none⟩)] 138 (0,0))).alloc (.cells #[.pointer (some ⟨pl id,0,none⟩)] 53 (0,0))).alloc (.cells #[.int .i64 dep] 3 (0,0))).alloc (.cells #[.slice none 0 0] 28 (0,0))):=(((ae _ _).trans (ae _ _)).trans (ae _ _)).trans (ae _ _)
 have hA3:Add w (((w.alloc (.cells #[.pointer (some ⟨rb,0,none⟩)] 138 (0,0))).alloc (.cells #[.pointer (some ⟨pl id,0,none⟩)] 53 (0,0))).alloc (.cells #[.int .i64 dep] 3 (0,0))):=((ae _ _).trans (ae _ _)).trans (ae _ _)
 generalize hR:eB t (lC g tab[id].item) 1001 [] i l=R
 have HR:=bf hR
 have HB:=bf (λw4 (hI:ArI w.heap.size rb (pl id) dep [] w4) (hA:Add w w4)=>Ee (item:=lC g tab[id].item) (Inv:=ArI w.heap.size rb (pl id) dep) (w0:=w) (w:=w4) (.pointer (some ⟨w.heap.size+3,0,none⟩)) (.pointer (some ⟨w.heap.size,0,none⟩)) (.pointer (some ⟨w.heap.size+1,0,none⟩)) (.pointer (some ⟨w.heap.size+2,0,none⟩)) [] List.length (NQ _) hI (hA.upd rb) (hD.add hA) (λa wr w' h u=>h.upd u) (λa i l a' j l' hl hi h=>(by unfold lC at h;cases hc:g tab[id].item i l with|none=>rw [hc] at h;cases h|some p=>obtain ⟨x,j2,l2⟩:=p;rw [hc] at h;cases h;exact hgl _ _ _ _ _ _ hl hi hc)) (λa i l a' j l' h=>(by unfold lC at h;cases hc:g tab[id].item i l with|none=>rw [hc] at h;cases h|some p=>obtain ⟨x,j2,l2⟩:=p;rw [hc] at h;cases h;simp)) (λa i l wr hs hI hu hD=>IM hg id hid hk hI hu hD (by have:=hD.lb;omega)))
 clear hR hgl hg hD
 go_enter func96,ntmps96
 go_upto_region 2 with fail
 generalize ((((w.alloc (.cells #[.pointer (some ⟨rb,0,none⟩)] 138 (0,0))).alloc (.cells #[.pointer (some ⟨pl id,0,none⟩)] 53 (0,0))).alloc (.cells #[.int .i64 dep] 3 (0,0))).alloc (.cells #[.slice none 0 0] 28 (0,0)))=w4 at hI hA ⊢
 have hbk:=HB.out w4 hI hA
 rw [HR.out] at hbk
 have q3:=hI.c3
 clear hI hA hA3
 go_wp2_with (go_at_call 132;refine hbk.mono ?_;rintro e w5 ⟨hu5,⟨⟨x,hx,rfl⟩,hO⟩|⟨a5,j5,l5,hO,rfl,hI5,hD5⟩⟩;exact ⟨rfl,hu5,.inl ⟨⟨x,hx,rfl⟩,hO⟩⟩;obtain ⟨v5,cells5,ck5,-,hK5⟩:=hI5.kd)
 go_ret
 exact ⟨hu5,.inr ⟨a5,j5,l5,_,cells5,hO,rfl,⟨hK5.row,λg hg=>NM (Nat.le_add_right _ 4) (hK5.own g hg),aw (λb hb _=>⟨NM (Nat.le_add_right _ 4) hb.1,hb.2⟩) _ _ hK5.lie⟩,hD5⟩⟩
theorem DQ{α:Type}{item:α->Nat->Nat->Option (α × Nat × Nat)}{Inv:α->World->Prop}{W w0 w:World}{tab:List TNode}{pl:Nat->Nat}{rb:Nat}{t:ByteArray}{s r d m:Value}{i l:Nat}(c1 c2 c3 c4 c5 c6:Value)(a0:α)(sz:α->Nat)(hz0:sz a0<=l)(hI:Inv a0 w)(hu0:Upd rb w0 w)(hD:Dcd W w tab pl rb t s r d m i l)
  (hinv:∀a wr w',Inv a wr->Upd rb wr w'->Inv a w') (hle:∀a i l a' j l',l<=1000->i<=t.size->item a i l=some (a',j,l')->l<=l') (hsz:∀a i l a' j l',item a i l=some (a',j,l')->sz a'=sz a+1)
  (hit:∀a i l wr,sz a<l->Inv a wr->Upd rb w0 wr->Dcd W wr tab pl rb t s r d m i l->Calls prog 134 #[c1,c2,c3,c4,c5,c6] wr λe w'=>ET (item a i l) Inv w0 W tab pl rb t s r d m e w'):
  Calls prog 132 #[.pointer (some ⟨rb,0,none⟩),.func (.func 134) #[] #[c1,c2,c3,c4,c5,c6]] w λe w'=>ET (eB t item 1001 a0 i l) Inv w0 W tab pl rb t s r d m e w':=by
 have HINV:=bf hinv
 have HLE:=bf hle
 have HSZ:=bf hsz
 have HZ00:=bf hz0
 have HIT:=bf hit
 have HU0:=bf hu0
 have HI:=bf hI
 have hv0:=nY hD
 generalize hR:eB t item 1001 a0 i l=R
 have HR:=bf hR
 have HL:=bf hD.lb
 clear hinv hle hsz hz0 hit hu0 hI hD hR
 go_enter func132,ntmps132
 go_wp2_with (go_at_call 89;refine hv0.mono ?_;rintro e w1 ⟨hu1,⟨⟨x,hx,rfl⟩,hz⟩|⟨z,j,hz,rfl,hD1,-⟩⟩;exact ⟨rfl,HU0.out.trans hu1,.inl ⟨⟨x,hx,rfl⟩,by rw [<-HR.out,eB];unfold kG;rw [hz]⟩⟩)
 have HZ:=bf hz
 have HU1:=bf hu1
 have HD1:=bf hD1
 clear hv0 hz hu1 hD1
 go_loopw [4] (λcnt wr=>∃(f i0 l0 j0:Nat) (a:α) (z:Int),cnt=.int .i64 z/\lT t i0=some (z,j0)/\1001<=f+l0/\sz a<=l0/\eB t item f a i0 l0=R/\Inv a wr/\Upd rb w0 wr/\Dcd W wr tab pl rb t s r d m j0 l0) (λ_ wr=>1001-(match wr.cell? ⟨rb,2,none⟩ with|some v=>(intOf v).toNat|none=>0))
 case atStart=>exact ⟨1001,i,l,j,a0,z,rfl,HZ.out,by omega,HZ00.out,HR.out,HINV.out _ _ _ HI.out HU1.out,HU0.out.trans HU1.out,HD1.out⟩
 obtain ⟨f,i0,l0,j0,a,z,rfl,hz,hfl,hsa,hbl,hIr,hur,hDr⟩:=hrel
 have HSA:=bf hsa
 clear hsa
 clear HZ HU1 HD1
 have hvo:=iX hz
 have hlb:=hDr.lb
 obtain ⟨f,rfl⟩:∃f',f=f'+1:=⟨f-1,by omega⟩
 rw [eB] at hbl
 by_cases hz0:z=0
 ·exact Z56
 have hzb:(z==0)=false:=Nn
 have hzn:(z != 0)=true:=by rw [bne,hzb];rfl
 have HZ:=bf hz
 have HBL:=bf hbl
 have HIR:=bf hIr
 have HUR:=bf hur
 have HDR:=bf hDr
 have HZ0:=bf hz0
 have HVO:=bf hvo
 have HLB:=bf hlb
 have HFL:=bf hfl
 obtain ⟨rT,hrT,hrc⟩:=hDr.werr.range
 obtain ⟨mT,hmT,hmc⟩:=hDr.werr.many
 have hrt:∀W,Calls prog 86 #[.bool true,r] W λe w'=>e=.returned (.tuple #[])/\w'=W:=λW=>by rw [hrT];exact gN _ _ W
 have hrf:∀W,Calls prog 86 #[.bool false,r] W λe w'=>e=.panicked (gF r)/\w'=W:=λW=>by rw [hrT];exact gV _ _ W
 have hmt:∀W,Calls prog 86 #[.bool true,m] W λe w'=>e=.returned (.tuple #[])/\w'=W:=λW=>by rw [hmT];exact gN _ _ W
 have hmf:∀W,Calls prog 86 #[.bool false,m] W λe w'=>e=.panicked (gF m)/\w'=W:=λW=>by rw [hmT];exact gV _ _ W
 clear hrT hmT
 have HNG:=bf hDr.rbn
 have hv2:=nY hDr
 clear hz hbl hIr hur hDr hz0 hvo hlb hfl
 go_upto_if 14 with fail
 go_cut [4,5] from 9 to 67 (λs4 s5 wx=>∃(c:Int) (so:Option Int) (jb:Nat),s4=.int .i64 c/\s5=.int .i64 (so.getD (-1))/\kG t i0=some (c,so,jb)/\0<c/\c<=9223372036854775807/\(∀x,so=some x->0<=x/\x<=9223372036854775807)/\Inv a wx/\Upd rb w0 wx/\Dcd W wx tab pl rb t s r d m jb l0)
 case first=>
  exact Z13
 obtain ⟨c,so,jb,rfl,rfl,hh,hc0,hc1,hso,hIx,hux,hDx⟩:=hcut
 generalize wc=w4 at *
 obtain ⟨C,rfl⟩:∃C:Nat,c=C:=⟨c.toNat,by omega⟩
 have hbl:=HBL.out
 rw [hh] at hbl
 simp only [show ¬ ((C:Int)=0) by omega,if_false,Int.toNat_natCast] at hbl
 have HSO:=bf hso
 have HIX:=bf hIx
 have HUX:=bf hux
 have HDX:=bf hDx
 have HC0:Hid (0<C):=by show _<_;omega
 have x2:=hDx.rdr.c2
 have x1:=hDx.rdr.c1
 have xm:=hDx.werr.many.choose_spec.2
 have xr:=hDx.werr.range.choose_spec.2
 have xf:=hDx.rdr.f2
 have hlb4:=hDx.lb
 clear hv2 hrc hmc hh hso hIx hux hDx HBL
 have hw1:IntKind.i64.wrap (1000-(l0:Int))=1000-(l0:Int):=KD
 by_cases hcl:(C:Int)<=1000-(l0:Int)
 ·rw [if_pos hcl] at hbl
  have hcl':((C:Int)<=1000-(l0:Int))=True:=eq_true hcl
  have HCL:=bf hcl
  have HBL:=bf hbl
  have hw2:IntKind.i64.wrap ((l0:Int)+(C:Int))=(l0:Int)+(C:Int):=KD
  have hw3:wrap64 ((l0:Int)+(C:Int))=(l0:Int)+(C:Int):=Kn
  clear hbl hcl
  go_upto_region 8 with fail
  go_quiet ((go_at_call 86;exact Calls.quiet_of_same (hmt _)))
  have hA5:Add w4 (w4.drewN nq):=Add.drewN w4 nq
  generalize w4.drewN nq=w5 at hA5 ⊢
  have hD5:=HDX.out.add hA5
  have y2:=hD5.rdr.c2
  have y1:=hD5.rdr.c1
  have yf:=hD5.rdr.f2
  have HD5:=bf hD5
  have HA5:=bf hA5
  clear x1 x2 xm xr xf hD5 hA5 hw1 hcl' hmt hmf
  go_upto_region 11 with fail
  have hu6:=Y143
  have hr6:=HD5.out.rdr.listed ((l0:Int)+(C:Int))
  generalize w5.setCell ⟨rb,2,none⟩ (.int .i64 ((l0:Int)+(C:Int)))=w6 at hu6 hr6 ⊢
  rw [<-Int.natCast_add] at hr6
  have hl6:l0+C<=1000:=by have:=HCL.out;omega
  have hD6:=HDX.out.step hu6 hr6 HDX.out.le hl6
  have HI6:=bf (HINV.out _ _ _ HIX.out hu6)
  have HU6:=bf (HUX.out.trans hu6)
  have HD6:=bf hD6
  have HL6:=bf hl6
  have hC1000:C<=1000:=Kc
  generalize hRR:rep item C a jb (l0+C)=RR at *
  have HRR:=bf hRR
  clear y1 y2 yf hu6 hr6 hD6 hl6 hRR hw2 hw3
  go_wp2
  go_loopw [49] (λcnt wr=>∃(q i1 l1:Nat) (a1:α),q<=C/\cnt=.int .i64 q/\rep item (C-q) a1 i1 l1=RR/\l0+C<=l1/\sz a1+(C-q)<=l1/\Inv a1 wr/\Upd rb w0 wr/\Dcd W wr tab pl rb t s r d m i1 l1) (λcnt _=>C-(intOf cnt).toNat)
  case atStart=>exact ⟨0,jb,l0+C,a,NQ _,rfl,HRR.out,NL _,by have:=HSA.out;omega,HI6.out,HU6.out,HD6.out⟩
  obtain ⟨q,i1,l1,a1,hq,rfl,hrep,hl1,hsq,hI1,hu1',hD1'⟩:=hrel
  have HSQ:=bf hsq
  clear hsq
  by_cases hlt:q<C
  ·have qi:((q:Int)<(C:Int))=True:=eq_true Kc
   have ecq:C-q=(C-(q+1))+1:=Kc
   rw [ecq,rep] at hrep
   have hitm:=Y144
   have HREP:=bf hrep
   have HLM:=bf (HLE.out a1 i1 l1)
   have HLB1:Hid (l1<=1000/\i1<=t.size):=⟨hD1'.lb,hD1'.le⟩
   have HL1:=bf hl1
   clear hrep hI1 hu1' hD1' hl1 ecq hq
   go_wp2_with (go_at_call 134;refine hitm.mono ?_;rintro e w8 ⟨hu8,⟨⟨x,hx,rfl⟩,hO⟩|⟨a8,i8,l8,hO,rfl,hI8,hD8⟩⟩;exact ⟨rfl,hu8,.inl ⟨⟨x,hx,rfl⟩,by have h1:=HREP.out;rw [hO] at h1;have h2:=HBL.out;rw [<-h1] at h2;exact h2.symm⟩⟩)
   exact Z53
  exact Z5
 exact Z52
end
section
open Go Go.RowKit Go.Extern.Stop Go.Stop Go.Extern Go.Maps
variable{ns:List ByteArray}{B:Nat}{v vn:Value}{w' wr:World}{ds:List Dat}{cells:List Value}
theorem nH.putx{w:World}{m:Nat}(h:nH w m ns)(F:ByteArray)(hF:F.size<=70368744177000)(hl:ns.length<=5000)(x:Int)(hx:0<=x/\x<=5000):∃w',(Instr.mapUpdate 74 (.map (some m)) (.string F) (.int .i64 x)).run prog w=.ok () w'/\nH w' m (ns++[F])/\w.grownBy w' (some m):=by
 obtain ⟨D,hown,hD,hhas⟩:=h
 have hsz:=hown.size_le
 obtain ⟨w',hrun,r1,r2⟩:=hown.update Tryz.keyLaw underlying74 Ki (qH F hF) (plainElem_int underlying3 (a:=x) (WalkArith.wf_i64 Kc))
 exact Z58
structure KidX(B:Nat)(vn:Value)(wr:World)(v:Value)(ds:List Dat)(cells:List Value):Prop where
 row:Row wr 6 v ds.length cells
 own:∀g,blk v=some g->B<=g/\blk vn≠some g
 lie:ai (λb=>B<=b/\blk v≠some b/\blk vn≠some b) wr ds cells
theorem KidX.nil(B:Nat)(vn:Value)(w:World):KidX B vn w (.slice none 0 0) [] []:=⟨Row.nil _ _,λ_ h=>Lm,rfl⟩
theorem KidX.kidD(h:KidX B vn wr v ds cells):KidD B wr v ds cells:=
 ⟨h.row,λg hg=>(h.own g hg).1,aw (λ_ hb _=>⟨hb.1,hb.2.1⟩) _ _ h.lie⟩
theorem KidX.carry(h:KidX B vn wr v ds cells)(hs:wr.heap.size<=w'.heap.size)(k:∀i,B<=i->i<wr.heap.size->blk vn≠some i->w'.heap[i]?=wr.heap[i]?):KidX B vn w' v ds cells:=
 ⟨h.row.carry λi hi=>k i (h.own i hi).1 (h.row.blk_lt hi) (h.own i hi).2,h.own,aq ⟨hs,λi hi hl=>k i hi.1 hl hi.2.2⟩ _ _ h.lie⟩
theorem KidX.move{vn':Value}(h:KidX B vn wr v ds cells)(hs:wr.heap.size<=w'.heap.size)(k:∀i,B<=i->i<wr.heap.size->blk vn≠some i->w'.heap[i]?=wr.heap[i]?)(hm:blk vn'=blk vn\/∃g,wr.heap.size<=g/\blk vn'=some g):KidX B vn' w' v ds cells:=by
 have hne:∀b,b<wr.heap.size->blk vn≠some b->blk vn'≠some b:=λb hb hn e=>by
  rcases hm with e1|⟨g,hg,e1⟩
  ·exact hn (e1 ▸ e)
  rw [e1] at e
  cases e
  omega
 refine ⟨h.row.carry λi hi=>k i (h.own i hi).1 (h.row.blk_lt hi) (h.own i hi).2,λg hg=>⟨(h.own g hg).1,hne g (h.row.blk_lt hg) (h.own g hg).2⟩,?_⟩
 have m1:ai (λb=>(B<=b/\blk v≠some b/\blk vn≠some b)/\b<wr.heap.size) w' ds cells:=aq ⟨hs,λi hi hl=>k i hi.1.1 hl hi.1.2.2⟩ _ _ (aw (λb hb hl=>⟨hb,hl⟩) _ _ h.lie)
 exact aw (λb hb _=>⟨hb.1.1,hb.1.2.1,hne b hb.2 hb.1.2.2⟩) _ _ m1
theorem KidX.push2{B rb g c n:Nat}{vn:Value}{wr w5 w6 w8:World}{v:Value}{ds:List Dat}{cells zs:List Value}{v0 v1 v2 v3 v4 v5:Value}{x:Dat}(h:KidX B vn wr v ds cells)(hvn:∀i,blk vn=some i->i<wr.heap.size)(hn:ds.length=n)(hB:B<=wr.heap.size)(hu:Upd rb wr w5)(hrb:rb<B)(hx:x.liesO (λb=>wr.heap.size<=b) w5 [v0,v1,v2,v3,v4,v5])
  (ha:Add w5 w6) (hg:Grew w6 v w8 (.slice (some ⟨g,0,none⟩) (n+1) c)) (hr:Row w8 6 (.slice (some ⟨g,0,none⟩) (n+1) c) (n+1) (cells++zs)):
  KidX B vn (eT w8 g (n*6) v0 v1 v2 v3 v4 v5) (.slice (some ⟨g,0,none⟩) (n+1) c) (ds++[x]) (cells++[v0,v1,v2,v3,v4,v5])/\B<=g/\(∀i,blk vn=some i->B<=i->(eT w8 g (n*6) v0 v1 v2 v3 v4 v5).heap[i]?=wr.heap[i]?):=by
 have h2:=hu.size
 have h3:=ha.size
 have h4:=hg.size
 have hcl:cells.length=n*6:=by rw [h.row.len,hn]
 have hBg:B<=g/\blk vn≠some g:=by
  rcases hg.at' with e|⟨g3,hg3,e⟩
  ·exact h.own g e.symm
  have e':g=g3:=LH
  exact ⟨by omega,λe=>by have:=hvn g e;omega⟩
 have hgv:blk v≠some g->w6.heap.size<=g:=λhne=>by
  exact Z133
 have hk1:Keep (λb=>(B<=b/\blk v≠some b/\blk vn≠some b)/\b<wr.heap.size) wr (eT w8 g (n*6) v0 v1 v2 v3 v4 v5):=⟨by rw [jG];omega,λi hi hl=>by
  rw [gy _ _ _ _ _ _ _ _ _ _ (λe=>by have:=hgv (e ▸ hi.1.2.1);omega),hg.old i Kc hi.1.2.1,ha.old i Kc,hu.old i hl Kc]⟩
 have hk2:Keep (λb=>wr.heap.size<=b/\b<w5.heap.size) w5 (eT w8 g (n*6) v0 v1 v2 v3 v4 v5):=⟨by rw [jG];omega,λi hi hl=>by
  have hne:blk v≠some i:=λe=>by have:=h.row.blk_lt e;omega
  rw [gy _ _ _ _ _ _ _ _ _ _ (λe=>by have:=hgv (e ▸ hne);omega),hg.old i Kc hne,ha.old i hl]⟩
 have hn8:∀b,b<w5.heap.size->blk v≠some b->blk (.slice (some ⟨g,0,none⟩) (n+1) c)≠some b:=by
  exact Z152
 have m1:=Y141
 have m2:=Y142
 refine ⟨⟨by rw [List.length_append,hn];exact (hr.last hcl).1,λg' hg'=>by have e':g=g':=(by simpa [blk] using hg');subst e';exact hBg,ax rfl (aP (λb hb _=>⟨by omega,hn8 b hb.2 (λe=>by have:=h.row.blk_lt e;omega),λe=>by have:=hvn b e;omega⟩) _ _ m2) _ _ (aw (λb hb _=>⟨hb.1.1,hn8 b Kc hb.1.2.1,hb.1.2.2⟩) _ _ m1)⟩,hBg.1,λi hi hbi=>?_⟩
 have hil:=hvn i hi
 have hig:i≠g:=λe=>hBg.2 (by rw [<-e];exact hi)
 rw [gy _ _ _ _ _ _ _ _ _ _ hig,hg.old i Kc (λe=>(h.own i e).2 hi),ha.old i Kc,hu.old i hil Kc]
structure MapI(b3 rb pid:Nat)(dep:Int)(ns:List ByteArray)(ks:List Dat)(wr:World):Prop where
 c3:wr.cell? ⟨b3,0,none⟩=some (.pointer (some ⟨rb,0,none⟩))
 c4:wr.cell? ⟨b3+1,0,none⟩=some (.pointer (some ⟨pid,0,none⟩))
 c5:wr.cell? ⟨b3+2,0,none⟩=some (.int .i64 dep)
 cp:wr.cell? ⟨b3+6,0,none⟩=some (.map (some (b3+5)))
 hs:nH wr (b3+5) ns
 kd:∃vn v cells,wr.cell? ⟨b3+3,0,none⟩=some vn/\wr.frozen? ⟨b3+3,0,none⟩=false/\wr.cell? ⟨b3+4,0,none⟩=some v/\wr.frozen? ⟨b3+4,0,none⟩=false/\Row wr 1 vn ns.length (ns.map Value.string)/\(∀g,blk vn=some g->b3+7<=g)/\KidX (b3+7) vn wr v ks cells
 lt:rb<b3
theorem MapI.keep{b3 rb pid:Nat}{dep:Int}{ks:List Dat}(h:MapI b3 rb pid dep ns ks wr)(hs:wr.heap.size<=w'.heap.size)(k:∀i,b3<=i->i<wr.heap.size->w'.heap[i]?=wr.heap[i]?):MapI b3 rb pid dep ns ks w':=by
 obtain ⟨h3,h4,h5,hp,hm,⟨vn,v,cells,hn,hnz,hv,hz,hr,ho,hk⟩,hl⟩:=h
 have hlt:=NW _ _ hp
 simp only at hlt
 have cc:∀ {b:Nat} {y:Value},b3<=b->wr.cell? ⟨b,0,none⟩=some y->w'.cell? ⟨b,0,none⟩=some y:=λ{b y} hb hy=>(NY (a:=⟨b,0,none⟩) (k b hb (NW _ _ hy))).trans hy
 have cf:∀ {b:Nat},b3<=b->b<wr.heap.size->wr.frozen? ⟨b,0,none⟩=false->w'.frozen? ⟨b,0,none⟩=false:=λ{b} hb hl hy=>(Oa (a:=⟨b,0,none⟩) (k b hb hl)).trans hy
 exact ⟨cc Kc h3,cc Kc h4,cc Kc h5,cc Kc hp,hm.carry (k _ Kc Kc),⟨vn,v,cells,cc Kc hn,cf Kc Kc hnz,cc Kc hv,cf Kc Kc hz,hr.carry (λi hi=>k i (by have:=ho i hi;omega) (hr.blk_lt hi)),ho,hk.carry hs (λi hi hl _=>k i Kc hl)⟩,hl⟩
theorem MapI.upd{b3 rb pid:Nat}{dep:Int}{ks:List Dat}(h:MapI b3 rb pid dep ns ks wr)(u:Upd rb wr w'):MapI b3 rb pid dep ns ks w':=h.keep u.size λi hi hl=>u.old i hl (by have:=h.lt;omega)
theorem MapI.name{b3 rb pid n c:Nat}{va:Option Addr}{dep:Int}{ns:List ByteArray}{ks:List Dat}{w0 wr w2 w3 w5 W:World}{s':ByteArray}{vn':Value}{tab:List TNode}{pl:Nat->Nat}{t:ByteArray}{s r d m:Value}{j l:Nat}(h:MapI b3 rb pid dep ns ks wr)(hb:w0.heap.size=b3)(hn:ns.length=n)(hvn:wr.cell? ⟨b3+3,0,none⟩=some (.slice va n c))(hu:Upd rb w0 wr)(hD:Dcd W wr tab pl rb t s r d m j l)(hm:nH w2 (b3+5) (ns++[s']))(hg:wr.grownBy w2 (some (b3+5)))
  (ha:Add w2 w3) (hgr:Grew w3 (.slice va n c) w5 vn') (hr:Row w5 1 vn' (n+1) (ns.map Value.string++[.string s'])):
  MapI b3 rb pid dep (ns++[s']) ks (w5.setCell ⟨b3+3,0,none⟩ vn')/\Upd rb w0 (w5.setCell ⟨b3+3,0,none⟩ vn')/\Dcd W (w5.setCell ⟨b3+3,0,none⟩ vn') tab pl rb t s r d m j l:=by
 obtain ⟨h3,h4,h5,hp,-,⟨vn,v,cells,hn1,hnz,hv,hz,hr0,ho,hk⟩,hl⟩:=h
 obtain rfl:vn=.slice va n c:=by rw [hn1] at hvn;exact Option.some.inj hvn
 have hlt:=NW _ _ hp
 simp only at hlt
 have g1:=hg.size
 have g2:=ha.size
 have g3:=hgr.size
 have g4:=hu.size
 have hnew:∀g,blk vn'=some g->b3+7<=g:=λg e=>by
  rcases hgr.at' with e1|⟨g5,h5',e1⟩
  ·exact ho g (e1 ▸ e)
  rw [e1] at e
  cases e
  omega
 have e5:∀i,i<wr.heap.size->i≠b3+5->blk (.slice va n c)≠some i->w5.heap[i]?=wr.heap[i]?:=λi hi hne hnb=>by
  rw [hgr.old i Kc hnb,ha.old i Kc,hg.block i hi (λe=>hne LF)]
 have e6:∀i,i≠b3+3->(w5.setCell ⟨b3+3,0,none⟩ vn').heap[i]?=w5.heap[i]?:=λi hi=>NZ _ _ _ _ NG
 have s6:(w5.setCell ⟨b3+3,0,none⟩ vn').heap.size=w5.heap.size:=Kh
 have o6:(w5.setCell ⟨b3+3,0,none⟩ vn').os=w5.os/\(w5.setCell ⟨b3+3,0,none⟩ vn').output=w5.output:=⟨rfl,rfl⟩
 have hnb:∀i,i<b3+7->blk (.slice va n c)≠some i:=λi hi e=>by have:=ho i e;omega
 have n5:=(NY (a:=⟨b3+3,0,none⟩) (e5 (b3+3) Kc Kc (hnb _ Kc))).trans hn1
 have z5:=(Oa (a:=⟨b3+3,0,none⟩) (e5 (b3+3) Kc Kc (hnb _ Kc))).trans hnz
 have n6:(w5.setCell ⟨b3+3,0,none⟩ vn').cell? ⟨b3+3,0,none⟩=some vn':=Oe _ _ _ n5
 have z6:(w5.setCell ⟨b3+3,0,none⟩ vn').frozen? ⟨b3+3,0,none⟩=false:=by rw [Od];exact z5
 have hm5:w5.heap[b3+5]?=w2.heap[b3+5]?:=by rw [hgr.old _ Kc (hnb _ Kc),ha.old _ Kc]
 generalize w5.setCell ⟨b3+3,0,none⟩ vn'=w6 at *
 have cc:∀ {b:Nat} {y:Value},b<b3+7->b≠b3+3->b≠b3+5->wr.cell? ⟨b,0,none⟩=some y->w6.cell? ⟨b,0,none⟩=some y:=λ{b y} hb h1 h2 hy=>(NY (a:=⟨b,0,none⟩) ((e6 b h1).trans (e5 b Kc h2 (hnb b hb)))).trans hy
 have hnw:=hD.new
 have hrw:=hD.rdr.lt
 have hold:=hD.old.size
 refine ⟨⟨cc Kc Kc Kc h3,cc Kc Kc Kc h4,cc Kc Kc Kc h5,cc Kc Kc Kc hp,hm.carry ((e6 _ Kc).trans hm5),⟨vn',v,cells,n6,z6,cc Kc Kc Kc hv,(Oa (a:=⟨b3+4,0,none⟩) ((e6 (b3+4) Kc).trans (e5 (b3+4) Kc Kc (hnb (b3+4) Kc)))).trans hz,?_,hnew,hk.move Kc (λi hi hl hne=>(e6 i Kc).trans (e5 i hl Kc hne)) ?_⟩,hl⟩,⟨?_,?_,by omega,λi hi hne=>(e6 i Kc).trans ((e5 i Kc Kc (hnb i Kc)).trans (hu.old i hi hne))⟩,?_⟩
 ·rw [List.length_append,List.map_append,hn]
  exact hr.carry λi hi=>e6 i (by have:=hnew i hi;omega)
 ·rcases hgr.at' with e1|⟨g5,h5',e1⟩
  ·exact .inl e1
  exact .inr ⟨g5,by omega,e1⟩
 ·exact o6.1.trans (hgr.os.trans (ha.os.trans (hg.os.trans hu.os)))
 ·exact o6.2.trans (hgr.output.trans (ha.output.trans (hg.output.trans hu.output)))
 exact ⟨hD.lay,hD.err,hD.tabs,hD.ng,⟨by omega,λi hi=>(e6 i Kc).trans ((e5 i Kc Kc (hnb i Kc)).trans (hD.old.old i hi))⟩,hD.new,hD.rdr.carry ((e6 rb Kc).trans (e5 rb Kc Kc (hnb rb Kc))),hD.le,hD.sz,hD.lb⟩
theorem EC{b3 rb pid g c n:Nat}{va:Option Addr}{vc:Nat}{dep:Int}{w0 wr w5 w6 w8 W:World}{ns:List ByteArray}{ks:List Dat}{cells zs:List Value}{vn v0 v1 v2 v3 v4 v5:Value}{x:Dat}{tab:List TNode}{pl:Nat->Nat}{t:ByteArray}{s r d m:Value}{j l:Nat}(hb:w0.heap.size=b3)(hI:MapI b3 rb pid dep ns ks wr)(hvn:wr.cell? ⟨b3+3,0,none⟩=some vn)(hvk:wr.cell? ⟨b3+4,0,none⟩=some (.slice va n vc))(hRN:Row wr 1 vn ns.length (ns.map Value.string))(hON:∀g,blk vn=some g->b3+7<=g)(hK:KidX (b3+7) vn wr (.slice va n vc) ks cells)(hn:ks.length=n)(hu:Upd rb w0 wr)(hu5:Upd rb wr w5)(hx:x.liesO (λb=>wr.heap.size<=b) w5 [v0,v1,v2,v3,v4,v5])
  (ha:Add w5 w6) (hg:Grew w6 (.slice va n vc) w8 (.slice (some ⟨g,0,none⟩) (n+1) c)) (hr:Row w8 6 (.slice (some ⟨g,0,none⟩) (n+1) c) (n+1) (cells++zs)) (hD:Dcd W w5 tab pl rb t s r d m j l):
  ((eT w8 g (n*6) v0 v1 v2 v3 v4 v5).cell? ⟨b3+4,0,none⟩=some (.slice va n vc)/\(eT w8 g (n*6) v0 v1 v2 v3 v4 v5).frozen? ⟨b3+4,0,none⟩=false)/\Upd rb w0 ((eT w8 g (n*6) v0 v1 v2 v3 v4 v5).setCell ⟨b3+4,0,none⟩ (.slice (some ⟨g,0,none⟩) (n+1) c))/\MapI b3 rb pid dep ns (ks++[x]) ((eT w8 g (n*6) v0 v1 v2 v3 v4 v5).setCell ⟨b3+4,0,none⟩ (.slice (some ⟨g,0,none⟩) (n+1) c))/\Dcd W ((eT w8 g (n*6) v0 v1 v2 v3 v4 v5).setCell ⟨b3+4,0,none⟩ (.slice (some ⟨g,0,none⟩) (n+1) c)) tab pl rb t s r d m j l:=by
 obtain ⟨h3,h4,h5,hp,hm,⟨vn1,v,cells1,hn1,hnz,hv,hz,-,-,-⟩,hrb⟩:=hI
 have hB:=NW _ _ hp
 simp only at hB
 obtain ⟨hk9,hBg,hkn⟩:=hK.push2 (λi hi=>hRN.blk_lt hi) hn Kc hu5 Kc hx ha hg hr
 have h1:=hu.size
 have h2:=hu5.size
 have h3':=ha.size
 have h4':=hg.size
 have e9:∀i,i<b3+7->i≠rb->(eT w8 g (n*6) v0 v1 v2 v3 v4 v5).heap[i]?=wr.heap[i]?:=λi hi hne=>by
  rw [gy _ _ _ _ _ _ _ _ _ _ Kc,hg.old i Kc (λe=>by have:=(hK.own i e).1;omega),ha.old i Kc,hu5.old i Kc hne]
 have e9r:(eT w8 g (n*6) v0 v1 v2 v3 v4 v5).heap[rb]?=w5.heap[rb]?:=by
  rw [gy _ _ _ _ _ _ _ _ _ _ Kc,hg.old rb Kc (λe=>by have:=(hK.own rb e).1;omega),ha.old rb Kc]
 have e9w:∀i,i<W.heap.size->(eT w8 g (n*6) v0 v1 v2 v3 v4 v5).heap[i]?=w5.heap[i]?:=λi hi=>by
  have:=hD.new
  rw [gy _ _ _ _ _ _ _ _ _ _ Kc,hg.old i Kc (λe=>by have:=(hK.own i e).1;omega),ha.old i Kc]
 have hs9:=jG w8 g (n*6) v0 v1 v2 v3 v4 v5
 obtain ⟨ho9,hp9⟩:=sI w8 g (n*6) v0 v1 v2 v3 v4 v5
 generalize eT w8 g (n*6) v0 v1 v2 v3 v4 v5=w9 at *
 have ck9:=(NY (a:=⟨b3+4,0,none⟩) (e9 (b3+4) Kc Kc)).trans hvk
 have fk9:=(Oa (a:=⟨b3+4,0,none⟩) (e9 (b3+4) Kc Kc)).trans hz
 have e10:∀i,i≠b3+4->(w9.setCell ⟨b3+4,0,none⟩ (.slice (some ⟨g,0,none⟩) (n+1) c)).heap[i]?=w9.heap[i]?:=λi hi=>NZ _ _ _ _ NG
 have hs10:(w9.setCell ⟨b3+4,0,none⟩ (.slice (some ⟨g,0,none⟩) (n+1) c)).heap.size=w9.heap.size:=Kh
 have ck10:(w9.setCell ⟨b3+4,0,none⟩ (.slice (some ⟨g,0,none⟩) (n+1) c)).cell? ⟨b3+4,0,none⟩=some (.slice (some ⟨g,0,none⟩) (n+1) c):=Oe _ _ _ ck9
 have fk10:(w9.setCell ⟨b3+4,0,none⟩ (.slice (some ⟨g,0,none⟩) (n+1) c)).frozen? ⟨b3+4,0,none⟩=false:=Ng
 have ho10:(w9.setCell ⟨b3+4,0,none⟩ (.slice (some ⟨g,0,none⟩) (n+1) c)).os=w9.os/\(w9.setCell ⟨b3+4,0,none⟩ (.slice (some ⟨g,0,none⟩) (n+1) c)).output=w9.output:=⟨rfl,rfl⟩
 generalize w9.setCell ⟨b3+4,0,none⟩ (.slice (some ⟨g,0,none⟩) (n+1) c)=w10 at *
 have cc:∀ {b:Nat} {y:Value},b<b3+7->b≠rb->b≠b3+4->wr.cell? ⟨b,0,none⟩=some y->w10.cell? ⟨b,0,none⟩=some y:=λ{b y} hb h1 h2 hy=>(NY (a:=⟨b,0,none⟩) ((e10 b h2).trans (e9 b hb h1))).trans hy
 have hnw:=hD.new
 refine ⟨⟨ck9,fk9⟩,⟨ho10.1.trans (ho9.trans (hg.os.trans (ha.os.trans (hu5.os.trans hu.os)))),ho10.2.trans (hp9.trans (hg.output.trans (ha.output.trans (hu5.output.trans hu.output)))),by omega,λi hi hne=>(e10 i Kc).trans ((e9 i Kc hne).trans (hu.old i Kc hne))⟩,⟨cc Kc Kc Kc h3,cc Kc Kc Kc h4,cc Kc Kc Kc h5,cc Kc Kc Kc hp,hm.carry ((e10 _ Kc).trans (e9 _ Kc Kc)),⟨vn,_,_,cc Kc Kc Kc hvn,(Oa (a:=⟨b3+3,0,none⟩) ((e10 (b3+3) Kc).trans (e9 (b3+3) Kc Kc))).trans hnz,ck10,fk10,hRN.carry (λi hi=>(e10 i (by have:=hON i hi;omega)).trans (hkn i hi (hON i hi))),hON,hk9.carry Kc (λi hi _ _=>e10 i Kc)⟩,hrb⟩,?_⟩
 exact ⟨hD.lay,hD.err,hD.tabs,hD.ng,⟨by have:=hD.old.size;omega,λi hi=>(e10 i Kc).trans ((e9w i hi).trans (hD.old.old i hi))⟩,hD.new,hD.rdr.carry ((e10 rb Kc).trans e9r),hD.le,hD.sz,hD.lb⟩
end
end Go.Proofs.YtmphmjkinmkidaaGreatDoor
