import Derived.Test.YtmphmjkinmkidaaGreatDoorS16
set_option linter.defProp false
open Go.Proofs.Tryz
set_option maxRecDepth 8000
set_option maxHeartbeats 4000000
open Go Go.RowKit Go.Extern.Stop Go.Stop Go.Extern
namespace Go.Proofs.YtmphmjkinmkidaaGreatDoor
variable{p:Prop}
section
def Z149(h:p:=by
 go_wp2
 go_ret
 exact iE HE.out rfl HI.out.rs HI.out.ru HI.out.pe HI.out.pb HI.out.done):p:=h
def Z162(h:p:=by
 exact ⟨rfl,eV HE.out ⟨_,_,rfl⟩ ((hA.trans (ae _ _)).trans ha1)⟩):p:=h
def qR(W0:World)(k:Nat):Prop:=∀(ok:Nat->Prop) (j:J) (cs:List Value) (w:World) (rb m:Nat) (v:Value) (E:Env) (Bs:List Nat) (sp:ByteArray),j.lies ok W0 cs->j.within k->Rs W0 rb m w v E Bs->max sp.size 65536+65537*(k+1)<=10000000000 ->
 Calls prog 49 #[.pointer (some ⟨rb,0,none⟩),.agg cs.toArray,.string sp] w λe w'=>oP (rdS (k+1) j sp E) W0 rb m w v E Bs e w'
theorem bf{p:Prop}(h:p):Hid p:=h
def Fb(V:Option (List Sch × Env)):Option (Sch × Env):=V.map λp=>(.mk 13 ByteArray.empty [] 0 p.1 [],p.2)
theorem Di(rd:J->ByteArray->Env->Option (Sch × Env))(l:List J)(sp:ByteArray)(E:Env):iM rd l sp E=if lw 1 l=true then Fb (fD (λj E=>rd j sp E) [] l E) else none:=by
 unfold iM lw Fb
 by_cases h:1<=l.length/\l.length<=12
 ·rw [if_pos h,if_pos (by simp;exact h)]
  cases fD (λj E=>rd j sp E) [] l E <;> rfl
 rw [if_neg h,if_neg Ky]
theorem Gd{k:Nat}{l:List J}(h:lw k l=true):k<=l.length/\l.length<=12:=by unfold lw at h;simpa using h
theorem GZ{ok:Nat->Prop}{l:List J}{cs:List Value}{W0 w:World}{rb m:Nat}{v:Value}{E:Env}{Bs:List Nat}{k:Nat}(hS:qR W0 k)(sp:ByteArray)(hT:STbl W0)(hl:(J.arr l).lies ok W0 cs)(hw:bX k l)(hR:Rs W0 rb m w v E Bs)(hsp:max sp.size 65536+65537*(k+1)<=10000000000):
  Calls prog 79 #[.pointer (some ⟨rb,0,none⟩),.agg cs.toArray,.string sp] w λe w'=>oP (iM (rdS (k+1)) l sp E) W0 rb m w v E Bs e w':=by
 rw [J.lies] at hl
 obtain ⟨a,c,rfl,hll,hla⟩:=hl
 have hck:=λW (h:Add W0 W)=>oJ (l:=l) (a:=a) (c:=c) (bs [97,32,117,110,105,111,110]) 1 1 rfl W (hT.add h).tbl Ke Kc hll
 have HR:=Y73
 have hA:=hR.add
 have HB:Hid (iM (rdS (k+1)) l sp E=if lw 1 l=true then Fb (fD (λj E=>rdS (k+1) j sp E) [] l E) else none):=Di _ _ _ _
 have HS:Hid (qR W0 k):=hS
 have HW:Hid (∀x∈l,J.within k x):=jF.1 hw
 have HSP:Hid (max sp.size 65536+65537*(k+1)<=10000000000):=hsp
 have HLA:Hid (J.lieAll ok W0 a 0 l):=hla
 unfold jc at hck ⊢
 clear hT hR hS hw hsp hla
 cases hlo:lw 1 l with
 |false=>
  rw [hlo] at hck
  have HE:Hid (iM (rdS (k+1)) l sp E=none):=by show _=_;rw [HB.out,hlo];rfl
  go_enter func79,ntmps79
  go_wp2_with (go_at_call 119;refine (hck _ (hA.trans (ae w _))).mono ?_;rintro e w1 ⟨⟨T,v,rfl⟩,ha1⟩)
  exact Z162
 |true=>
  rw [hlo] at hck
  have HL12:Hid (1<=l.length/\l.length<=12):=Gd hlo
  generalize hV:fD (λj E=>rdS (k+1) j sp E) [] l E=V at HB
  have HB2:Hid (iM (rdS (k+1)) l sp E=Fb V):=by show _=_;rw [HB.out,hlo];rfl
  obtain ⟨N,hN⟩:=Y55
  rw [hN] at hck ⊢
  have HN:Hid (l.length=N):=hN
  have HV:Hid (fD (λj E=>rdS (k+1) j sp E) [] l E=V):=hV
  clear hN hV hlo hll
  go_enter func79,ntmps79
  go_wp2_with (go_at_call 119;refine (hck _ (hA.trans (ae w _))).mono ?_;rintro e w1 ⟨rfl,ha1⟩;obtain ⟨q0,q1,q2,q3,q4,q5,ql⟩:=iA ha1;have HA1:Hid (Add w w1):=(ae _ _).trans ha1;clear ha1)
  have HI0:Hid (UnI W0 w (w1.alloc (tyB 13 ByteArray.empty (.slice none 0 0) (.slice none 0 0) (.slice none 0 0) 0 0 (.pointer none) (.slice none 0 0))) rb m w1.heap.size v v E E Bs Bs (.slice none 0 0) [] []):=by
   have hal:=ae w1 (tyB 13 ByteArray.empty (.slice none 0 0) (.slice none 0 0) (.slice none 0 0) 0 0 (.pointer none) (.slice none 0 0))
   have ha:=HA1.out.trans hal
   exact ⟨HR.out,HR.out.add' ha,ha.ru rb m v,NN _,NN _,dD _ _,HA1.out.size,λe=>by have:=HR.out.row.blk_lt e;have:=HA1.out.size;omega,Row.nil _ _,λ_ h=>Lm,λ_=>rfl,by rw [bZ];trivial⟩
  clear q0 q1 q2 q3 q4 q5 ql
  go_loopw [19] (λcnt wr=>∃(j:Nat) (v':Value) (E':Env) (Bs':List Nat) (bv:Value) (acc:List Sch) (bs:List Nat),j<=N/\cnt=.int .i64 j/\bs.length=j/\UnI W0 w wr rb m w1.heap.size v v' E E' Bs Bs' bv acc bs/\fD (λj E=>rdS (k+1) j sp E) acc (l.drop j) E'=V) (λcnt _=>N-(intOf cnt).toNat)
  case atStart=>exact ⟨0,v,E,Bs,.slice none 0 0,[],[],NQ _,rfl,rfl,HI0.out,HV.out⟩
  obtain ⟨j,v',E',Bs',bv,acc,bs,hj,rfl,hbl,hI,hu⟩:=hrel
  have HI:Hid (UnI W0 w wr rb m w1.heap.size v v' E E' Bs Bs' bv acc bs):=hI
  have HBL:Hid (bs.length=j):=hbl
  clear hI hbl
  by_cases hlt:j<N
  ·have hlt':j<l.length:=KC
   have ji:=Y51
   have j0:=Y52
   have j1:=Y53
   have hj12:j<=12:=by have:=HL12.out;omega
   rw [List.drop_eq_getElem_cons hlt'] at hu
   obtain ⟨b,o,cs,rfl,hb1,hb2,h6,hcc,hlies⟩:=J.lieAll_get l 0 HLA.out j hlt'
   have hwx:=HW.out l[j] (NS hlt')
   generalize hx:l[j]=x at hu hlies hwx
   clear hx
   have hAr:=HI.out.rs.add
   have hcr:∀f,f<6->wr.cell? ⟨b,o+j*6+f,none⟩=cs[f]?:=λf hf=>by
    have:=hcc f hf
    rw [NV] at this
    exact (NY (a:=⟨b,o+j*6+f,none⟩) (hAr.old b hb2)).trans this
   have hsc:=λo=>HS.out ok x cs (wr.alloc o) rb m v' E' Bs' sp hlies hwx (HI.out.rs.add' (ae wr o)) HSP.out
   obtain ⟨n6,t6,a6,na6,l6,c6,nl6,nc6,m6,rfl⟩:=J.lies_cells hlies
   unfold jc at hcr hsc
   have g0:=Y78
   have g1:=Y79
   have g2:=Y80
   have g3:=Y81
   have g4:=Y82
   have g5:=Y83
   have HWX:Hid (J.within k x):=hwx
   clear hcr hcc hlies hb1 hb2 h6 hwx hck HA1 HI0
   rw [fD] at hu
   cases hrd:rdS (k+1) x sp E' with
   |none=>
    rw [hrd] at hsc hu
    have HE:Hid (iM (rdS (k+1)) l sp E=none):=by show _=_;rw [HB2.out,<-hu];rfl
    go_wp2_with (go_at_call 49;refine (hsc _).mono ?_;rintro e w2 ⟨⟨T,v,rfl⟩,ha2⟩)
    exact ⟨rfl,eV HE.out ⟨_,_,rfl⟩ ha2⟩
   |some p=>
    obtain ⟨s,E2⟩:=p
    rw [hrd] at hsc
    simp only [hrd] at hu
    clear hrd
    go_upto_region 7 with (go_at_call 49;refine (hsc _).mono ?_;rintro e w2 ⟨br,v2,Bs2,he,hR2,hu2,hE2,hB2,hat⟩;have he':e=.returned (.pointer (some ⟨br,0,none⟩)):=he;subst he')
    have hI2:=(HI.out.add (ae wr (.cells #[.int .i64 x.kindI,.int .i64 n6,.string t6,.slice a6 l6 c6,.slice na6 nl6 nc6,.map m6] 85 (0,0)))).read hR2 hu2 hE2 hB2
    have hal3:=ae w2 (.cells #[.pointer (some ⟨br,0,none⟩)] 53 (0,0))
    have HI3:=bf (hI2.add hal3)
    have HAT:Hid (s.at (λi=>(wr.heap.size+1)<=i/\blk v2≠some i) W0 (w2.alloc (.cells #[.pointer (some ⟨br,0,none⟩)] 53 (0,0))) E2 Bs2 br):=cO ⟨hal3.size,λi _ hi=>hal3.old i hi⟩ (λi h _=>⟨by have:=h.1;rw [dE] at this;exact this,h.2⟩) (NN _) (NN _) _ _ hat
    have HKN:=bf (cZ HI3.out.rs s br HAT.out)
    have hcc:(w2.alloc (.cells #[.pointer (some ⟨br,0,none⟩)] 53 (0,0))).cell? ⟨w2.heap.size,0,none⟩=some (.pointer (some ⟨br,0,none⟩)):=Og _ _ _ 0
    have HB0:Hid (w1.heap.size<wr.heap.size+1/\∀g,blk bv=some g->g<wr.heap.size+1):=⟨by have:=HI.out.tl;omega,λg hg=>by have:=HI.out.row.blk_lt hg;omega⟩
    have HCL:Hid (w2.heap.size<(w2.alloc (.cells #[.pointer (some ⟨br,0,none⟩)] 53 (0,0))).heap.size):=by show _<_;rw [dE];omega
    have HCN:Hid (w2.heap.size≠w1.heap.size/\blk bv≠some w2.heap.size):=by
     have h1:=hI2.tl
     exact ⟨by omega,λe=>by have:=hI2.row.blk_lt e;omega⟩
    clear hI2 hal3 hat hR2 hu2 hE2 hB2 hsc g0 g1 g2 g3 g4 g5 hAr HI
    generalize hW3:w2.alloc (.cells #[.pointer (some ⟨br,0,none⟩)] 53 (0,0))=w3 at *
    generalize w2.heap.size=cb at *
    clear hW3
    obtain ⟨hk0,hk1⟩:=HKN.out
    by_cases h13:s.kind=13
    ·have HE:Hid (iM (rdS (k+1)) l sp E=none):=by show _=_;rw [HB2.out,<-hu,if_pos h13];rfl
     have hA3:=HI3.out.rs.add
     rw [h13] at hk0
     clear hu
     go_wp2_with (go_at_call 81;refine (dR _ _).mono ?_;rintro e w4 ⟨⟨T,v,rfl⟩,hb4⟩)
     exact ⟨rfl,eV HE.out ⟨_,_,rfl⟩ (hA3.trans hb4)⟩
    rw [if_neg h13] at hu
    have h13b:((s.kind:Int)==13)=false:=Kr
    have HAL:Hid (acc.length=bs.length):=cB _ _ HI3.out.all
    obtain ⟨va,vc,hbv⟩:=HI3.out.row.shape
    rw [HBL.out] at hbv
    have hcon:=GJ acc bs s br cb va vc w3 HAL.out.symm (by rw [HAL.out,HBL.out];exact hj12) (by rw [HAL.out,HBL.out,<-hbv];have:=HI3.out.row;rw [HBL.out] at this;exact this) (λi h1 h2=>cZ HI3.out.rs _ _ (cz _ _ HI3.out.all i h1 h2)) hcc HKN.out
    rw [HAL.out,HBL.out] at hcon
    obtain ⟨p0,p1,p2,p3,p4,p5,p6,p7,p8,pz⟩:=gX HI3.out.ty
    rw [hbv] at p8
    have HBV:Hid (bv=.slice va j vc):=hbv
    have H13:Hid (¬ s.kind=13):=h13
    clear h13 hbv p0 p1 p2 p3 p4 p5 p6 p7
    generalize hany:acc.any (λo=>kL o s)=B at hcon hu
    clear hany
    generalize s.kind=sk at *
    cases B with
    |true=>
     have HE:Hid (iM (rdS (k+1)) l sp E=none):=by show _=_;rw [HB2.out,<-hu,if_pos rfl];rfl
     have hA3:=HI3.out.rs.add
     clear hu
     go_wp2_with (first
      |(go_at_call 121;refine hcon.mono ?_;rintro e w4 ⟨rfl,ha4⟩)
      |(go_at_call 81;refine (dR _ _).mono ?_;rintro e w5 ⟨⟨T,v,rfl⟩,hb5⟩))
     exact ⟨rfl,eV HE.out ⟨_,_,rfl⟩ ((hA3.trans ha4).trans hb5)⟩
    |false=>
     rw [if_neg Ke] at hu
     have HU:Hid (fD (λj E=>rdS (k+1) j sp E) (acc++[s]) (l.drop (j+1)) E2=V):=hu
     clear hu
     go_upto_region 12 with (go_at_call 121;refine hcon.mono ?_;rintro e w4 ⟨rfl,ha4⟩)
     have HI4:=bf (HI3.out.add ha4)
     have HAT4:Hid (s.at (λi=>(wr.heap.size+1)<=i/\blk v2≠some i) W0 w4 E2 Bs2 br):=cO ⟨ha4.size,λi _ hi=>ha4.old i hi⟩ (λi h _=>h) (NN _) (NN _) _ _ HAT.out
     have hcc4:=ha4.cell hcc
     have p84:=ha4.cell p8
     have p8z:w4.frozen? ⟨w1.heap.size,8,none⟩=false:=(ha4.frozen HI3.out.tl).trans (pz 8)
     have HT4:Hid (w1.heap.size<w4.heap.size):=HI4.out.tl
     have hTne:w1.heap.size≠w4.heap.size:=Nat.ne_of_lt HT4.out
     have HCL4:Hid (cb<w4.heap.size):=NK HCL.out ha4.size
     have hCne:cb≠w4.heap.size:=Nat.ne_of_lt HCL4.out
     have p8a:∀o,(w4.alloc o).cell? ⟨w1.heap.size,8,none⟩=some (.slice va j vc):=λo=>(ae _ _).cell p84
     have HRV:Hid (Row w4 1 (.slice va j vc) j (bs.map ptr)):=by have:=HI4.out.row;rw [HBL.out,HBV.out] at this;exact this
     have HBT:Hid (blk (.slice va j vc)≠some w1.heap.size):=λe=>(HI4.out.bo _ (by rw [HBV.out];exact e)).2.1 rfl
     have HJ:Hid (j<N):=hlt
     obtain ⟨iP,zP,hiP,hzP,hsP,hzz,hbP⟩:=Tryz.infoP1
     have hbyP:=Y75
     clear hcon ha4 hcc p8 pz hk0 hk1 h13b hlt hlt' hj HKN
     go_region_law (
      (refine dO _ Kl _ _ 101 101 Kl Ke iP zP iP.bytes underlying101 hiP hzP hsP rfl hzz Kl KO _ 1 _ Kl (dw _ underlying101 w4.heap.size (.pointer (some ⟨br,0,none⟩)) Kh rfl) Ki (hbyP _ Kc) ?_;intro v8 w8 hrow8 hg8;have hg9:Grew (w4.alloc (.cells #[.pointer (some ⟨br,0,none⟩)] 53)) (.slice va j vc) w8 v8:=aZ hg8;have hc82:=hg9.cell (b:=w1.heap.size) (o:=8) MU HBT.out ((ae _ _).cell p84);have hz82:w8.frozen? ⟨w1.heap.size,8,none⟩=false:=(hg9.frozen MU HBT.out).trans (((ae _ _).frozen HT4.out).trans p8z);obtain ⟨a8,c8,rfl⟩:=hrow8.shape))
     all_goals go_wp2
     all_goals (
      have hbv:=HBV.out
      subst hbv
      have hbl:=HBL.out
      subst hbl
      exact ⟨⟨bs.length+1,v2,E2,Bs2,_,acc++[s],bs++[br],HJ.out,rfl,by rw [List.length_append];rfl,HI4.out.push HAT4.out HB0.out.1 HB0.out.2 hg9 hrow8,HU.out⟩,by have:=HJ.out;show N-((bs.length:Int)+1).toNat<N-(bs.length:Int).toNat;omega⟩)
  have ji:=Y54
  have hjN:j=N:=Kc
  rw [List.drop_eq_nil_of_le MS,fD] at hu
  have HE:Hid (iM (rdS (k+1)) l sp E=some (.mk 13 ByteArray.empty [] 0 acc [],E')):=by show _=_;rw [HB2.out,<-hu];rfl
  clear hu hjN hlt hj
  exact Z149
mutual
theorem bN{ok:Nat->Prop}{W0 w:World}(hb:∀i,ok i->i<W0.heap.size)(ho:∀i,i<W0.heap.size->w.heap[i]?=W0.heap[i]?):∀(j:J) (cs:List Value),j.lies ok w cs->j.lies ok W0 cs
 |.null,cs,h=>by rw [J.lies] at h ⊢;exact h
 |.bool b,cs,h=>by rw [J.lies] at h ⊢;exact h
 |.num n,cs,h=>by rw [J.lies] at h ⊢;exact h
 |.str s,cs,h=>by rw [J.lies] at h ⊢;exact h
 |.arr l,cs,h=>by
  rw [J.lies] at h ⊢
  obtain ⟨a,c,h1,h2,h3⟩:=h
  exact ⟨a,c,h1,h2,bI hb ho a 0 l h3⟩
 |.obj ns vs,cs,h=>by
  rw [J.lies] at h ⊢
  obtain ⟨a,c,na,nc,m,h1,h2,h3,h4,h5,h6,h7,h8⟩:=h
  refine ⟨a,c,na,nc,m,h1,h2,h3,h4,h5,h6.carry (ho m (hb m h5)).symm,?_,bI hb ho a 0 vs h8⟩
  rcases h7 with h7|⟨b,o,e1,e2,e3,e4⟩
  ·exact .inl h7
  exact .inr ⟨b,o,e1,e2,hb b e2,λi hi=>(NY (a:=⟨b,o+i,none⟩) (ho b (hb b e2)).symm).trans (e4 i hi)⟩
theorem bI{ok:Nat->Prop}{W0 w:World}(hb:∀i,ok i->i<W0.heap.size)(ho:∀i,i<W0.heap.size->w.heap[i]?=W0.heap[i]?)(a:Option Addr):∀(i:Nat) (l:List J),J.lieAll ok w a i l->J.lieAll ok W0 a i l
 |_,[],_=>by rw [J.lieAll];trivial
 |i,d::r,h=>by
  rw [J.lieAll] at h ⊢
  obtain ⟨⟨b,o,cs,h1,h2,h3,h4,h5,h6⟩,hr⟩:=h
  exact ⟨⟨b,o,cs,h1,h2,hb b h2,h4,λf hf=>(NY (a:=⟨b,o+i*6+f,none⟩) (ho b (hb b h2)).symm).trans (h5 f hf),bN hb ho d cs h6⟩,bI hb ho a (i+1) r hr⟩
end
theorem dN{W:World}{B:Nat}{v0 v1 v2 v3 v4 v5 v6 v7 v8 v9:Value}{T:TypeId}(h:W.heap[B]?=some (.cells #[v0,v1,v2,v3,v4,v5,v6,v7,v8,v9] T (0,0))):
  W.cell? ⟨B,0,none⟩=some v0/\W.cell? ⟨B,1,none⟩=some v1/\W.cell? ⟨B,2,none⟩=some v2/\W.cell? ⟨B,3,none⟩=some v3/\W.cell? ⟨B,4,none⟩=some v4/\W.cell? ⟨B,5,none⟩=some v5/\W.cell? ⟨B,6,none⟩=some v6/\W.cell? ⟨B,7,none⟩=some v7/\W.cell? ⟨B,8,none⟩=some v8/\W.cell? ⟨B,9,none⟩=some v9/\∀k,W.frozen? ⟨B,k,none⟩=false:=by
 refine ⟨?_,?_,?_,?_,?_,?_,?_,?_,?_,?_,λk=>by unfold World.frozen?;rw [h];simp⟩
 all_goals (unfold World.cell?;rw [h];rfl)
abbrev fdB(v0 v1 v2 v3 v4 v5 v6 v7 v8 v9:Value):Obj:=.cells #[v0,v1,v2,v3,v4,v5,v6,v7,v8,v9] 150 (0,0)
def ku(rd:J->Env->Option (Sch × Env))(j:J)(E:Env):Option (ByteArray × Sch × Option J × Env):=
 match j.textIn gm with
 |none=>none
 |some n=>match gK dJ j with
  |none=>none
  |some _=>if dJ n=true then (match j.named eW with
    |none=>none
    |some t=>match rd t E with
     |none=>none
     |some (s,E)=>some (n,s,j.named gD,E))
   else none
theorem Ah(rd:J->Env->Option (Sch × Env))(ns:List ByteArray)(ss:List Sch)(ds:List (Option J))(j:J)(r:List J)(E:Env):eG rd ns ss ds (j::r) E=match ku rd j E with
  |none=>none
  |some (n,s,d,E)=>if dU n ns=true then none else eG rd (ns++[n]) (ss++[s]) (ds++[d]) r E:=by
 rw [eG]
 unfold ku
 cases j.textIn gm with
 |none=>rfl
 |some n=>
  cases gK dJ j with
  |none=>rfl
  |some al=>
   by_cases h:dJ n=true
   ·simp only [if_pos h]
    cases j.named eW with
    |none=>rfl
    |some t=>
     cases hr:rd t E with
     |none=>simp only [hr]
     |some p=>simp only [hr]
   simp only [if_neg h]
def zQ(O:Option (ByteArray × Sch × Option J × Env))(W0:World)(rb m:Nat)(w:World)(v:Value)(E:Env)(Bs:List Nat)(e:Ending)(w':World):Prop:=
 match O with
 |some (n,s,d,E')=>∃aa al ac b k i t a na l c nl nc mm v' Bs',e=.returned (.agg (fcs n aa al ac b k i t a na l c nl nc mm d.isSome).toArray)/\nJ W0 d (jc k i t a na l c nl nc mm)/\Rs W0 rb m w' v' E' Bs'/\Ru rb m w v w' v'/\E <+: E'/\Bs <+: Bs'/\s.at (λi=>w.heap.size<=i/\blk v'≠some i) W0 w' E' Bs' b/\n.size<=65536
 |none=>fV e/\Add W0 w'
theorem oI{O:Option (ByteArray × Sch × Option J × Env)}{W0:World}{rb m:Nat}{w:World}{v:Value}{E:Env}{Bs:List Nat}{e:Ending}{w':World}(h:O=none)(hs:fV e)(ha:Add W0 w'):zQ O W0 rb m w v E Bs e w':=by
 rw [h]
 exact ⟨hs,ha⟩
def Z31(h:p:=by
 go_enter func126,ntmps126
 go_wp2_with (first
  |(go_at_call 147;refine (hnm _ (ae w (.cells #[.int .i64 j.kindI,.int .i64 n0,.string t0,.slice a0 l0 c0,.slice na0 nl0 nc0,.map m0] 85 (0,0)))).mono ?_;rintro e w1 ⟨t,v1,av,he,hR1,hu1,ht1,hty,hnz⟩;have he':e=.returned (.pointer (some ⟨t,0,none⟩)):=he;subst he';obtain ⟨q0,q1,q2,q3,q4,q5,ql⟩:=nZ hu1 HR.out;have HR1:Hid (Rs W0 rb m w1 v1 (E++[(n,14)]) (Bs++[t])):=hR1;clear hR1 hty hnz hu1 ht1)
  |(go_at_call 123;refine (hin _ HR1.out.add).mono ?_;rintro e w2 ⟨⟨cs,rfl,hcs⟩,ha2⟩;rw [J.lies] at hcs;obtain ⟨rfl,hzb⟩:=hcs;unfold jc;clear hzb)
  |(go_at_call 81;refine (dR _ _).mono ?_;rintro e w3 ⟨⟨T,v,rfl⟩,hb3⟩))
 exact Z260):p:=h
def Z69(h:p:=by
 go_wp2_with (go_at_call 147;refine (hnm _ (ae w (.cells #[.int .i64 j.kindI,.int .i64 n0,.string t0,.slice a0 l0 c0,.slice na0 nl0 nc0,.map m0] 85 (0,0)))).mono ?_;rintro e w1 ⟨⟨T,v,rfl⟩,ha1⟩)
 exact ⟨rfl,eV HE.out ⟨_,_,rfl⟩ ha1⟩):p:=h
def Z185(h:p:=by
 exact ⟨rfl,eV HE.out ⟨_,_,rfl⟩ (HR1.out.add.trans ha2)⟩):p:=h
def Z260(h:p:=by
 exact ⟨rfl,eV HE.out ⟨_,_,rfl⟩ (((HR1.out.add.trans ha2).trans (ae _ _)).trans hb3)⟩):p:=h
theorem nZ{W0 w w1:World}{rb m:Nat}{v v1:Value}{E:Env}{Bs:List Nat}{v0 va v2 v3 v4 v5:Value}{T:TypeId}(h:Ru rb m (w.alloc (.cells #[v0,va,v2,v3,v4,v5] T)) v w1 v1)(hR:Rs W0 rb m w v E Bs):w1.cell? ⟨w.heap.size,0,none⟩=some v0/\w1.cell? ⟨w.heap.size,1,none⟩=some va/\w1.cell? ⟨w.heap.size,2,none⟩=some v2/\w1.cell? ⟨w.heap.size,3,none⟩=some v3/\w1.cell? ⟨w.heap.size,4,none⟩=some v4/\w1.cell? ⟨w.heap.size,5,none⟩=some v5/\w.heap.size<w1.heap.size:=by
 have hs:=h.size
 rw [dE] at hs
 have hb:=h.old w.heap.size Km (by have:=hR.lt;omega) (by have:=hR.pl.lt;omega) (λe=>by have:=hR.row.blk_lt e;omega)
 refine ⟨?_,?_,?_,?_,?_,?_,by omega⟩
 all_goals (refine (NY hb).trans ?_;exact Og _ _ _ _)
theorem BD{w:World}{o:Obj}{t:Nat}(h:(w.alloc o).heap.size<=t):w.heap.size≠t:=by rw [dE] at h;omega
theorem wX{w:World}{o:Obj}{t:Nat}(h:(w.alloc o).heap.size<=t):w.heap.size<=t:=by rw [dE] at h;omega
theorem bF{j:J}(h:∀z,j≠.num z):(j.kindI != 3)=true:=by
 exact Z208
theorem Ar{j:J}{sp:ByteArray}{E:Env}{v:J}(h:j.named oL=some v)(hv:∀z,v≠.num z):iU j sp E=none:=by
 unfold iU
 cases gp j sp E with
 |none=>rfl
 |some n=>
  rw [h]
  cases v <;> first|rfl|exact absurd rfl (hv _)
theorem Ge{ok:Nat->Prop}{j:J}{cs:List Value}{W0 w:World}{rb m:Nat}{v:Value}{E:Env}{Bs:List Nat}(sp:ByteArray)(hT:STbl W0)(hl:j.lies ok W0 cs)(hR:Rs W0 rb m w v E Bs)(hsp:sp.size<=10000000000):
  Calls prog 126 #[.pointer (some ⟨rb,0,none⟩),.agg cs.toArray,.string sp] w λe w'=>oP (iU j sp E) W0 rb m w v E Bs e w':=by
 have hnm:=λW (h:Add w W)=>xJ (ok:=ok) 14 sp hT hl (hR.add' h) hsp
 have hin:=λW (h:Add W0 W)=>Am (ok:=ok) oL W Ke (bL hl h)
 have HR:=Y73
 obtain ⟨n0,t0,a0,na0,l0,c0,nl0,nc0,m0,rfl⟩:=Y39
 unfold jc at hnm hin ⊢
 unfold mJ at hnm
 clear hT hl hR hsp
 cases hn:gp j sp E with
 |none=>
  have HE:Hid (iU j sp E=none):=by show _=_;unfold iU;rw [hn]
  rw [hn] at hnm
  clear hin
  go_enter func126,ntmps126
  exact Z69
 |some n=>
  rw [hn] at hnm
  cases hj:j.named oL with
  |none=>
   have HE:Hid (iU j sp E=none):=by show _=_;unfold iU;rw [hn,hj]
   rw [hj] at hin
   go_enter func126,ntmps126
   go_wp2_with (first
    |(go_at_call 147;refine (hnm _ (ae w (.cells #[.int .i64 j.kindI,.int .i64 n0,.string t0,.slice a0 l0 c0,.slice na0 nl0 nc0,.map m0] 85 (0,0)))).mono ?_;rintro e w1 ⟨t,v1,av,he,hR1,hu1,ht1,hty,hnz⟩;have he':e=.returned (.pointer (some ⟨t,0,none⟩)):=he;subst he';obtain ⟨q0,q1,q2,q3,q4,q5,ql⟩:=nZ hu1 HR.out;have HR1:Hid (Rs W0 rb m w1 v1 (E++[(n,14)]) (Bs++[t])):=hR1;clear hR1 hty hnz hu1 ht1)
    |(go_at_call 123;refine (hin _ HR1.out.add).mono ?_;rintro e w2 ⟨⟨T,v,rfl⟩,ha2⟩))
   exact Z185
  |some x=>
   rw [hj] at hin
   by_cases hx:∃z,x=.num z
   ·obtain ⟨z,rfl⟩:=hx
    by_cases hz:0<=z/\z<=64
    ·have HE:Hid (iU j sp E=some (.mk 14 n [] z.toNat [] [],E++[(n,14)])):=by show _=_;unfold iU;rw [hn,hj];exact if_pos hz
     have hz0:(z<0)=False:=eq_false Kc
     have hz1:(64<z)=False:=eq_false Kc
     have HZ:Hid (0<=z/\z<=64):=hz
     clear hz
     go_enter func126,ntmps126
     go_wp2_with (first
      |(go_at_call 147;refine (hnm _ (ae w (.cells #[.int .i64 j.kindI,.int .i64 n0,.string t0,.slice a0 l0 c0,.slice na0 nl0 nc0,.map m0] 85 (0,0)))).mono ?_;rintro e w1 ⟨t,v1,av,he,hR1,hu1,ht1,hty,hnz⟩;have he':e=.returned (.pointer (some ⟨t,0,none⟩)):=he;subst he';obtain ⟨q0,q1,q2,q3,q4,q5,ql⟩:=nZ hu1 HR.out;have HR1:Hid (Rs W0 rb m w1 v1 (E++[(n,14)]) (Bs++[t])):=hR1;have HTY:Hid (w1.heap[t]?=some (kR 14 n av)):=hty;have HU:Hid (Ru rb m w v w1 v1):=((ae w _).ru rb m v).trans hu1;have HT:Hid (w.heap.size<=t):=(wX ht1);clear hR1 hty hnz hu1 ht1)
      |(go_at_call 123;refine (hin _ HR1.out.add).mono ?_;rintro e w2 ⟨⟨cs,rfl,hcs⟩,ha2⟩;rw [J.lies] at hcs;obtain ⟨rfl,hzb⟩:=hcs;unfold jc;clear hzb;have HA2:Hid (Add w1 w2):=ha2;have HTY2:Hid (w2.heap[t]?=some (kR 14 n av)):=(HA2.out.old t (Oh HTY.out).1).trans HTY.out;clear ha2;obtain ⟨p0,p1,p2,p3,p4,p5,p6,p7,p8,pz⟩:=gX HTY2.out;have p6':=pz 6;have htl:t<w2.heap.size:=(Oh HTY2.out).1;have htn:t≠w2.heap.size:=Nat.ne_of_lt htl))
     go_ret
     have hR2:=HR1.out.add' HA2.out
     obtain ⟨hra,hrl,hrW,hr1,hr2,hr3⟩:=hR2.last
     have hal:=ae (w2.setCell ⟨t,6,none⟩ (.int .i64 z)) (.cells #[.int .i64 3,.int .i64 z,.string ByteArray.empty,.slice none 0 0,.slice none 0 0,.map none] 85 (0,0))
     have hst:(w2.setCell ⟨t,6,none⟩ (.int .i64 z)).heap[t]?=some (tyB 14 n av (.slice none 0 0) (.slice none 0 0) 0 z (.pointer none) (.slice none 0 0)):=dG HTY2.out 6 _
     exact iE HE.out rfl ((hR2.store t 6 _ hr1 hr2 hr3 hrW Kc).add' hal) (((HU.out.add HA2.out).store t 6 _ HT.out).add hal) (List.prefix_append _ _) (List.prefix_append _ _) (Jb ((hal.old t (Oh hst).1).trans hst) Lt ⟨HT.out,hr3⟩ hra)
    have HE:Hid (iU j sp E=none):=by show _=_;unfold iU;rw [hn,hj];exact if_neg hz
    have hzc:(z<0)=True\/((z<0)=False/\(64<z)=True):=by
     by_cases h0:z<0
     ·exact .inl (eq_true h0)
     exact .inr ⟨eq_false h0,eq_true Kc⟩
    clear hz
    rcases hzc with hz0|⟨hz0,hz1⟩
    ·exact Z31
    exact Z31
   have HE:Hid (iU j sp E=none):=Ar hj (λz h=>hx ⟨z,h⟩)
   have hk:=bF (λz h=>hx ⟨z,h⟩)
   clear hx
   go_enter func126,ntmps126
   go_wp2_with (first
    |(go_at_call 147;refine (hnm _ (ae w (.cells #[.int .i64 j.kindI,.int .i64 n0,.string t0,.slice a0 l0 c0,.slice na0 nl0 nc0,.map m0] 85 (0,0)))).mono ?_;rintro e w1 ⟨t,v1,av,he,hR1,hu1,ht1,hty,hnz⟩;have he':e=.returned (.pointer (some ⟨t,0,none⟩)):=he;subst he';obtain ⟨q0,q1,q2,q3,q4,q5,ql⟩:=nZ hu1 HR.out;have HR1:Hid (Rs W0 rb m w1 v1 (E++[(n,14)]) (Bs++[t])):=hR1;clear hR1 hty hnz hu1 ht1)
    |(go_at_call 123;refine (hin _ HR1.out.add).mono ?_;rintro e w2 ⟨⟨cs,rfl,hcs⟩,ha2⟩;obtain ⟨n6,t6,a6,na6,l6,c6,nl6,nc6,m6,rfl⟩:=J.lies_cells hcs;unfold jc;clear hcs)
    |(go_at_call 81;refine (dR _ _).mono ?_;rintro e w3 ⟨⟨T,v,rfl⟩,hb3⟩))
   exact Z260
end
end Go.Proofs.YtmphmjkinmkidaaGreatDoor
