import Derived.Deep.CutRange
import Derived.Deep.DeepCutAuto
import Derived.Deep.CutBlock
import Derived.Deep.RegionLaw
import Derived.Test.YtjmlghgnbclmfaaGreatDoorS15
set_option linter.defProp false
open Go.Proofs.Tryz
set_option maxRecDepth 8000
set_option maxHeartbeats 4000000
namespace Go.Proofs.YtjmlghgnbclmfaaGreatDoor
variable{p:Prop}
section
open Go Go.RowKit Go.Extern.Stop Go.Stop Go.Extern Go.Maps Go.WideMaps
def Y72(h:p:=by exact (λt W (h:Add W0 W) (hz:t.size<=70368744177)=>uJ t W hz (hT.add h))):p:=h
def Y73(h:p:=by exact (show Hid (Rs W0 rb m w v E Bs) from hR)):p:=h
def Y74(h:p:=by exact ((NY (a:=⟨rb,0,none⟩) (hg8.block rb HLR.out (λe=>HRM.out.1 LF))).trans hr0)):p:=h
def Y75(h:p:=by exact (show ∀n,n<=5000->n*iP.bytes<=140737488355328 from λn hn=>NM (Nat.mul_le_mul hn hbP) Ke)):p:=h
def Z192(h:p:=by
 go_region
 all_goals (go_wp2;go_meet;exact ⟨rfl,rfl,rfl⟩)):p:=h
def Z196(h:p:=by
 go_meet
 exact ⟨by rw [hs];rfl,ha3.trans (ae _ _)⟩):p:=h
theorem mF(F:ByteArray):∀E:Env,(Env.kindOf? F E).isSome=dU F (E.map Prod.fst)
 |[]=>rfl
 |(n,k)::r=>by
  have h:=mF F r
  rw [Env.kindOf?]
  by_cases e:n=F
  ·rw [if_pos e]
   simp [dU,e]
  rw [if_neg e,h]
  have e':¬ F=n:=λh=>e h.symm
  simp [dU,e']
def mJ(k:Nat)(sp:ByteArray)(j:J)(W0:World)(rb m:Nat)(w:World)(v:Value)(E:Env)(Bs:List Nat)(e:Ending)(w':World):Prop:=
 match gp j sp E with
 |some n=>∃t v' av,e=.returned (ptr t)/\Rs W0 rb m w' v' (E++[(n,k)]) (Bs++[t])/\Ru rb m w v w' v'/\w.heap.size<=t/\w'.heap[t]?=some (kR k n av)/\n.size<=max sp.size 65536+65537
 |none=>fV e/\Add W0 w'
theorem kH{k:Nat}{sp:ByteArray}{j:J}{W0:World}{rb m:Nat}{w:World}{v:Value}{E:Env}{Bs:List Nat}{e:Ending}{w':World}(h:gp j sp E=none)(hs:fV e)(ha:Add W0 w'):mJ k sp j W0 rb m w v E Bs e w':=by
 unfold mJ
 rw [h]
 exact ⟨hs,ha⟩
theorem xJ{ok:Nat->Prop}{j:J}{cs:List Value}{W0 w:World}{rb m:Nat}{v:Value}{E:Env}{Bs:List Nat}(k:Nat)(sp:ByteArray)(hT:STbl W0)(hl:j.lies ok W0 cs)(hR:Rs W0 rb m w v E Bs)(hsp:sp.size<=10000000000):
  Calls prog 147 #[.pointer (some ⟨rb,0,none⟩),.int .i64 k,.agg cs.toArray,.string sp] w λe w'=>mJ k sp j W0 rb m w v E Bs e w':=by
 have htx:=λW (h:Add W0 W)=>mt (ok:=ok) gm W Ke (bL hl h)
 have hts:=λW (h:Add W0 W)=>mt (ok:=ok) kM W Ke (bL hl h)
 have hnm:=λW (h:Add W0 W)=>lZ (ok:=ok) kM W Ke (bL hl h)
 have hfn:=λt W (h:Add W0 W) (hz:t.size<=65536)=>pG t W hz (hT.add h).max
 have hqu:=Y72
 have hal:=λW (h:Add W0 W)=>yg (ok:=ok) W (hT.add h) (bL hl h)
 have hA:=hR.add
 have HT:Hid (STbl W0):=hT
 obtain ⟨n0,t0,a0,na0,l0,c0,nl0,nc0,m0,rfl⟩:=Y39
 unfold jc at htx hts hnm hal ⊢
 have HJS:Hid (j.textIn kM=(j.named kM).bind J.text):=rfl
 clear hT hl
 have HR:=Y73
 clear hR
 cases hn:j.textIn gm with
 |none=>
  have HE:Hid (gp j sp E=none):=by show _=_;unfold gp;rw [hn]
  rw [hn] at htx
  clear hsp hts hnm hfn hqu hal
  go_enter func147,ntmps147
  go_wp2_with (go_at_call 122;refine (htx _ (hA.trans (ae w (.cells #[.int .i64 j.kindI,.int .i64 n0,.string t0,.slice a0 l0 c0,.slice na0 nl0 nc0,.map m0] 85 (0,0))))).mono ?_;rintro e w1 ⟨⟨T,v,rfl⟩,ha1⟩)
  exact ⟨rfl,kH HE.out ⟨_,_,rfl⟩ ((hA.trans (ae _ _)).trans ha1)⟩
 |some n=>
  rw [hn] at htx
  cases hf:eY n with
  |false=>
   have HE:Hid (gp j sp E=none):=by show _=_;unfold gp;simp [hn,hf]
   clear hsp hts hnm hal
   go_enter func147,ntmps147
   go_wp2_with (first
    |(go_at_call 122;refine (htx _ (hA.trans (ae w (.cells #[.int .i64 j.kindI,.int .i64 n0,.string t0,.slice a0 l0 c0,.slice na0 nl0 nc0,.map m0] 85 (0,0))))).mono ?_;rintro e w1 ⟨⟨rfl,hnz⟩,ha1⟩;have hA1:=(hA.trans (ae _ _)).trans ha1)
    |(go_at_call 173;refine (hfn n _ hA1 hnz).mono ?_;rw [hf];rintro e w2 ⟨rfl,ha2⟩)
    |(go_at_call 118;refine (hqu n _ (hA1.trans ha2) Kc).mono ?_;rintro e w3 ⟨⟨q,rfl,hqz⟩,ha3⟩;have hc9:(9223372036854775807<9+q.size)=False:=eq_false Kc;clear hqz)
    |(go_at_call 81;refine (dR _ _).mono ?_;rintro e w4 ⟨⟨T,v,rfl⟩,hb4⟩))
   exact ⟨rfl,kH HE.out ⟨_,_,rfl⟩ (((hA1.trans ha2).trans ha3).trans hb4)⟩
  |true=>
   have HE:Hid (gp j sp E=match iG j sp with
    |none=>none
    |some sp'=>match gK eY j with
     |none=>none
     |some _=>if (E.kindOf? (fI n sp')).isSome=true then none else if eP (fI n sp')≠0 then none else if E.length=16 then none else some (fI n sp')):=by show _=_;unfold gp;rw [hn];dsimp only;rw [if_pos hf];cases iG j sp with|none=>rfl|some x=>cases gK eY j <;> rfl
   go_enter func147,ntmps147
   go_upto_region 4 with (first
    |(go_at_call 122;refine (htx _ (hA.trans (ae w (.cells #[.int .i64 j.kindI,.int .i64 n0,.string t0,.slice a0 l0 c0,.slice na0 nl0 nc0,.map m0] 85 (0,0))))).mono ?_;rintro e w1 ⟨⟨rfl,hnz⟩,ha1⟩;have hA1:=(hA.trans (ae _ _)).trans ha1;obtain ⟨q0,q1,q2,q3,q4,q5,ql⟩:=iA ha1)
    |(go_at_call 173;refine (hfn n _ hA1 hnz).mono ?_;rw [hf];rintro e w2 ⟨rfl,ha2⟩))
   replace q0:=ha2.cell q0
   replace q1:=ha2.cell q1
   replace q2:=ha2.cell q2
   replace q3:=ha2.cell q3
   replace q4:=ha2.cell q4
   replace q5:=ha2.cell q5
   replace ql:w.heap.size<w2.heap.size:=NK ql ha2.size
   have hA2:=hA1.trans ha2
   have HN:Hid (n.size<=65536):=hnz
   have hAw2:Hid (Add w w2):=((ae _ _).trans ha1).trans ha2
   clear ha1 ha2 hA1 htx hnz
   go_cut [11] (λs11 wx=>s11=.bool (j.named kM).isSome/\Add w2 wx)
   case first=>
    cases hs:j.named kM with
    |none=>
     rw [hs] at hnm
     go_wp2_with (go_at_call 146;refine (hnm _ hA2).mono ?_;rintro e w3 ⟨rfl,ha3⟩)
     exact Z196
    |some vv=>
     rw [hs] at hnm
     go_wp2_with (go_at_call 146;refine (hnm _ hA2).mono ?_;rintro e w3 ⟨⟨cs,rfl,hcs⟩,ha3⟩;obtain ⟨n6,t6,a6,na6,l6,c6,nl6,nc6,m6,rfl⟩:=J.lies_cells hcs;unfold jc)
     exact Z196
   obtain ⟨rfl,ha3⟩:=hcut
   have hA3:=hA2.trans ha3
   replace q0:=ha3.cell q0
   replace q1:=ha3.cell q1
   replace q2:=ha3.cell q2
   replace q3:=ha3.cell q3
   replace q4:=ha3.cell q4
   replace q5:=ha3.cell q5
   replace ql:w.heap.size<wc.heap.size:=NK ql ha3.size
   have HAC:Hid (Add w wc):=hAw2.out.trans ha3
   clear ha3 hA2 hAw2 hnm
   go_upto_if 31 with fail
   go_cut [3,11] (λs3 s11 wx=>∃sp',s3=.string sp'/\iG j sp=some sp'/\sp'.size<=max sp.size 65536/\Add wc wx)
   case first=>
    cases hs:j.named kM with
    |none=>
     have hs':(j.named kM).isSome=false:=by rw [hs];rfl
     go_wp2
     go_meet
     exact ⟨sp,rfl,by unfold iG;rw [hs],by omega,Add.refl _⟩
    |some vv=>
     have hs':(j.named kM).isSome=true:=by rw [hs];rfl
     have hje:j.textIn kM=vv.text:=by rw [HJS.out,hs];rfl
     rw [hje] at hts
     cases ht:vv.text with
     |none=>
      rw [ht] at hts
      have HS:Hid (iG j sp=none):=Mw
      clear hs
      go_wp2_with (go_at_call 122;refine (hts _ hA3).mono ?_;rintro e w4 ⟨⟨T,v,rfl⟩,ha4⟩)
      exact ⟨rfl,kH (by rw [HE.out,HS.out]) ⟨_,_,rfl⟩ (hA3.trans ha4)⟩
     |some t=>
      rw [ht] at hts
      have HS:Hid (iG j sp=if t.size=0\/eY t=true then some t else none):=Mw
      clear hs
      by_cases hz:t.size=0
      ·have hE:t.toList=[]:=by rw [ByteArray.toList_eq];exact NT (by simpa using hz)
       have HZ:Hid (t.size=0):=hz
       clear hz
       go_wp2_with (go_at_call 122;refine (hts _ hA3).mono ?_;rintro e w4 ⟨⟨rfl,htz⟩,ha4⟩)
       go_meet
       exact ⟨t,rfl,by rw [HS.out,if_pos (.inl HZ.out)],by omega,ha4⟩
      have hE':t.toList.isEmpty=false:=by
       cases hq:t.toList with
       |nil=>rw [ByteArray.toList_eq] at hq;exact absurd (by simpa using congrArg List.length hq) hz
       |cons _ _=>rfl
      have HZ:Hid (¬ t.size=0):=hz
      clear hz
      cases hff:eY t with
      |false=>
       go_wp2_with (first
        |(go_at_call 122;refine (hts _ hA3).mono ?_;rintro e w4 ⟨⟨rfl,htz⟩,ha4⟩)
        |(go_at_call 173;refine (hfn t _ (hA3.trans ha4) htz).mono ?_;rw [hff];rintro e w5 ⟨rfl,ha5⟩)
        |(go_at_call 118;refine (hqu t _ ((hA3.trans ha4).trans ha5) Kc).mono ?_;rintro e w6 ⟨⟨q,rfl,hqz⟩,ha6⟩;have hc14:(9223372036854775807<14+q.size)=False:=eq_false Kc;clear hqz)
        |(go_at_call 81;refine (dR _ _).mono ?_;rintro e w7 ⟨⟨T,v,rfl⟩,hb7⟩))
       exact ⟨rfl,kH (by rw [HE.out,HS.out,if_neg (by rw [hff];simp [HZ.out])]) ⟨_,_,rfl⟩ ((((hA3.trans ha4).trans ha5).trans ha6).trans hb7)⟩
      |true=>
       go_wp2_with (first
        |(go_at_call 122;refine (hts _ hA3).mono ?_;rintro e w4 ⟨⟨rfl,htz⟩,ha4⟩)
        |(go_at_call 173;refine (hfn t _ (hA3.trans ha4) htz).mono ?_;rw [hff];rintro e w5 ⟨rfl,ha5⟩))
       go_meet
       exact ⟨t,rfl,by rw [HS.out,if_pos (.inr hff)],by omega,ha4.trans ha5⟩
   obtain ⟨sp',rfl,hsi,hsz,ha4⟩:=hcut
   rw [hsi] at HE
   dsimp only at HE
   have hA4:=hA3.trans ha4
   replace q0:=ha4.cell q0
   replace q1:=ha4.cell q1
   replace q2:=ha4.cell q2
   replace q3:=ha4.cell q3
   replace q4:=ha4.cell q4
   replace q5:=ha4.cell q5
   replace ql:w.heap.size<wc.heap.size:=NK ql ha4.size
   have HAW:Hid (Add w wc):=HAC.out.trans ha4
   have hfull:=oz n sp' wc HN.out Kc
   have HFZ:Hid ((fI n sp').size<=max sp.size 65536+65537):=by show _<=_;have:=yE n sp';have:=HN.out;omega
   clear ha4 hA3 HAC hts hfn hqu hsi hsz hn hf HJS
   generalize fI n sp'=F at *
   cases hali:gK eY j with
   |none=>
    rw [hali] at hal HE
    clear hsp
    go_wp2_with (first
     |(go_at_call 117;refine hfull.mono ?_;rintro e w5 ⟨rfl,rfl⟩)
     |(go_at_call 174;refine (hal _ (hA4.trans (ae _ _))).mono ?_;rintro e w5 ⟨⟨T,v,rfl⟩,ha5⟩))
    exact ⟨rfl,kH HE.out ⟨_,_,rfl⟩ ((hA4.trans (ae _ _)).trans ha5)⟩
   |some als=>
    rw [hali] at hal HE
    dsimp only at HE
    clear hali
    go_wp2_with (first
     |(go_at_call 117;refine hfull.mono ?_;rintro e w5 ⟨rfl,rfl⟩)
     |(go_at_call 174;refine (hal _ (hA4.trans (ae _ _))).mono ?_;rintro e wA ⟨⟨xa,rfl,hrow,hown,h12,halz⟩,haA⟩;obtain ⟨xo,xc,rfl⟩:=hrow.shape;have H12:Hid (als.length<=12):=h12;clear h12))
    obtain ⟨N,hN⟩:∃N,als.length=N:=⟨_,rfl⟩
    have HTA:Hid (wA.heap[w5.heap.size]?=some (kR k F (.slice none 0 0))):=by
     show _=_
     rw [haA.old _ Km]
     exact dD _ _
    have HsA:Hid (w5.heap.size<wA.heap.size):=by show _<_;have:=haA.size;rw [dE] at this;omega
    have HAA:Hid (Add w5 wA):=(ae _ _).trans haA
    have hsrc:∀jj,jj<als.length->∃g t,xo=some ⟨g,0,none⟩/\g≠w5.heap.size/\g<wA.heap.size/\wA.cell? ⟨g,jj,none⟩=some (.string t)/\t.size<=65536:=λjj hjj=>by
     rcases hrow with ⟨_,h0,_⟩|⟨g,c,he,hr⟩
     ·omega
     cases he
     refine ⟨g,als[jj],rfl,?_,hr.lt,?_,halz _ (NS hjj)⟩
     ·have:=hown g rfl;rw [dE] at this;omega
     rw [hr.holds jj Kc];simp [hjj]
    rw [hN] at hsrc H12
    rw [hN]
    clear hrow hown halz haA hN hal hA4 q0 q1 q2 q3 q4 q5 ql
    have HSRC:Hid (∀jj,jj<N->∃g t,xo=some ⟨g,0,none⟩/\g≠w5.heap.size/\g<wA.heap.size/\wA.cell? ⟨g,jj,none⟩=some (.string t)/\t.size<=65536):=hsrc
    clear hsrc
    obtain ⟨iS,zS,hiS,hzS,hsS,hz1,hbS⟩:=Tryz.infoS1
    have hbyS:=Y24
    have hspo:=λW=>vV F W (by have:=HFZ.out;omega)
    have hfuo:=λt W (ht:t.size<=65536)=>oz t (gi F) W ht (by have:=HFZ.out;have:=vQ F;omega)
    go_loopw [54] (λcnt wr=>∃(jj:Nat) (av:Value) (cs':List Value),jj<=N/\cnt=.int .i64 jj/\Row wr 1 av jj cs'/\(∀g,blk av=some g->wA.heap.size<=g)/\Upd w5.heap.size wA wr/\wr.heap[w5.heap.size]?=some (kR k F av)) (λcnt _=>N-(intOf cnt).toNat)
    case atStart=>exact ⟨0,_,[],NQ _,rfl,Row.nil _ _,(λ_ h=>by cases h),Upd.refl _ _,HTA.out⟩
    obtain ⟨jj,av,cs',hjj,rfl,hrv,hvo,hup,hty⟩:=hrel
    by_cases hlt:jj<N
    ·obtain ⟨g,t,rfl,hg1,hg2,hg3,hg4⟩:=HSRC.out jj hlt
     obtain ⟨ao,ac,rfl⟩:=hrv.shape
     have hcs:wr.cell? ⟨g,jj,none⟩=some (.string t):=(NY (a:=⟨g,jj,none⟩) (hup.old g hg2 hg1)).trans hg3
     obtain ⟨p0,p1,p2,p3,p4,p5,p6,p7,p8,pz⟩:=gX hty
     have ji:((jj:Int)<(N:Int))=True:=eq_true Kc
     have j0:(0:Int)<=(jj:Int):=Kc
     have j1:(jj:Int)<(N:Int):=Kc
     have hfu:=λW=>hfuo t W hg4
     have HRV:Hid (Row wr 1 (.slice ao jj ac) jj cs'):=hrv
     have HVO:Hid (∀g,blk (.slice ao jj ac)=some g->wA.heap.size<=g):=hvo
     have HUP:Hid (Upd w5.heap.size wA wr):=hup
     have HTY:Hid (wr.heap[w5.heap.size]?=some (kR k F (.slice ao jj ac))):=hty
     have HJ:Hid (jj<N):=hlt
     have hj12:jj<=12:=MI
     clear hrv hvo hup hty hlt hjj hfuo hfull
     go_upto_region 13 with fail
     have HT1:Hid (w5.heap.size<wr.heap.size):=NW _ _ p1
     have hTne:w5.heap.size≠wr.heap.size:=Nat.ne_of_lt HT1.out
     have p2a:∀o,(wr.alloc o).cell? ⟨w5.heap.size,2,none⟩=some (.slice ao jj ac):=λo=>(ae _ _).cell p2
     go_region_law (first
      |(go_simp;go_at_call 150;refine (hspo _).mono ?_;rintro e w6 ⟨rfl,rfl⟩)
      |(go_simp;go_at_call 117;refine (hfu _).mono ?_;rintro e w7 ⟨rfl,rfl⟩)
      |((refine dO _ Kl _ _ 31 31 Kl Ke iS zS iS.bytes underlying31 hiS hzS hsS rfl hz1 Kl KO _ 1 _ Kl (dw _ underlying31 wr.heap.size (.string (fI t (gi F))) Kh rfl) (by have:=HJ.out;have:=H12.out;unfold maxLen;omega) (hbyS _ (by have:=HJ.out;have:=H12.out;omega)) ?_;intro v8 w8 hrow8 hg8;have hg9:Grew (wr.alloc (.cells #[.string (fI t (gi F))] 9)) (.slice ao jj ac) w8 v8:=aZ hg8;have hc81:=hg9.cell (b:=w5.heap.size) (o:=1) Lw (λe=>by have:=HVO.out _ e;have:=HsA.out;omega) ((ae _ _).cell p1);have hc82:=hg9.cell (b:=w5.heap.size) (o:=2) Lw (λe=>by have:=HVO.out _ e;have:=HsA.out;omega) ((ae _ _).cell p2);have hz82:w8.frozen? ⟨w5.heap.size,2,none⟩=false:=(hg9.frozen Lw (λe=>by have:=HVO.out _ e;have:=HsA.out;omega)).trans (((ae _ _).frozen HT1.out).trans (pz 2));obtain ⟨a8,c8,rfl⟩:=hrow8.shape)))
     all_goals go_wp2
     all_goals exact ⟨⟨jj+1,_,_,HJ.out,rfl,DF HsA.out HTY.out HVO.out HUP.out hg9 hrow8⟩,by have:=HJ.out;show N-((jj:Int)+1).toNat<N-(jj:Int).toNat;omega⟩
    have ji:((jj:Int)<(N:Int))=False:=eq_false Kc
    have hAwr:Add w wr:=by
     have h1:=HAW.out
     have h2:=HAA.out
     exact ⟨hup.os.trans (h2.os.trans h1.os),hup.output.trans (h2.output.trans h1.output),NM h1.size (NM h2.size hup.size),λi hi=>by
      have:=h1.size
      have:=h2.size
      rw [hup.old i Kc Kc,h2.old i Kc,h1.old i hi]⟩
    have hTw:w.heap.size<=w5.heap.size:=HAW.out.size
    have hRs:=HR.out.add' hAwr
    obtain ⟨p0,p1,p2,p3,p4,p5,p6,p7,p8,pz⟩:=gX hty
    have hFz:F.size<=70368744177000:=by have:=HFZ.out;omega
    obtain ⟨c,hlook,hcat⟩:=hRs.pl.look F hFz
    have hlk0:=hlook wr rfl
    have hlk1:=hlook wr.drew rfl
    have hr0:=hRs.c0
    have hr1:=hRs.c1
    have hrz:=hRs.f0
    obtain ⟨vo,vc,rfl⟩:=hRs.row.shape
    have HTY:Hid (wr.heap[w5.heap.size]?=some (kR k F av)):=hty
    have HRS:Hid (Rs W0 rb m wr (.slice vo E.length vc) E Bs):=hRs
    have HTW:Hid (w.heap.size<=w5.heap.size):=hTw
    have HAWR:Hid (Add w wr):=hAwr
    have HTWR:Hid (w5.heap.size<wr.heap.size):=NW _ _ p1
    have HR0:Hid (Rs W0 rb m w (.slice vo E.length vc) E Bs):=HR.out
    clear hrv hvo hup hty hlt hjj hfuo hfull hcat hlook hRs hTw hspo hbyS hiS hzS hsS hz1 hbS HR
    go_upto_region 15 with fail
    go_cut [15,16] (λs15 s16 wx=>s15=.int .i64 c/\s16=.bool (dU F (E.map Prod.fst))/\wx=wr.drew)
    case first=>
     exact Z192
    obtain ⟨rfl,rfl,rfl⟩:=hcut
    have hA9:Add W0 wr:=HRS.out.add
    have hTd:STbl wr.drew:=HT.out.add (hA9.trans (af _))
    have hkd:=λW (h:Add wr.drew W)=>ry F W (hTd.words.add h)
    have hit:=λW (h:Add wr.drew W)=>nQ 16 W Kc Kc (hTd.tbl.pow.add h)
    have hc27:(9223372036854775807<27+F.size)=False:=eq_false Kc
    have HF:Hid (F.size<=70368744177000):=hFz
    clear hFz hlk0 hlk1
    have HKI:Hid ((Env.kindOf? F E).isSome=dU F (E.map Prod.fst)):=mF F E
    cases hin:dU F (E.map Prod.fst) with
    |true=>
     have HE2:Hid (gp j sp E=none):=by show _=_;rw [HE.out,HKI.out,hin,if_pos rfl]
     go_wp2_with (go_at_call 81;refine (dR _ _).mono ?_;rintro e w7 ⟨⟨T,v,rfl⟩,hb7⟩)
     exact ⟨rfl,kH HE2.out ⟨_,_,rfl⟩ ((hA9.trans (af _)).trans hb7)⟩
    |false=>
     by_cases hkw:eP F=0
     ·rw [hkw] at hkd
      by_cases h16:E.length=16
      ·have HE2:Hid (gp j sp E=none):=by show _=_;rw [HE.out,HKI.out,hin,if_neg Ke,if_neg (by rw [hkw];decide),if_pos h16]
       have h16i:((E.length:Int)==16)=true:=by rw [h16];rfl
       have H16:Hid (E.length=16):=h16
       clear h16
       go_wp2_with (first
        |(go_at_call 116;refine (hkd _ (Add.refl _)).mono ?_;rintro e w7 ⟨rfl,hw7⟩;rw [hw7])
        |(go_at_call 68;refine (hit _ (Add.refl _)).mono ?_;rintro e w7 ⟨s7,rfl,hs7,ha7⟩;have hc10:(9223372036854775807<10+s7.size)=False:=eq_false Kc;have hc16:(9223372036854775807<10+s7.size+6)=False:=eq_false Kc)
        |(go_at_call 81;refine (dR _ _).mono ?_;rintro e w8 ⟨⟨T,v,rfl⟩,hb8⟩))
       exact ⟨rfl,kH HE2.out ⟨_,_,rfl⟩ (((hA9.trans (af _)).trans ha7).trans hb8)⟩
      have HE2:Hid (gp j sp E=some F):=by show _=_;rw [HE.out,HKI.out,hin,if_neg Ke,if_neg (by rw [hkw];decide),if_neg h16]
      have h16i:((E.length:Int)==16)=false:=Kr
      have H16:Hid (¬ E.length=16):=h16
      clear h16
      go_upto_region 20 with (first
       |(go_at_call 116;refine (hkd _ (Add.refl _)).mono ?_;rintro e w7 ⟨rfl,hw7⟩;rw [hw7]))
      have HNW:Hid (dU F (E.map Prod.fst)=false):=hin
      have HWG:Hid (E.length<16):=by have:=HRS.out.small;have:=H16.out;show _<_;omega
      have hrmW:=HRS.out.rm
      have HRM:Hid (rb≠m/\w5.heap.size≠m/\w5.heap.size≠rb/\blk (.slice vo E.length vc)≠some w5.heap.size):=by
       have h1:=HR0.out.lt
       have h2:=HR0.out.pl.lt
       have h3:=HTW.out
       exact ⟨hrmW,by omega,by omega,λe=>by have:=HR0.out.row.blk_lt e;omega⟩
      have HLR:Hid (rb<wr.heap.size):=HRS.out.lt
      clear hrmW hkd hit hin
      obtain ⟨w8,hrun8,hp8,hg8'⟩:=kS.upd (w:=wr.drew.drew) HF.out (HRS.out.pl.carry rfl) (by rw [List.length_map];have:=HWG.out;omega) HNW.out (E.length:Int) (by rw [List.length_map])
      have hg8:wr.grownBy w8 (some m):=⟨hg8'.os,hg8'.tape,hg8'.output,hg8'.size,hg8'.block⟩
      clear hg8'
      have hq0:=Y74
      have hq1:=(NY (a:=⟨rb,1,none⟩) (hg8.block rb HLR.out (λe=>HRM.out.1 LF))).trans hr1
      have hq2:=(NY (a:=⟨w5.heap.size,1,none⟩) (hg8.block w5.heap.size HTWR.out (λe=>HRM.out.2.1 LF))).trans p1
      go_cut [] (λwx=>kS wx m (E.map Prod.fst++[F])/\wr.grownBy wx (some m))
      case first=>
       go_region_held3 (λw'=>w'.cell? ⟨rb,0,none⟩=some (.slice vo E.length vc)/\w'.cell? ⟨rb,1,none⟩=some (.map (some m))/\w'.cell? ⟨w5.heap.size,1,none⟩=some (.string F)) (first|go_keep|(exact ⟨hq0,hq1,hq2⟩)) (fail)
       all_goals (go_wp2;go_meet;exact ⟨hp8,hg8⟩)
      clear hp8 hg8 hq0 hq1 hq2 hrun8
      obtain ⟨hp8,hg8⟩:=hcut
      have hq0:=Y74
      have hqz:=(Oa (a:=⟨rb,0,none⟩) (hg8.block rb HLR.out (λe=>HRM.out.1 LF))).trans hrz
      have hvm:blk (.slice vo E.length vc)≠some m:=λe=>(HRS.out.vW m e).2.2 rfl
      have hvr:blk (.slice vo E.length vc)≠some rb:=λe=>(HRS.out.vW rb e).2.1 rfl
      have HRW:Hid (Row wc 1 (.slice vo E.length vc) E.length (Bs.map ptr)):=HRS.out.row.carry λi hi=>hg8.block i (HRS.out.row.blk_lt hi) (λe=>hvm (by cases e;exact hi))
      have HLC:Hid (rb<wc.heap.size):=NW _ _ hq0
      obtain ⟨iP,zP,hiP,hzP,hsP,hzz,hbP⟩:=Tryz.infoP1
      have hbyP:=Y75
      have hE5:E.length+1<=5000:=by have:=HWG.out;omega
      go_wp2_with (at_builtin;refine dH _ rfl _ _ 101 101 rfl Ke iP zP iP.bytes underlying101 hiP hzP hsP rfl hzz rfl (HRW.out.alloc _) _ 1 _ rfl (di _ underlying101 _ rfl 53 _ rfl) Ki (hbyP _ hE5) ?_;intro v9 w9 hrow9 hg9;have hq9:=hg9.cell (b:=rb) (o:=0) MT (λe=>hvr e) ((ae _ _).cell hq0);have hqz9:w9.frozen? ⟨rb,0,none⟩=false:=(hg9.frozen MT (λe=>hvr e)).trans (((ae _ _).frozen HLC.out).trans hqz);obtain ⟨a9,c9,rfl⟩:=hrow9.shape)
      have hg10:Grew _ (.slice vo E.length vc) w9 (.slice a9 (E.length+1) c9):=hg9
      have hfin:=Rs.named (k:=k) (F:=F) (av:=av) HRS.out HTY.out (NM HR0.out.add.size HTW.out) HRM.out.2.2.1 HRM.out.2.1 HRM.out.2.2.2 HWG.out hg8 hp8 hg10 hrow9
      go_ret
      unfold mJ
      rw [HE2.out]
      exact ⟨w5.heap.size,_,av,rfl,hfin.1,(HAWR.out.ru rb m _).trans hfin.2.1,HTW.out,hfin.2.2,HFZ.out⟩
     have HE2:Hid (gp j sp E=none):=by show _=_;rw [HE.out,HKI.out,hin,if_neg Ke,if_pos hkw]
     have hkb:((eP F:Int) != 0)=true:=Nj
     clear hkw
     go_wp2_with (first
      |(go_at_call 116;refine (hkd _ (Add.refl _)).mono ?_;rintro e w7 ⟨rfl,hw7⟩;rw [hw7])
      |(go_at_call 81;refine (dR _ _).mono ?_;rintro e w8 ⟨⟨T,v,rfl⟩,hb8⟩))
     exact ⟨rfl,kH HE2.out ⟨_,_,rfl⟩ ((hA9.trans (af _)).trans hb8)⟩
end
section
open Go Go.RowKit Go.Extern.Stop Go.Stop Go.Extern
variable{ok:Nat->Prop}{W0 w w':World}{E:Env}{Bs:List Nat}{b k m rb:Nat}{df:Int}{n:ByteArray}{av v:Value}
def Z193(h:p:=by
 rw [if_neg Kc,if_neg Kc];exact Row.nil _ _):p:=h
theorem NodeAt.of{ok:Nat->Prop}{W0 w:World}{k:Nat}{n:ByteArray}{ns:List ByteArray}{size:Nat}{bs:List Nat}{defs:List (Option J)}{b:Nat}{c2 c3 c4:Value}{df sz:Int}{c7 c8:Value}(hb:w.heap[b]?=some (tyB k n c2 c3 c4 df sz c7 c8))(okb:ok b){cs:List Value}
  (h3:Row w 10 c3 (if k=9 then ns.length else 0) cs) (h3o:∀g,blk c3=some g->ok g) (h3f:k=9->dZ W0 ns bs defs cs)
  (h4o:∀g,blk c4=some g->ok g) (h4:Row w 1 c4 (if k=10 then ns.length else 0) (if k=10 then ns.map Value.string else [])) (hs:sz=size) (h7:k=11\/k=12->∃c,bs=[c]/\c7=ptr c)
  (h8o:∀g,blk c8=some g->ok g) (h8:Row w 1 c8 (if k=13 then bs.length else 0) (if k=13 then bs.map ptr else [])):NodeAt ok W0 w k n ns size bs defs b:=by
 obtain ⟨p0,p1,p2,p3,p4,p5,p6,p7,p8,_⟩:=gX hb
 exact ⟨okb,(Oh hb).1,p0,p1,⟨_,_,p3,h3,h3o,h3f⟩,⟨_,p4,h4o,h4⟩,by rw [p6,hs],⟨_,p7,h7⟩,⟨_,p8,h8o,h8⟩⟩
theorem iW:∀(ok:Nat->Prop) (g:Nat),blk (.slice none 0 0)=some g->ok g:=λ_ _ h=>by cases h
theorem ER(hk:k<=8)(hb:w.heap[b]?=some (tyB k ByteArray.empty (.slice none 0 0) (.slice none 0 0) (.slice none 0 0) df 0 (.pointer none) (.slice none 0 0)))(okb:ok b):(lQ k).at ok W0 w E Bs b:=by
 unfold lQ
 rw [Sch.at]
 refine ⟨[],NodeAt.of (cs:=[]) hb okb ?_ (iW _) (λh=>by omega) (iW _) ?_ rfl (λh=>by omega) (iW _) ?_,by rw [bZ];trivial,λh=>by unfold wt at h;omega⟩
 ·rw [if_neg Kc];exact Row.nil _ _
 ·exact Z193
 exact Z193
theorem of_at{c:Nat}{s:Sch}(hk:k=11\/k=12)(hb:w.heap[b]?=some (tyB k ByteArray.empty (.slice none 0 0) (.slice none 0 0) (.slice none 0 0) df 0 (ptr c) (.slice none 0 0)))(okb:ok b)(hs:s.at ok W0 w E Bs c):(Sch.mk k ByteArray.empty [] 0 [s] []).at ok W0 w E Bs b:=by
 rw [Sch.at]
 refine ⟨[c],NodeAt.of (cs:=[]) hb okb ?_ (iW _) (λh=>by omega) (iW _) ?_ rfl (λh=>⟨c,rfl,rfl⟩) (iW _) ?_,by rw [bZ,bZ];exact ⟨hs,trivial⟩,λh=>by unfold wt at h;omega⟩
 ·rw [if_neg Kc];exact Row.nil _ _
 ·exact Z193
 exact Z193
theorem Jb{z:Nat}{sz:Int}(hb:w.heap[b]?=some (tyB 14 n av (.slice none 0 0) (.slice none 0 0) 0 sz (.pointer none) (.slice none 0 0)))(hz:sz=z)(okb:ok b)(hr:jA E Bs n 14 b):(Sch.mk 14 n [] z [] []).at ok W0 w E Bs b:=by
 rw [Sch.at]
 refine ⟨[],NodeAt.of (cs:=[]) hb okb ?_ (iW _) (λh=>by omega) (iW _) ?_ hz (λh=>by omega) (iW _) ?_,by rw [bZ];trivial,λ_=>hr⟩
 ·exact Row.nil _ _
 ·exact Row.nil _ _
 exact Row.nil _ _
theorem Es{ns:List ByteArray}{sv:Value}(hb:w.heap[b]?=some (tyB 10 n av (.slice none 0 0) sv df 0 (.pointer none) (.slice none 0 0)))(okb:ok b)(hso:∀g,blk sv=some g->ok g)(hsv:Row w 1 sv ns.length (ns.map Value.string))(hr:jA E Bs n 10 b):(Sch.mk 10 n ns 0 [] []).at ok W0 w E Bs b:=by
 rw [Sch.at]
 refine ⟨[],NodeAt.of (cs:=[]) hb okb ?_ (iW _) (λh=>by omega) hso ?_ rfl (λh=>by omega) (iW _) ?_,by rw [bZ];trivial,λ_=>hr⟩
 ·exact Row.nil _ _
 ·exact hsv
 exact Row.nil _ _
theorem Gf{fs:List ByteArray}{ss:List Sch}{bs:List Nat}{ds:List (Option J)}{fv:Value}{cs:List Value}(hb:w.heap[b]?=some (tyB 9 n av fv (.slice none 0 0) 0 0 (.pointer none) (.slice none 0 0)))(okb:ok b)(hfo:∀g,blk fv=some g->ok g)(hfv:Row w 10 fv fs.length cs)(hcs:dZ W0 fs bs ds cs)(hs:bZ ok W0 w E Bs ss bs)(hr:jA E Bs n 9 b):(Sch.mk 9 n fs 0 ss ds).at ok W0 w E Bs b:=by
 rw [Sch.at]
 refine ⟨bs,NodeAt.of (cs:=cs) hb okb ?_ hfo (λ_=>hcs) (iW _) ?_ rfl (λh=>by omega) (iW _) ?_,hs,λ_=>hr⟩
 ·exact hfv
 ·exact Row.nil _ _
 exact Row.nil _ _
theorem GX{ss:List Sch}{bs:List Nat}{bv:Value}(hb:w.heap[b]?=some (tyB 13 ByteArray.empty (.slice none 0 0) (.slice none 0 0) (.slice none 0 0) 0 0 (.pointer none) bv))(okb:ok b)(hbo:∀g,blk bv=some g->ok g)(hbv:Row w 1 bv bs.length (bs.map ptr))(hs:bZ ok W0 w E Bs ss bs):(Sch.mk 13 ByteArray.empty [] 0 ss []).at ok W0 w E Bs b:=by
 rw [Sch.at]
 refine ⟨bs,NodeAt.of (cs:=[]) hb okb ?_ (iW _) (λh=>by omega) (iW _) ?_ rfl (λh=>by omega) hbo ?_,hs,λh=>by unfold wt at h;omega⟩
 ·exact Row.nil _ _
 ·exact Row.nil _ _
 exact hbv
theorem Rs.store(h:Rs W0 rb m w v E Bs)(t c:Nat)(x:Value)(h1:t≠rb)(h2:t≠m)(h3:blk v≠some t)(h4:W0.heap.size<=t)(hc:2<=c):Rs W0 rb m (w.setCell ⟨t,c,none⟩ x) v E Bs:=by
 have hk:∀i,i≠t->(w.setCell ⟨t,c,none⟩ x).heap[i]?=w.heap[i]?:=λi hi=>NZ w ⟨t,c,none⟩ x i hi
 have hrt:rb≠t:=λe=>h1 e.symm
 refine ⟨⟨h.add.os,h.add.output,by simp;exact h.add.size,λi hi=>(hk i Kc).trans (h.add.old i hi)⟩,h.rbW,h.mW,h.vW,h.rm,?_,?_,?_,?_,?_,h.len,h.small,?_⟩
 ·rw [NY (a:=⟨rb,0,none⟩) (hk rb hrt)];exact h.c0
 ·rw [NY (a:=⟨rb,1,none⟩) (hk rb hrt)];exact h.c1
 ·rw [Oa (a:=⟨rb,0,none⟩) (hk rb hrt)];exact h.f0
 ·exact h.row.carry λi hi=>hk i (λe=>h3 (e ▸ hi))
 ·exact h.pl.carry (hk m (λe=>h2 e.symm))
 intro i n k b e1 e2
 obtain ⟨q1,q2,q3,q4,q5,q6,q7⟩:=h.types i n k b e1 e2
 refine ⟨by simp;exact q1,q2,q3,q4,q5,?_,?_⟩
 ·by_cases e:b=t
  ·rw [e] at q6 ⊢
   rw [eU Kc];exact q6
  rw [NY (a:=⟨b,0,none⟩) (hk b e)];exact q6
 by_cases e:b=t
 ·rw [e] at q7 ⊢
  rw [eU Kc];exact q7
 rw [NY (a:=⟨b,1,none⟩) (hk b e)];exact q7
theorem Ru.store{v':Value}(h:Ru rb m w v w' v')(t c:Nat)(x:Value)(ht:w.heap.size<=t):Ru rb m w v (w'.setCell ⟨t,c,none⟩ x) v':=
 ⟨h.os,h.output,by simp;exact h.size,λi hi h1 h2 h3=>(NZ w' ⟨t,c,none⟩ x i (by show i≠t;omega)).trans (h.old i hi h1 h2 h3),h.at'⟩
theorem Ru.add{w1 w2:World}{v1:Value}(h:Ru rb m w v w1 v1)(a:Add w1 w2):Ru rb m w v w2 v1:=h.trans (a.ru rb m v1)
theorem Rs.last{t:Nat}(h:Rs W0 rb m w v (E++[(n,k)]) (Bs++[t])):jA (E++[(n,k)]) (Bs++[t]) n k t/\t<w.heap.size/\W0.heap.size<=t/\t≠rb/\t≠m/\blk v≠some t:=by
 have hl:=h.len
 rw [List.length_append,List.length_append] at hl
 have hl':Bs.length=E.length:=LQ
 have e1:(E++[(n,k)])[E.length]?=some (n,k):=Kh
 have e2:(Bs++[t])[E.length]?=some t:=by rw [<-hl'];simp
 obtain ⟨q1,q2,q3,q4,q5,_⟩:=h.types _ n k t e1 e2
 exact ⟨⟨_,e1,e2⟩,q1,q2,q3,q4,q5⟩
theorem eV{O:Option (Sch × Env)}{e:Ending}(h:O=none)(hs:fV e)(ha:Add W0 w'):oP O W0 rb m w v E Bs e w':=by
 rw [h]
 exact ⟨hs,ha⟩
theorem iE{O:Option (Sch × Env)}{E':Env}{Bs':List Nat}{s:Sch}{v':Value}{e:Ending}(h:O=some (s,E'))(he:e=.returned (ptr b))(h1:Rs W0 rb m w' v' E' Bs')(h2:Ru rb m w v w' v')(h3:E <+: E')(h4:Bs <+: Bs')(h5:s.at (λi=>w.heap.size<=i/\blk v'≠some i) W0 w' E' Bs' b):oP O W0 rb m w v E Bs e w':=by
 rw [h]
 exact ⟨b,v',Bs',he,h1,h2,h3,h4,h5⟩
theorem bM{j:J}{cs:List Value}(h:j.lies ok w cs):j.lies (λ_=>True) w cs:=bP (λ_ _ _=>trivial) _ _ h
end
section
open Go Go.RowKit Go.Extern.Stop Go.Stop Go.Extern
def Y76(h:p:=by exact (show ∀i,w.heap.size<=i->i<wr.heap.size->blk v'≠some i->w2.heap[i]?=wr.heap[i]? from λi h1 h2 h3=>hu.old i h2 (by have:=h.r0.lt;omega) (by have:=h.r0.pl.lt;omega) h3)):p:=h
def Y77(h:p:=by exact (cu (ok':=λi=>(w.heap.size<=i/\i≠t/\blk bv≠some i/\blk v'≠some i)/\i<wr.heap.size) (Keep.refl _ _) (λi h1 h2=>⟨h1,h2⟩) (NN _) (NN _) _ _ h.all)):p:=h
def Z81(h:p:=by
 refine cu ⟨by simp;omega,λi h1 h2=>?_⟩ (λi h1 _=>⟨h1.1.1,h1.1.2.1,hb8 i h1.2 h1.1.2.2.1,h1.1.2.2.2⟩) (NN _) (NN _) _ _ hall2
 rw [hset i h1.1.2.1,hold i h1.2 h1.1.2.2.1]):p:=h
def Z100(h:p:=by
 have hb:=hold b' q1 hne
 exact ⟨by omega,q2,q3,q4,q5,(NY (a:=⟨b',0,none⟩) hb).trans q6,(NY (a:=⟨b',1,none⟩) hb).trans q7⟩):p:=h
def Z103(h:p:=by
 exact cu ⟨hu.size,λi h1 h2=>hold i h1.1.1 h2 h1.1.2.2.2⟩ (λi h1 _=>⟨h1.1.1,h1.1.2.1,h1.1.2.2.1,hv2 i h1.2 h1.1.2.2.2⟩) hE hB _ _ hall):p:=h
def Z113(h:p:=by
 rw [e'] at e
 cases e
 rw [dE] at hg'
 have h1:=h.ru.size
 have h2:=h.tl
 exact ⟨by omega,by omega,λe=>by have:=(hvb _ e).1;omega⟩):p:=h
def Z136(h:p:=by
 rcases hg.at' with e'|⟨g,hg',e'⟩
 ·exact hn (e' ▸ e)
 rw [e'] at e;cases e;rw [dE] at hg';omega):p:=h
def Z138(h:p:=by
 rw [hold i (by have:=h.rs.add.size;omega) (hnb i (by have:=h.r0.add.size;omega)),h.rs.add.old i hi]):p:=h
def Z155(h:p:=by
 have h1:=h.r0.add.size
 have h2:=h.r0.lt
 have h3:=h.r0.pl.lt
 have h4:=h.tn
 omega):p:=h
def Z156(h:p:=by
 rcases hu.at' with e'|⟨g,hg,e'⟩
 ·exact hn (e' ▸ e)
 rw [e'] at e;cases e;omega):p:=h
def Z170(h:p:=by
 rw [hg.old i Km h2,Oc wr o i h1]):p:=h
theorem ct{ok:Nat->Prop}{W0 w:World}{E:Env}{Bs:List Nat}{s:Sch}{b:Nat}(hs:s.at ok W0 w E Bs b):∀(ss:List Sch) (bs:List Nat),bZ ok W0 w E Bs ss bs->bZ ok W0 w E Bs (ss++[s]) (bs++[b])
 |[],[],_=>by
  show bZ _ _ _ _ _ [s] [b]
  rw [bZ,bZ];exact ⟨hs,trivial⟩
 |x::ss,y::bs,h=>by
  rw [bZ] at h
  show bZ _ _ _ _ _ (x::(ss++[s])) (y::(bs++[b]))
  rw [bZ]
  exact ⟨h.1,ct hs ss bs h.2⟩
 |[],_::_,h=>by rw [bZ] at h;exact h.elim;all_goals simp
 |_::_,[],h=>by rw [bZ] at h;exact h.elim;all_goals simp
theorem cB{ok:Nat->Prop}{W0 w:World}{E:Env}{Bs:List Nat} : ∀(ss:List Sch) (bs:List Nat),bZ ok W0 w E Bs ss bs->ss.length=bs.length
 |[],[],_=>rfl
 |x::ss,y::bs,h=>by
  rw [bZ] at h
  rw [List.length_cons,List.length_cons,cB ss bs h.2]
 |[],_::_,h=>by rw [bZ] at h;exact h.elim;all_goals simp
 |_::_,[],h=>by rw [bZ] at h;exact h.elim;all_goals simp
theorem cz{ok:Nat->Prop}{W0 w:World}{E:Env}{Bs:List Nat} : ∀(ss:List Sch) (bs:List Nat),bZ ok W0 w E Bs ss bs->∀i (h:i<ss.length) (h':i<bs.length),ss[i].at ok W0 w E Bs bs[i]
 |[],[],_,i,h,_=>absurd h (Nat.not_lt_zero _)
 |x::ss,y::bs,h,0,_,_=>by rw [bZ] at h;exact h.1
 |x::ss,y::bs,h,i+1,h1,h2=>by
  rw [bZ] at h
  exact cz ss bs h.2 i (by simpa using h1) (by simpa using h2)
 |[],_::_,h,_,_,_=>by rw [bZ] at h;exact h.elim;all_goals simp
 |_::_,[],h,_,_,_=>by rw [bZ] at h;exact h.elim;all_goals simp
theorem cZ{ok:Nat->Prop}{W0 w:World}{rb m:Nat}{v:Value}{E:Env}{Bs:List Nat}(hR:Rs W0 rb m w v E Bs)(s:Sch)(b:Nat)(h:s.at ok W0 w E Bs b):yJ w b s:=by
 cases s with
 |ref k n=>
  rw [Sch.at] at h
  obtain ⟨i,h1,h2⟩:=h
  obtain ⟨_,_,_,_,_,q1,q2⟩:=hR.types i n k b h1 h2
  exact ⟨q1,q2⟩
 |mk k n ns size kids defs=>
  rw [Sch.at] at h
  obtain ⟨bs,h1,_⟩:=h
  exact ⟨h1.kind,h1.name⟩
structure UnI(W0 w wr:World)(rb m t:Nat)(v v':Value)(E E':Env)(Bs Bs':List Nat)(bv:Value)(acc:List Sch)(bs:List Nat):Prop where
 r0:Rs W0 rb m w v E Bs
 rs:Rs W0 rb m wr v' E' Bs'
 ru:Ru rb m w v wr v'
 pe:E <+: E'
 pb:Bs <+: Bs'
 ty:wr.heap[t]?=some (tyB 13 ByteArray.empty (.slice none 0 0) (.slice none 0 0) (.slice none 0 0) 0 0 (.pointer none) bv)
 tn:w.heap.size<=t
 tv:blk v'≠some t
 row:Row wr 1 bv bs.length (bs.map ptr)
 bo:∀g,blk bv=some g->w.heap.size<=g/\g≠t/\blk v'≠some g
 bnil:bs=[]->blk bv=none
 all:bZ (λi=>w.heap.size<=i/\i≠t/\blk bv≠some i/\blk v'≠some i) W0 wr E' Bs' acc bs
variable {W0 w wr:World} {rb m t:Nat} {v v':Value} {E E':Env} {Bs Bs':List Nat} {bv:Value} {acc:List Sch} {bs:List Nat}
theorem UnI.tl(h:UnI W0 w wr rb m t v v' E E' Bs Bs' bv acc bs):t<wr.heap.size:=(Oh h.ty).1
theorem UnI.tW(h:UnI W0 w wr rb m t v v' E E' Bs Bs' bv acc bs):W0.heap.size<=t/\t≠rb/\t≠m:=by
 exact Z155
theorem UnI.read{w2:World}{v2:Value}{E2:Env}{Bs2:List Nat}(h:UnI W0 w wr rb m t v v' E E' Bs Bs' bv acc bs)(hr:Rs W0 rb m w2 v2 E2 Bs2)(hu:Ru rb m wr v' w2 v2)(hE:E' <+: E2)(hB:Bs' <+: Bs2):UnI W0 w w2 rb m t v v2 E E2 Bs Bs2 bv acc bs:=by
 obtain ⟨hW,ht1,ht2⟩:=h.tW
 have hv2:∀i,i<wr.heap.size->blk v'≠some i->blk v2≠some i:=λi hi hn e=>by
  exact Z156
 have hold:=Y76
 have hall:=Y77
 refine ⟨h.r0,hr,h.ru.trans hu,h.pe.trans hE,h.pb.trans hB,(hold t h.tn h.tl h.tv).trans h.ty,h.tn,hv2 t h.tl h.tv,h.row.carry λi hi=>hold i (h.bo i hi).1 (h.row.blk_lt hi) (h.bo i hi).2.2,λg hg=>⟨(h.bo g hg).1,(h.bo g hg).2.1,hv2 g (h.row.blk_lt hg) (h.bo g hg).2.2⟩,h.bnil,?_⟩
 exact Z103
theorem UnI.add{w2:World}(h:UnI W0 w wr rb m t v v' E E' Bs Bs' bv acc bs)(a:Add wr w2):UnI W0 w w2 rb m t v v' E E' Bs Bs' bv acc bs:=h.read (h.rs.add' a) (a.ru rb m v') (NN _) (NN _)
theorem UnI.push{w8:World}{bv8:Value}{o:Obj}{s:Sch}{b T0:Nat}(h:UnI W0 w wr rb m t v v' E E' Bs Bs' bv acc bs)(hs:s.at (λi=>T0<=i/\blk v'≠some i) W0 wr E' Bs' b)(hT1:t<T0)(hT2:∀g,blk bv=some g->g<T0)(hg:Grew (wr.alloc o) bv w8 bv8)(hrow:Row w8 1 bv8 (bs.length+1) (bs.map ptr++[ptr b])):UnI W0 w (w8.setCell ⟨t,8,none⟩ bv8) rb m t v v' E E' Bs Bs' bv8 (acc++[s]) (bs++[b]):=by
 obtain ⟨hW,ht1,ht2⟩:=h.tW
 have hs8:=hg.size
 rw [dE] at hs8
 have hold:∀i,i<wr.heap.size->blk bv≠some i->w8.heap[i]?=wr.heap[i]?:=λi h1 h2=>by
  exact Z170
 have hbt:blk bv≠some t:=λe=>(h.bo t e).2.1 rfl
 have hb8:∀i,i<wr.heap.size->blk bv≠some i->blk bv8≠some i:=λi hi hn e=>by
  exact Z136
 have hvb:∀i,blk v'=some i->i<wr.heap.size/\blk bv≠some i:=λi hi=>⟨h.rs.row.blk_lt hi,λe=>(h.bo i e).2.2 hi⟩
 have hbo8:∀g,blk bv8=some g->w.heap.size<=g/\g≠t/\blk v'≠some g:=λg e=>by
  rcases hg.at' with e'|⟨g',hg',e'⟩
  ·exact h.bo g (e' ▸ e)
  exact Z113
 have hset:∀i,i≠t->(w8.setCell ⟨t,8,none⟩ bv8).heap[i]?=w8.heap[i]?:=λi hi=>NZ w8 ⟨t,8,none⟩ bv8 i hi
 have hR:Rs W0 rb m w8 v' E' Bs':=by
  have hx:∀i,i<wr.heap.size->w8.heap[i]?=wr.heap[i]? \/ blk bv=some i:=λi hi=>by
   by_cases e:blk bv=some i
   ·exact .inr e
   exact .inl (hold i hi e)
  have hnb:∀i,i<w.heap.size->blk bv≠some i:=λi hi e=>by have:=(h.bo i e).1;omega
  have hrb:=hold rb h.rs.lt (hnb rb h.r0.lt)
  have hm:=hold m h.rs.pl.lt (hnb m h.r0.pl.lt)
  refine ⟨⟨hg.os.trans h.rs.add.os,hg.output.trans h.rs.add.output,by have:=h.rs.add.size;omega,λi hi=>?_⟩,h.rs.rbW,h.rs.mW,h.rs.vW,h.rs.rm,(NY (a:=⟨rb,0,none⟩) hrb).trans h.rs.c0,(NY (a:=⟨rb,1,none⟩) hrb).trans h.rs.c1,(Oa (a:=⟨rb,0,none⟩) hrb).trans h.rs.f0,h.rs.row.carry λi hi=>hold i (hvb i hi).1 (hvb i hi).2,h.rs.pl.carry hm,h.rs.len,h.rs.small,?_⟩
  ·exact Z138
  intro i n k b' e1 e2
  obtain ⟨q1,q2,q3,q4,q5,q6,q7⟩:=h.rs.types i n k b' e1 e2
  have hne:blk bv≠some b':=λe=>by
   cases hbs:bs with
   |nil=>rw [h.bnil hbs] at e;cases e
   |cons x r=>
    rcases h.row with ⟨hv,_,_⟩|⟨g,cc,hbv,hgg⟩
    ·rw [hv] at e;cases e
    rw [hbv] at e
    cases e
    have h0:=hgg.holds 0 (by rw [hbs];simp)
    rw [hbs] at h0
    rw [h0] at q6
    cases q6
  exact Z100
 have hty8:=(hold t h.tl hbt).trans h.ty
 have hall:=Y77
 have hs':=cO (ok':=λi=>(w.heap.size<=i/\i≠t/\blk bv≠some i/\blk v'≠some i)/\i<wr.heap.size) (Keep.refl _ _) (λi h1 h2=>⟨⟨by have:=h.tn;omega,by omega,λe=>by have:=hT2 i e;omega,h1.2⟩,h2⟩) (NN _) (NN _) _ _ hs
 have hall2:=ct hs' _ _ hall
 have hru8:Ru rb m w v w8 v':=⟨hg.os.trans h.ru.os,hg.output.trans h.ru.output,by have:=h.ru.size;omega,λi hi h1 h2 h3=>by
  rw [hold i (by have:=h.ru.size;omega) (λe=>by have:=(h.bo i e).1;omega),h.ru.old i hi h1 h2 h3],h.ru.at'⟩
 refine ⟨h.r0,hR.store t 8 bv8 ht1 ht2 h.tv hW Kc,hru8.store t 8 bv8 h.tn,h.pe,h.pb,dG hty8 8 bv8,h.tn,h.tv,?_,hbo8,λe=>by simp at e,?_⟩
 ·rw [List.length_append,List.map_append]
  exact hrow.carry λi hi=>hset i (hbo8 i hi).2.1
 exact Z81
theorem UnI.done(h:UnI W0 w wr rb m t v v' E E' Bs Bs' bv acc bs):(Sch.mk 13 ByteArray.empty [] 0 acc []).at (λi=>w.heap.size<=i/\blk v'≠some i) W0 wr E' Bs' t:=
 GX h.ty ⟨h.tn,h.tv⟩ (λg hg=>⟨(h.bo g hg).1,(h.bo g hg).2.2⟩) h.row (cu (Keep.refl _ _) (λ_ h1 _=>⟨h1.1,h1.2.2.2⟩) (NN _) (NN _) _ _ h.all)
end
end Go.Proofs.YtjmlghgnbclmfaaGreatDoor
