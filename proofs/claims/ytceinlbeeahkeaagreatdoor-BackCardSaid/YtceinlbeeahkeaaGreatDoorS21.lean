import Derived.Test.YtceinlbeeahkeaaGreatDoorS19
import Derived.Test.YtceinlbeeahkeaaGreatDoorS20
set_option linter.defProp false
open Go.Proofs.Tryz
set_option maxRecDepth 20000
set_option maxHeartbeats 4000000
open Go Go.RowKit Go.Extern.Stop Go.Stop Go.Extern
namespace Go.Proofs.YtceinlbeeahkeaaGreatDoor
variable{p:Prop}
section
def Y88(h:p:=by exact (λW (h:Add W0 W)=>hin0 ig W Ke h)):p:=h
def Z25(h:p:=by
 have HE:Hid (jl (rdS (k+1)) j sp E=none):=KW
 go_enter func80,ntmps80
 go_wp2_with (first
  |(go_at_call 122;refine (htx _ (hA.trans (ae w (.cells #[.int .i64 j.kindI,.int .i64 n0,.string t0,.slice a0 l0 c0,.slice na0 nl0 nc0,.map m0] 85 (0,0))))).mono ?_;rintro e w1 ⟨⟨rfl,htz⟩,ha1⟩;obtain ⟨q0,q1,q2,q3,q4,q5,ql⟩:=iA ha1;have hA1:=(hA.trans (ae _ _)).trans ha1;have HAW:=bf ((ae w _).trans ha1);have HTZ:=bf htz;clear ha1 htz)
  |(go_at_call 116;refine (hkd _ hA1).mono ?_;rintro e w2 ⟨rfl,hw2⟩;rw [hw2];clear hw2)
  |(go_at_call 123;refine (hin _ hA1).mono ?_;rintro e w3 ⟨⟨cs,rfl,hcs⟩,ha3⟩;have hA3:=hA1.trans ha3;have hls:=bN (W0:=W0) (λi h=>h.1) (λi hi=>hA3.old i hi) _ _ hcs;have HAW3:=bf (HAW.out.trans ha3);have hsc:=HS.out _ x cs w3 rb m v E Bs sp hls HXW.out (HR.out.add' HAW3.out) HSP1.out;rw [hrd] at hsc;obtain ⟨n6,t6,a6,na6,l6,c6,nl6,nc6,m6,rfl⟩:=J.lies_cells hls;unfold jc at hsc ⊢;clear hcs hls ha3)
  |(go_at_call 49;refine hsc.mono ?_;rintro e w4 ⟨⟨T,v,rfl⟩,ha4⟩))
 exact ⟨rfl,eV HE.out ⟨_,_,rfl⟩ ha4⟩):p:=h
def Z34(h:p:=by
 rw [hk] at hin
 go_enter func80,ntmps80
 go_wp2_with (first
  |(go_at_call 122;refine (htx _ (hA.trans (ae w (.cells #[.int .i64 j.kindI,.int .i64 n0,.string t0,.slice a0 l0 c0,.slice na0 nl0 nc0,.map m0] 85 (0,0))))).mono ?_;rintro e w1 ⟨⟨rfl,htz⟩,ha1⟩;obtain ⟨q0,q1,q2,q3,q4,q5,ql⟩:=iA ha1;have hA1:=(hA.trans (ae _ _)).trans ha1;have HAW:=bf ((ae w _).trans ha1);have HTZ:=bf htz;clear ha1 htz)
  |(go_at_call 116;refine (hkd _ hA1).mono ?_;rintro e w2 ⟨rfl,hw2⟩;rw [hw2];clear hw2)
  |(go_at_call 123;refine (hin _ hA1).mono ?_;rintro e w3 ⟨⟨T,v,rfl⟩,ha3⟩))
 exact ⟨rfl,eV HE.out ⟨_,_,rfl⟩ (hA1.trans ha3)⟩):p:=h
def Z73(h:p:=by
 rw [e5]
 clear hT hR hsp hw hl ih e5 hr
 go_enter func49,ntmps49
 go_wp2_with (go_at_call 81;refine (dR _ _).mono ?_;rintro e w3 ⟨⟨T,v,rfl⟩,hb3⟩)
 exact ⟨rfl,eV rfl ⟨_,_,rfl⟩ ((hA.trans (ae _ _)).trans hb3)⟩):p:=h
def Z76(h:p:=by
 go_ret
 exact iE HE.out rfl HR2.out ((HAW.out.ru rb m v).trans HU2.out) HEB.out.1 HEB.out.2 (cO (Keep.refl _ _) (λ_ h1 _=>⟨NM HAW.out.size h1.1,h1.2⟩) (NN _) (NN _) _ _ HAT.out)):p:=h
def Z210(h:p:=by
 exact ⟨rfl,eV HE.out ⟨_,_,rfl⟩ ha3⟩):p:=h
def Z214(h:p:=by
 exact ⟨rfl,eV rfl ⟨_,_,rfl⟩ ha3⟩):p:=h
theorem uO{O:Option (Sch × Env)}{W0:World}{rb m:Nat}{w w1:World}{v:Value}{E:Env}{Bs:List Nat}{e:Ending}{w':World}(h:oP O W0 rb m w1 v E Bs e w')(a:Add w w1):oP O W0 rb m w v E Bs e w':=by
 cases O with
 |none=>exact h
 |some p=>
  obtain ⟨s,E2⟩:=p
  obtain ⟨b,v2,Bs2,he,hR,hu,hE,hB,hat⟩:=h
  exact ⟨b,v2,Bs2,he,hR,(a.ru rb m v).trans hu,hE,hB,cO (Keep.refl _ _) (λ_ h1 _=>⟨NM a.size h1.1,h1.2⟩) (NN _) (NN _) _ _ hat⟩
theorem iO(t:ByteArray)(l:List UInt8):(t.toList==l)=decide (t=⟨l.toArray⟩):=by
 have e:(⟨l.toArray⟩:ByteArray).toList=l:=by rw [ByteArray.toList_eq]
 have h:=gB t ⟨l.toArray⟩
 rw [e] at h
 exact h
theorem wy{c k:Nat}(h3:max c 65536+65537*(k+2)<=10000000000):max c 65536+65537*(k+1)<=10000000000/\c<=10000000000:=Kc
theorem GY{ok:Nat->Prop}{j:J}{cs:List Value}{W0 w:World}{rb m:Nat}{v:Value}{E:Env}{Bs:List Nat}{k:Nat}(hS:qR W0 k)(sp:ByteArray)(hT:STbl W0)(hl:j.lies ok W0 cs)(hw:j.within (k+1))(hR:Rs W0 rb m w v E Bs)(hsp:max sp.size 65536+65537*(k+2)<=10000000000):
  Calls prog 80 #[.pointer (some ⟨rb,0,none⟩),.agg cs.toArray,.string sp] w λe w'=>oP (jl (rdS (k+1)) j sp E) W0 rb m w v E Bs e w':=by
 replace hl:j.lies (λb=>b<W0.heap.size) W0 cs:=bP (λ_ _ h=>h) _ _ hl
 have htx:=λW (h:Add W0 W)=>mt eW W Ke (bL hl h)
 have hin0:=λkey W (hk:key.size<=65536) (h:Add W0 W)=>Am key W hk (bL hl h)
 have hrec:=λW (h:Add w W)=>Gx hS sp hT hl hw (hR.add' h) hsp
 have henu:=λW (h:Add w W)=>JX sp hT hl (hR.add' h) (wy hsp).2
 have hfix:=λW (h:Add w W)=>Ge sp hT hl (hR.add' h) (wy hsp).2
 have HR:=bf hR
 have HS:=bf hS
 have HW:=bf hw
 have HSP1:=bf (wy hsp).1
 have hA:=hR.add
 have hqu0:=λt W (h:Add W0 W) (hz:t.size<=70368744177)=>uJ t W hz (hT.add h)
 have hkd0:=λt W (h:Add W0 W)=>ry t W (hT.add h).words
 obtain ⟨n0,t0,a0,na0,l0,c0,nl0,nc0,m0,rfl⟩:=Y39
 unfold jc at htx hin0 hrec henu hfix ⊢
 clear hT hl hR hS hw hsp
 cases ht:j.textIn eW with
 |none=>
  rw [ht] at htx
  have HE:Hid (jl (rdS (k+1)) j sp E=none):=by show _=_;unfold jl;rw [ht]
  clear hin0 hrec henu hfix hqu0 hkd0
  go_enter func80,ntmps80
  go_wp2_with (go_at_call 122;refine (htx _ (hA.trans (ae w (.cells #[.int .i64 j.kindI,.int .i64 n0,.string t0,.slice a0 l0 c0,.slice na0 nl0 nc0,.map m0] 85 (0,0))))).mono ?_;rintro e w1 ⟨⟨T,v,rfl⟩,ha1⟩)
  exact Z162
 |some ty=>
 rw [ht] at htx
 have hkd:=hkd0 ty
 have hqu:=hqu0 ty
 clear hkd0 hqu0
 by_cases hk0:eP ty=0
 ·have hkb:((eP ty:Int) != 0)=false:=by rw [hk0];rfl
  by_cases h0:ty=lK
  ·have e0:ty.toList=[97,114,114,97,121]:=by rw [h0,ByteArray.toList_eq];rfl
   have HO:Hid (jl (rdS (k+1)) j sp E=ofS (rdS (k+1)) 11 jm j sp E):=by show _=_;unfold jl;simp only [ht];rw [if_neg Kc,if_pos h0]
   have HK0:=bf hk0
   clear hk0 ht hrec henu hfix hqu h0
   cases hk:j.named jm with
   |none=>
    have HE:Hid (jl (rdS (k+1)) j sp E=none):=MX
    have hin:=λW (h:Add W0 W)=>hin0 jm W Ke h
    exact Z34
   |some x=>
    have hin:=λW (h:Add W0 W)=>hin0 jm W Ke h
    rw [hk] at hin
    have HXW:Hid (x.within k):=by
     exact Z195
    cases hrd:rdS (k+1) x sp E with
    |none=>
     exact Z25
    |some p=>
     obtain ⟨s,E2⟩:=p
     have HE:Hid (jl (rdS (k+1)) j sp E=some (.mk 11 ByteArray.empty [] 0 [s] [],E2)):=KW
     go_enter func80,ntmps80
     go_wp2_with (first
      |(go_at_call 122;refine (htx _ (hA.trans (ae w (.cells #[.int .i64 j.kindI,.int .i64 n0,.string t0,.slice a0 l0 c0,.slice na0 nl0 nc0,.map m0] 85 (0,0))))).mono ?_;rintro e w1 ⟨⟨rfl,htz⟩,ha1⟩;obtain ⟨q0,q1,q2,q3,q4,q5,ql⟩:=iA ha1;have hA1:=(hA.trans (ae _ _)).trans ha1;have HAW:=bf ((ae w _).trans ha1);have HTZ:=bf htz;clear ha1 htz)
      |(go_at_call 116;refine (hkd _ hA1).mono ?_;rintro e w2 ⟨rfl,hw2⟩;rw [hw2];clear hw2)
      |(go_at_call 123;refine (hin _ hA1).mono ?_;rintro e w3 ⟨⟨cs,rfl,hcs⟩,ha3⟩;have hA3:=hA1.trans ha3;have hls:=bN (W0:=W0) (λi h=>h.1) (λi hi=>hA3.old i hi) _ _ hcs;have HAW3:=bf (HAW.out.trans ha3);have hsc:=HS.out _ x cs w3 rb m v E Bs sp hls HXW.out (HR.out.add' HAW3.out) HSP1.out;rw [hrd] at hsc;obtain ⟨n6,t6,a6,na6,l6,c6,nl6,nc6,m6,rfl⟩:=J.lies_cells hls;unfold jc at hsc ⊢;clear hcs hls ha3)
      |(go_at_call 49;refine hsc.mono ?_;rintro e w4 ⟨br,v2,Bs2,he,hR2,hu2,hE2,hB2,hat⟩;have he':e=.returned (.pointer (some ⟨br,0,none⟩)):=he;subst he';have HR2:=bf hR2;have HU2:=bf hu2;have HEB:=bf (And.intro hE2 hB2);have HAT:=bf hat;clear hR2 hu2 hE2 hB2 hat))
     go_ret
     have hal:=ae w4 (tyB 11 ByteArray.empty (.slice none 0 0) (.slice none 0 0) (.slice none 0 0) 0 0 (ptr br) (.slice none 0 0))
     have hs3:=HAW3.out.size
     have hs4:=HU2.out.size
     exact iE HE.out rfl (HR2.out.add' hal) (((HAW3.out.ru rb m v).trans HU2.out).add hal) HEB.out.1 HEB.out.2 (of_at (.inl rfl) (dD _ _) ⟨by omega,λe=>by have:=HR2.out.row.blk_lt e;omega⟩ (cO ⟨hal.size,λi _ hi=>hal.old i hi⟩ (λi h _=>⟨by omega,h.2⟩) (NN _) (NN _) _ _ HAT.out))
  by_cases h1:ty=wh
  ·have e0:(ty.toList==[97,114,114,97,121])=false:=KT
   have e1:ty.toList=[109,97,112]:=by rw [h1,ByteArray.toList_eq];rfl
   have HO:Hid (jl (rdS (k+1)) j sp E=ofS (rdS (k+1)) 12 ig j sp E):=by show _=_;unfold jl;simp only [ht];rw [if_neg Kc,if_neg h0,if_pos h1]
   have HK0:=bf hk0
   clear hk0 ht hrec henu hfix hqu h0 h1
   cases hk:j.named ig with
   |none=>
    have HE:Hid (jl (rdS (k+1)) j sp E=none):=MX
    have hin:=Y88
    exact Z34
   |some x=>
    have hin:=Y88
    rw [hk] at hin
    have HXW:Hid (x.within k):=by
     exact Z195
    cases hrd:rdS (k+1) x sp E with
    |none=>
     exact Z25
    |some p=>
     obtain ⟨s,E2⟩:=p
     have HE:Hid (jl (rdS (k+1)) j sp E=some (.mk 12 ByteArray.empty [] 0 [s] [],E2)):=KW
     go_enter func80,ntmps80
     go_wp2_with (first
      |(go_at_call 122;refine (htx _ (hA.trans (ae w (.cells #[.int .i64 j.kindI,.int .i64 n0,.string t0,.slice a0 l0 c0,.slice na0 nl0 nc0,.map m0] 85 (0,0))))).mono ?_;rintro e w1 ⟨⟨rfl,htz⟩,ha1⟩;obtain ⟨q0,q1,q2,q3,q4,q5,ql⟩:=iA ha1;have hA1:=(hA.trans (ae _ _)).trans ha1;have HAW:=bf ((ae w _).trans ha1);have HTZ:=bf htz;clear ha1 htz)
      |(go_at_call 116;refine (hkd _ hA1).mono ?_;rintro e w2 ⟨rfl,hw2⟩;rw [hw2];clear hw2)
      |(go_at_call 123;refine (hin _ hA1).mono ?_;rintro e w3 ⟨⟨cs,rfl,hcs⟩,ha3⟩;have hA3:=hA1.trans ha3;have hls:=bN (W0:=W0) (λi h=>h.1) (λi hi=>hA3.old i hi) _ _ hcs;have HAW3:=bf (HAW.out.trans ha3);have hsc:=HS.out _ x cs w3 rb m v E Bs sp hls HXW.out (HR.out.add' HAW3.out) HSP1.out;rw [hrd] at hsc;obtain ⟨n6,t6,a6,na6,l6,c6,nl6,nc6,m6,rfl⟩:=J.lies_cells hls;unfold jc at hsc ⊢;clear hcs hls ha3)
      |(go_at_call 49;refine hsc.mono ?_;rintro e w4 ⟨br,v2,Bs2,he,hR2,hu2,hE2,hB2,hat⟩;have he':e=.returned (.pointer (some ⟨br,0,none⟩)):=he;subst he';have HR2:=bf hR2;have HU2:=bf hu2;have HEB:=bf (And.intro hE2 hB2);have HAT:=bf hat;clear hR2 hu2 hE2 hB2 hat))
     go_ret
     have hal:=ae w4 (tyB 12 ByteArray.empty (.slice none 0 0) (.slice none 0 0) (.slice none 0 0) 0 0 (ptr br) (.slice none 0 0))
     have hs3:=HAW3.out.size
     have hs4:=HU2.out.size
     exact iE HE.out rfl (HR2.out.add' hal) (((HAW3.out.ru rb m v).trans HU2.out).add hal) HEB.out.1 HEB.out.2 (of_at (.inr rfl) (dD _ _) ⟨by omega,λe=>by have:=HR2.out.row.blk_lt e;omega⟩ (cO ⟨hal.size,λi _ hi=>hal.old i hi⟩ (λi h _=>⟨by omega,h.2⟩) (NN _) (NN _) _ _ HAT.out))
  by_cases h2:ty=kI
  ·have e0:(ty.toList==[97,114,114,97,121])=false:=KT
   have e1:(ty.toList==[109,97,112])=false:=Lh
   have e2:ty.toList=[114,101,99,111,114,100]:=by rw [h2,ByteArray.toList_eq];rfl
   have HO:Hid (jl (rdS (k+1)) j sp E=il (rdS (k+1)) j sp E):=by show _=_;unfold jl;simp only [ht];rw [if_neg Kc,if_neg h0,if_neg h1,if_pos h2]
   clear hk0 ht hin0 hqu h0 h1 h2 henu hfix
   cases hob:il (rdS (k+1)) j sp E with
   |none=>
    have HE:Hid (jl (rdS (k+1)) j sp E=none):=KZ
    rw [hob] at hrec
    clear hob
    go_enter func80,ntmps80
    go_wp2_with (first
     |(go_at_call 122;refine (htx _ (hA.trans (ae w (.cells #[.int .i64 j.kindI,.int .i64 n0,.string t0,.slice a0 l0 c0,.slice na0 nl0 nc0,.map m0] 85 (0,0))))).mono ?_;rintro e w1 ⟨⟨rfl,htz⟩,ha1⟩;obtain ⟨q0,q1,q2,q3,q4,q5,ql⟩:=iA ha1;have hA1:=(hA.trans (ae _ _)).trans ha1;have HAW:=bf ((ae w _).trans ha1);have HTZ:=bf htz;clear ha1 htz)
     |(go_at_call 116;refine (hkd _ hA1).mono ?_;rintro e w2 ⟨rfl,hw2⟩;rw [hw2];clear hw2)
     |(go_at_call 124;refine (hrec _ HAW.out).mono ?_;rintro e w3 ⟨⟨T,v,rfl⟩,ha3⟩))
    exact Z210
   |some p=>
    obtain ⟨s,E2⟩:=p
    have HE:Hid (jl (rdS (k+1)) j sp E=some (s,E2)):=KZ
    rw [hob] at hrec
    clear hob
    go_enter func80,ntmps80
    go_wp2_with (first
     |(go_at_call 122;refine (htx _ (hA.trans (ae w (.cells #[.int .i64 j.kindI,.int .i64 n0,.string t0,.slice a0 l0 c0,.slice na0 nl0 nc0,.map m0] 85 (0,0))))).mono ?_;rintro e w1 ⟨⟨rfl,htz⟩,ha1⟩;obtain ⟨q0,q1,q2,q3,q4,q5,ql⟩:=iA ha1;have hA1:=(hA.trans (ae _ _)).trans ha1;have HAW:=bf ((ae w _).trans ha1);have HTZ:=bf htz;clear ha1 htz)
     |(go_at_call 116;refine (hkd _ hA1).mono ?_;rintro e w2 ⟨rfl,hw2⟩;rw [hw2];clear hw2)
     |(go_at_call 124;refine (hrec _ HAW.out).mono ?_;rintro e w3 ⟨br,v2,Bs2,he,hR2,hu2,hE2,hB2,hat⟩;have he':e=.returned (.pointer (some ⟨br,0,none⟩)):=he;subst he';have HR2:=bf hR2;have HU2:=bf hu2;have HEB:=bf (And.intro hE2 hB2);have HAT:=bf hat;clear hR2 hu2 hE2 hB2 hat))
    exact Z76
  by_cases h3:ty=oU
  ·have e0:(ty.toList==[97,114,114,97,121])=false:=KT
   have e1:(ty.toList==[109,97,112])=false:=Lh
   have e2:(ty.toList==[114,101,99,111,114,100])=false:=LW
   have e3:ty.toList=[101,110,117,109]:=by rw [h3,ByteArray.toList_eq];rfl
   have HO:Hid (jl (rdS (k+1)) j sp E=jW j sp E):=by show _=_;unfold jl;simp only [ht];rw [if_neg Kc,if_neg h0,if_neg h1,if_neg h2,if_pos h3]
   clear hk0 ht hin0 hqu h0 h1 h2 h3 hrec hfix
   cases hob:jW j sp E with
   |none=>
    have HE:Hid (jl (rdS (k+1)) j sp E=none):=KZ
    rw [hob] at henu
    clear hob
    go_enter func80,ntmps80
    go_wp2_with (first
     |(go_at_call 122;refine (htx _ (hA.trans (ae w (.cells #[.int .i64 j.kindI,.int .i64 n0,.string t0,.slice a0 l0 c0,.slice na0 nl0 nc0,.map m0] 85 (0,0))))).mono ?_;rintro e w1 ⟨⟨rfl,htz⟩,ha1⟩;obtain ⟨q0,q1,q2,q3,q4,q5,ql⟩:=iA ha1;have hA1:=(hA.trans (ae _ _)).trans ha1;have HAW:=bf ((ae w _).trans ha1);have HTZ:=bf htz;clear ha1 htz)
     |(go_at_call 116;refine (hkd _ hA1).mono ?_;rintro e w2 ⟨rfl,hw2⟩;rw [hw2];clear hw2)
     |(go_at_call 125;refine (henu _ HAW.out).mono ?_;rintro e w3 ⟨⟨T,v,rfl⟩,ha3⟩))
    exact Z210
   |some p=>
    obtain ⟨s,E2⟩:=p
    have HE:Hid (jl (rdS (k+1)) j sp E=some (s,E2)):=KZ
    rw [hob] at henu
    clear hob
    go_enter func80,ntmps80
    go_wp2_with (first
     |(go_at_call 122;refine (htx _ (hA.trans (ae w (.cells #[.int .i64 j.kindI,.int .i64 n0,.string t0,.slice a0 l0 c0,.slice na0 nl0 nc0,.map m0] 85 (0,0))))).mono ?_;rintro e w1 ⟨⟨rfl,htz⟩,ha1⟩;obtain ⟨q0,q1,q2,q3,q4,q5,ql⟩:=iA ha1;have hA1:=(hA.trans (ae _ _)).trans ha1;have HAW:=bf ((ae w _).trans ha1);have HTZ:=bf htz;clear ha1 htz)
     |(go_at_call 116;refine (hkd _ hA1).mono ?_;rintro e w2 ⟨rfl,hw2⟩;rw [hw2];clear hw2)
     |(go_at_call 125;refine (henu _ HAW.out).mono ?_;rintro e w3 ⟨br,v2,Bs2,he,hR2,hu2,hE2,hB2,hat⟩;have he':e=.returned (.pointer (some ⟨br,0,none⟩)):=he;subst he';have HR2:=bf hR2;have HU2:=bf hu2;have HEB:=bf (And.intro hE2 hB2);have HAT:=bf hat;clear hR2 hu2 hE2 hB2 hat))
    exact Z76
  by_cases h4:ty=mQ
  ·have e0:(ty.toList==[97,114,114,97,121])=false:=KT
   have e1:(ty.toList==[109,97,112])=false:=Lh
   have e2:(ty.toList==[114,101,99,111,114,100])=false:=LW
   have e3:(ty.toList==[101,110,117,109])=false:=Nz
   have e4:ty.toList=[102,105,120,101,100]:=by rw [h4,ByteArray.toList_eq];rfl
   have HO:Hid (jl (rdS (k+1)) j sp E=iU j sp E):=by show _=_;unfold jl;simp only [ht];rw [if_neg Kc,if_neg h0,if_neg h1,if_neg h2,if_neg h3,if_pos h4]
   clear hk0 ht hin0 hqu h0 h1 h2 h3 h4 hrec henu
   cases hob:iU j sp E with
   |none=>
    have HE:Hid (jl (rdS (k+1)) j sp E=none):=KZ
    rw [hob] at hfix
    clear hob
    go_enter func80,ntmps80
    go_wp2_with (first
     |(go_at_call 122;refine (htx _ (hA.trans (ae w (.cells #[.int .i64 j.kindI,.int .i64 n0,.string t0,.slice a0 l0 c0,.slice na0 nl0 nc0,.map m0] 85 (0,0))))).mono ?_;rintro e w1 ⟨⟨rfl,htz⟩,ha1⟩;obtain ⟨q0,q1,q2,q3,q4,q5,ql⟩:=iA ha1;have hA1:=(hA.trans (ae _ _)).trans ha1;have HAW:=bf ((ae w _).trans ha1);have HTZ:=bf htz;clear ha1 htz)
     |(go_at_call 116;refine (hkd _ hA1).mono ?_;rintro e w2 ⟨rfl,hw2⟩;rw [hw2];clear hw2)
     |(go_at_call 126;refine (hfix _ HAW.out).mono ?_;rintro e w3 ⟨⟨T,v,rfl⟩,ha3⟩))
    exact Z210
   |some p=>
    obtain ⟨s,E2⟩:=p
    have HE:Hid (jl (rdS (k+1)) j sp E=some (s,E2)):=KZ
    rw [hob] at hfix
    clear hob
    go_enter func80,ntmps80
    go_wp2_with (first
     |(go_at_call 122;refine (htx _ (hA.trans (ae w (.cells #[.int .i64 j.kindI,.int .i64 n0,.string t0,.slice a0 l0 c0,.slice na0 nl0 nc0,.map m0] 85 (0,0))))).mono ?_;rintro e w1 ⟨⟨rfl,htz⟩,ha1⟩;obtain ⟨q0,q1,q2,q3,q4,q5,ql⟩:=iA ha1;have hA1:=(hA.trans (ae _ _)).trans ha1;have HAW:=bf ((ae w _).trans ha1);have HTZ:=bf htz;clear ha1 htz)
     |(go_at_call 116;refine (hkd _ hA1).mono ?_;rintro e w2 ⟨rfl,hw2⟩;rw [hw2];clear hw2)
     |(go_at_call 126;refine (hfix _ HAW.out).mono ?_;rintro e w3 ⟨br,v2,Bs2,he,hR2,hu2,hE2,hB2,hat⟩;have he':e=.returned (.pointer (some ⟨br,0,none⟩)):=he;subst he';have HR2:=bf hR2;have HU2:=bf hu2;have HEB:=bf (And.intro hE2 hB2);have HAT:=bf hat;clear hR2 hu2 hE2 hB2 hat))
    exact Z76
  have e0:(ty.toList==[97,114,114,97,121])=false:=KT
  have e1:(ty.toList==[109,97,112])=false:=Lh
  have e2:(ty.toList==[114,101,99,111,114,100])=false:=LW
  have e3:(ty.toList==[101,110,117,109])=false:=Nz
  have e4:(ty.toList==[102,105,120,101,100])=false:=by rw [iO];exact decide_eq_false h4
  have HE:Hid (jl (rdS (k+1)) j sp E=none):=by show _=_;unfold jl;simp only [ht];rw [if_neg Kc,if_neg h0,if_neg h1,if_neg h2,if_neg h3,if_neg h4]
  clear hk0 ht hin0 hrec henu hfix h0 h1 h2 h3 h4
  go_enter func80,ntmps80
  go_wp2_with (first
   |(go_at_call 122;refine (htx _ (hA.trans (ae w (.cells #[.int .i64 j.kindI,.int .i64 n0,.string t0,.slice a0 l0 c0,.slice na0 nl0 nc0,.map m0] 85 (0,0))))).mono ?_;rintro e w1 ⟨⟨rfl,htz⟩,ha1⟩;obtain ⟨q0,q1,q2,q3,q4,q5,ql⟩:=iA ha1;have hA1:=(hA.trans (ae _ _)).trans ha1;have HAW:=bf ((ae w _).trans ha1);have HTZ:=bf htz;clear ha1 htz)
   |(go_at_call 116;refine (hkd _ hA1).mono ?_;rintro e w2 ⟨rfl,hw2⟩;rw [hw2];clear hw2)
   |(go_at_call 118;refine (hqu _ hA1 (by have:=HTZ.out;omega)).mono ?_;rintro e w3 ⟨⟨q,rfl,hqz⟩,ha3⟩;have hc26:(9223372036854775807<26+q.size)=False:=eq_false (by have:=HTZ.out;omega);clear hqz)
   |(go_at_call 81;refine (dR _ _).mono ?_;rintro e w4 ⟨⟨T,v,rfl⟩,hb4⟩))
  exact ⟨rfl,eV HE.out ⟨_,_,rfl⟩ ((hA1.trans ha3).trans hb4)⟩
 have hkb:((eP ty:Int) != 0)=true:=Nj
 have HE:Hid (jl (rdS (k+1)) j sp E=some (lQ (eP ty),E)):=by show _=_;unfold jl;simp only [ht];rw [if_pos hk0]
 have HK8:Hid (eP ty<=8):=(iB hk0).2.1
 clear hin0 hrec henu hfix hqu hk0
 generalize eP ty=kk at *
 go_enter func80,ntmps80
 go_wp2_with (first
  |(go_at_call 122;refine (htx _ (hA.trans (ae w (.cells #[.int .i64 j.kindI,.int .i64 n0,.string t0,.slice a0 l0 c0,.slice na0 nl0 nc0,.map m0] 85 (0,0))))).mono ?_;rintro e w1 ⟨⟨rfl,htz⟩,ha1⟩;obtain ⟨q0,q1,q2,q3,q4,q5,ql⟩:=iA ha1;have hA1:=(hA.trans (ae _ _)).trans ha1;have HAW:=bf ((ae w _).trans ha1);have HTZ:=bf htz;clear ha1 htz)
  |(go_at_call 116;refine (hkd _ hA1).mono ?_;rintro e w2 ⟨rfl,hw2⟩;rw [hw2];clear hw2))
 go_ret
 have hal:=HAW.out.trans (ae w1 (kR kk ByteArray.empty (.slice none 0 0)))
 exact iE HE.out rfl (HR.out.add' hal) (hal.ru rb m _) (NN _) (NN _) (ER HK8.out (dD _ _) ⟨HAW.out.size,λe=>by have:=HR.out.row.blk_lt e;have:=HAW.out.size;omega⟩)
theorem zI{W0:World}(hT:STbl W0)(k:Nat)(ih:∀k',k=k'+1->qR W0 k'):qR W0 k:=by
 intro ok j cs w rb m v E Bs sp hl hw hR hsp
 have HR:=bf hR
 have hA:=hR.add
 cases j with
 |str t=>
  rw [lW]
  rw [J.lies] at hl
  obtain ⟨rfl,htz⟩:=hl
  unfold jc
  have hby:=λW (h:Add w W)=>Dm t sp hT htz (hR.add' h) Kc
  clear hT hR hsp htz hw ih
  cases hob:jJ t sp E with
  |none=>
   rw [hob] at hby
   go_enter func49,ntmps49
   go_wp2_with (go_at_call 78;refine (hby _ (ae w _)).mono ?_;rintro e w3 ⟨⟨T,v,rfl⟩,ha3⟩)
   exact Z214
  |some p=>
   obtain ⟨s,E2⟩:=p
   rw [hob] at hby
   go_enter func49,ntmps49
   go_wp2_with (go_at_call 78;refine (hby _ (ae w _)).mono ?_;intro e w3 hp;have HP:=bf (uO hp (ae w _));obtain ⟨br,v2,Bs2,he,hR2,hu2,hE2,hB2,hat⟩:=hp;have he':e=.returned (.pointer (some ⟨br,0,none⟩)):=he;subst he';clear hR2 hu2 hE2 hB2 hat)
   go_ret
   exact HP.out
 |arr l=>
  rw [nz]
  cases k with
  |zero=>exact Z224
  |succ k=>
   rw [J.within] at hw
   have hun:=λW (h:Add w W)=>GZ (ih k rfl) sp hT hl hw (hR.add' h) (wy hsp).1
   obtain ⟨n0,t0,a0,na0,l0,c0,nl0,nc0,m0,rfl⟩:=Y39
   unfold jc at hun ⊢
   have e5:(J.arr l).kindI=5:=rfl
   rw [e5] at hun ⊢
   clear hT hR hsp hw hl ih e5
   cases hob:iM (rdS (k+1)) l sp E with
   |none=>
    rw [hob] at hun
    go_enter func49,ntmps49
    go_wp2_with (go_at_call 79;refine (hun _ (ae w _)).mono ?_;rintro e w3 ⟨⟨T,v,rfl⟩,ha3⟩)
    exact Z214
   |some p=>
    obtain ⟨s,E2⟩:=p
    rw [hob] at hun
    go_enter func49,ntmps49
    go_wp2_with (go_at_call 79;refine (hun _ (ae w _)).mono ?_;intro e w3 hp;have HP:=bf (uO hp (ae w _));obtain ⟨br,v2,Bs2,he,hR2,hu2,hE2,hB2,hat⟩:=hp;have he':e=.returned (.pointer (some ⟨br,0,none⟩)):=he;subst he';clear hR2 hu2 hE2 hB2 hat)
    go_ret
    exact HP.out
 |obj ns vs=>
  rw [jZ]
  cases k with
  |zero=>exact Z224
  |succ k=>
   have hun:=λW (h:Add w W)=>GY (ih k rfl) sp hT hl hw (hR.add' h) hsp
   obtain ⟨n0,t0,a0,na0,l0,c0,nl0,nc0,m0,rfl⟩:=Y39
   unfold jc at hun ⊢
   have e5:(J.obj ns vs).kindI=6:=rfl
   rw [e5] at hun ⊢
   clear hT hR hsp hw hl ih e5
   cases hob:jl (rdS (k+1)) (J.obj ns vs) sp E with
   |none=>
    rw [hob] at hun
    go_enter func49,ntmps49
    go_wp2_with (go_at_call 80;refine (hun _ (ae w _)).mono ?_;rintro e w3 ⟨⟨T,v,rfl⟩,ha3⟩)
    exact Z214
   |some p=>
    obtain ⟨s,E2⟩:=p
    rw [hob] at hun
    go_enter func49,ntmps49
    go_wp2_with (go_at_call 80;refine (hun _ (ae w _)).mono ?_;intro e w3 hp;have HP:=bf (uO hp (ae w _));obtain ⟨br,v2,Bs2,he,hR2,hu2,hE2,hB2,hat⟩:=hp;have he':e=.returned (.pointer (some ⟨br,0,none⟩)):=he;subst he';clear hR2 hu2 hE2 hB2 hat)
    go_ret
    exact HP.out
 |null=>
  have hr:rdS (k+1) (.null) sp E=none:=Nc
  rw [hr]
  obtain ⟨n0,t0,a0,na0,l0,c0,nl0,nc0,m0,rfl⟩:=Y39
  unfold jc
  have e5:(J.null).kindI=1:=rfl
  exact Z73
 |bool b=>
  have hr:rdS (k+1) (.bool b) sp E=none:=Nc
  rw [hr]
  obtain ⟨n0,t0,a0,na0,l0,c0,nl0,nc0,m0,rfl⟩:=Y39
  unfold jc
  have e5:(J.bool b).kindI=2:=rfl
  exact Z73
 |num z=>
  have hr:rdS (k+1) (.num z) sp E=none:=Nc
  rw [hr]
  obtain ⟨n0,t0,a0,na0,l0,c0,nl0,nc0,m0,rfl⟩:=Y39
  unfold jc
  have e5:(J.num z).kindI=3:=rfl
  exact Z73
theorem rX{W0:World}(hT:STbl W0):∀k,qR W0 k
 |0=>zI hT 0 (λk' h=>by omega)
 |k+1=>zI hT (k+1) (λk' h=>by
  have:k=k':=Kc
  exact this ▸ rX hT k)
end
end Go.Proofs.YtceinlbeeahkeaaGreatDoor
