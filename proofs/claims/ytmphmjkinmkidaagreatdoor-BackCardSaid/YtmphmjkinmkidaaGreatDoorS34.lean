import Derived.Test.YtmphmjkinmkidaaGreatDoorS29
import Derived.Test.YtmphmjkinmkidaaGreatDoorS33
set_option linter.defProp false
open Go.Proofs.Tryz
set_option maxRecDepth 20000
set_option maxHeartbeats 4000000
open Go Go.RowKit Go.Extern.Stop Go.Stop Go.Extern
namespace Go.Proofs.YtmphmjkinmkidaaGreatDoor
variable{p:Prop}
section
def Y138(h:p:=by exact (ae w (.cells #[.int .i64 k,.int .i64 i,.int .u64 (b:Int),.string t,.slice na ns.length nc,.slice ka ks.length kc] 42 (0,0)))):p:=h
def Y139(h:p:=by exact (show Hid (∀w',Add w w'->w'.frozen? ⟨fb,0,none⟩=false) from λw' a=>(a.frozen (NW _ _ HF.out.cell)).trans HF.out.frozen)):p:=h
def Z107(h:p:=by
 go_quiet (fail)
 go_wp2
 go_ret
 exact oC HRN.out rfl ((HA1.out.upd fb).trans ((Add.drewN w1 _).upd fb)) (HFZ.out _ (HA1.out.trans (Add.drewN w1 _)))):p:=h
def Z225(h:p:=by
 exact ⟨q0,q1,q2,q3,q4,q5,q6⟩):p:=h
theorem Add.of_old{w w':World}(h:Old w w')(h1:w'.os=w.os)(h2:w'.output=w.output):Add w w':=⟨h1,h2,h.size,λi hi=>h.old i hi⟩
theorem Fitting.add{W w w':World}{tab:List TNode}{pl:Nat->Nat}{fb l:Nat}(h:Fitting W w tab pl fb l)(a:Add w w'):Fitting W w' tab pl fb l:=
 ⟨h.lay,h.tabs,h.many,h.old.trans (Old.add a),h.new,a.cell h.cell,(a.frozen (NW _ _ h.cell)).trans h.frozen,h.bound⟩
theorem oC{fb:Nat}{w w':World}{e:Ending}{R:Option Nat}(hR:R=none)(he:e=.returned (.bool false))(hu:Upd fb w w')(hz:w'.frozen? ⟨fb,0,none⟩=false):FitPost R fb w e w':=by
 subst hR
 exact ⟨he,hu,(λl h=>by cases h),hz⟩
theorem Ca(dep:Nat)(h:dep<=64):IntKind.i64.wrap ((dep:Int)+1)=(dep:Int)+1:=by
 rw [IntKind.wrap_i64]
 omega
theorem IK(tab:List TNode)(pl:Nat->Nat)(depth:Int)(g:Nat->Dat->Nat->Option Nat)(hg:qM tab pl depth g)(hgl:∀id d l l',g id d l=some l'->l'<=1000)(id:Nat)(hid:id<tab.length)
  (W w:World) (k i:Int) (b:Nat) (t:ByteArray) (ns:List ByteArray) (ks:List Dat) (na ka:Option Addr) (nc kc fb l:Nat) (hF:Fitting W w tab pl fb l) (hns:jE W na ns) (hl:Dat.lieAll W ka 0 ks) (hnl:ns.length<=70368744177000) (hss:∀s∈ns,s.size<=70368744177000) (hlen:ks.length<=70368744177000) (hsh:aV ks) (hof:ofB tab[id] i b t ks=true):
  Calls prog 62 #[.pointer (some ⟨fb,0,none⟩),.pointer (some ⟨pl id,0,none⟩),.agg #[.int .i64 k,.int .i64 i,.int .u64 b,.string t,.slice na ns.length nc,.slice ka ks.length kc],.int .i64 depth] w λe w'=>FitPost (gT g tab[id] i ns ks l) fb w e w':=by
 by_cases h9:tab[id].kind=9
 ·have hk9:ks.length=tab[id].fields.length:=by unfold ofB at hof;simpa [h9] using hof
  have e:gT g tab[id] i ns ks l=jM g (tab[id].fields.map Prod.snd) ks l:=by unfold gT;rw [if_pos h9]
  rw [e]
  exact kids_9 tab pl depth g hg hgl id hid W w k i b t ns ks na ka nc kc fb l hF hl hsh h9 hk9
 have e:gT g tab[id] i ns ks l=gR g tab[id] i ns ks l:=by unfold gT;rw [if_neg h9]
 rw [e]
 by_cases h13:tab[id].kind=13
 ·have hp:(0<=i/\i<tab[id].branches.length)/\ks.length=1:=by unfold ofB gq at hof;simpa [h13] using hof
  obtain ⟨⟨hi0,hi1⟩,hk1⟩:=hp
  match ks,hk1,hl,hsh with
  |[d],_,hl,hsh=>
   obtain ⟨m,rfl⟩:∃m:Nat,i=m:=⟨i.toNat,by omega⟩
   have hm:m<tab[id].branches.length:=Kc
   have e2:gR g tab[id] (m:Int) ns [d] l=g tab[id].branches[m] d l:=by
    unfold gR
    rw [if_pos h13,Int.toNat_natCast,NP hm]
   rw [e2]
   rw [aV] at hsh
   exact kids_13 tab pl depth g hg id hid W w k m b t ns d na ka nc kc fb l hF hl hsh.1 h13 hm
 by_cases h11:tab[id].kind=11
 ·exact kids_11 tab pl depth g hg hgl id hid W w k i b t ns ks na ka nc kc fb l hF hl hlen hsh h11
 by_cases h12:tab[id].kind=12
 ·exact kids_12 tab pl depth g hg hgl id hid W w k i b t ns ks na ka nc kc fb l hF hns hl hnl hss hlen hsh h12
 exact FU tab pl depth g id hid W w k i b t ns ks na ka nc kc fb l hF h9 h13 h11 h12
theorem Fs(tab:List TNode)(pl:Nat->Nat)(dep f:Nat)(hdep:dep<=64)(hg:qM tab pl ((dep:Int)+1) (gd (eZ tab f))):qM tab pl (dep:Int) (gd (eZ tab (f+1))):=by
 have hgl:=gd_le (Ei tab f)
 intro id d W w cs fb l hid hF hd hsh
 obtain ⟨k,i,b,t,ns,ks⟩:=d
 rw [Dat.lies] at hd
 obtain ⟨na,nc,ka,kc,rfl,hkr,hir,hbr,hns,hl⟩:=hd
 rw [Dat.shapedT] at hsh
 obtain ⟨s1,s2,s3,s4,s5⟩:=hsh
 have hT:=hF.lay.lies id hid
 have hkk:=hF.lay.kinds id hid
 have hE:gd (eZ tab (f+1)) id (.mk k i b t ns ks) l=if k=tab[id].kind/\gu tab[id].kind i b t ns ks=true/\ofB tab[id] i b t ks=true then gT (gd (eZ tab f)) tab[id] i ns ks l else none:=by rw [zh hF.bound,eZ,NP hid,(BV (Ei tab f) tab[id] i ns ks l hF.bound).1]
 have HE:=bf hE
 have HF:=bf hF
 have hkc:=(hF.old.cell hT.lt).trans hT.kind
 have hbare:=λW=>Jw tab[id].kind k i b t ns ks na ka nc kc W hkk.1 hkk.2
 have hal1:=Y138
 obtain ⟨q0,q1,q2,q3,q4,q5,qz⟩:=dF (dD w (.cells #[.int .i64 k,.int .i64 i,.int .u64 (b:Int),.string t,.slice na ns.length nc,.slice ka ks.length kc] 42 (0,0)))
 have q6:=hal1.cell hkc
 have HA1:=bf hal1
 have HNE:Hid (w.heap.size≠fb/\pl id≠fb):=⟨NR (NW _ _ hF.cell),by have:=hF.new;have:=hT.lt;omega⟩
 have HFZ:=Y139
 have hdi:((dep:Int)<=64)=True:=eq_true Kc
 have hdw:wrap64 ((dep:Int)+1)=(dep:Int)+1:=Kn
 have hd1:=Ca dep hdep
 generalize hR:gd (eZ tab (f+1)) id (.mk k i b t ns ks) l=R at *
 clear hE hR
 go_enter func38,ntmps38
 go_upto_region 1 with fail
 generalize hW1:w.alloc (.cells #[.int .i64 k,.int .i64 i,.int .u64 (b:Int),.string t,.slice na ns.length nc,.slice ka ks.length kc] 42 (0,0))=w1 at *
 clear hW1 hal1 qz
 have hof:=λW' (h:Add w1 W')=>of_any tab[id] pl (pl id) k i b t ns ks na ka nc kc W' ((HF.out.lay.lies id hid).old ((HF.out.old.trans (Old.add HA1.out)).trans (Old.add h))) hkk.1 hkk.2 s1 (HF.out.tabs.of_old ((HF.out.old.trans (Old.add HA1.out)).trans (Old.add h))) (NM HF.out.many ((HF.out.old.trans (Old.add HA1.out)).trans (Old.add h)).size)
 by_cases hke:k=tab[id].kind
 ·have hkb:(k==tab[id].kind)=true:=by rw [beq_iff_eq];exact hke
  cases hb:gu tab[id].kind i b t ns ks with
  |false=>
   rw [hb] at hbare
   have HRN:Hid (R=none):=by show _=_;rw [HE.out,if_neg];rw [hb];exact λh=>by cases h.2.1
   clear hof hke hb hkk hT
   generalize tab[id].kind=kd at *
   refine wp_region_held_drew (S:=(λw'=>w'.cell? ⟨w.heap.size,0,none⟩=some (.int .i64 k)/\w'.cell? ⟨w.heap.size,1,none⟩=some (.int .i64 i)/\w'.cell? ⟨w.heap.size,2,none⟩=some (.int .u64 (b:Int))/\w'.cell? ⟨w.heap.size,3,none⟩=some (.string t)/\w'.cell? ⟨w.heap.size,4,none⟩=some (.slice na ns.length nc)/\w'.cell? ⟨w.heap.size,5,none⟩=some (.slice ka ks.length kc)/\w'.cell? ⟨pl id,0,none⟩=some (.int .i64 kd))) Kf ?_ (λhH=>?_)
   ·exact Z225
   apply tk 0
   apply tk 1
   apply tk 2
   apply tk 3
   apply tk 4
   apply tk 5
   apply tk 6
   apply tk 7
   apply tk 8
   apply tk 9
   apply tk 10
   apply tk 11
   apply tk 12
   apply tk 13
   apply tk 14
   apply tk 15
   apply tk 16
   apply rd 17
   intro K hK
   go_simp
   go_wp2_with (go_at_call 60;refine (hbare _).mono ?_;rintro e w2 ⟨rfl,ho2,hs2,hp2⟩;have HA2:Hid (Add w1 w2):=(af w1).trans (Add.of_old ho2 hs2 hp2))
   refine hK.out _ _ ⟨HA2.out.cell q0,HA2.out.cell q1,HA2.out.cell q2,HA2.out.cell q3,HA2.out.cell q4,HA2.out.cell q5,HA2.out.cell q6⟩ (λhH=>?_)
   clear hK K
   apply tk 18
   apply tk 19
   apply tu 20
   apply tu 21
   apply tu 22
   apply tk 23
   apply tk 24
   apply tu 25
   apply tu 26
   apply tu 27
   apply tu 28
   apply tu 29
   apply tu 30
   apply tk 31
   apply tk 32
   refine wpAnyH_done Kf ?_ _
   all_goals go_wp2
   all_goals go_ret
   all_goals exact oC HRN.out rfl ((HA1.out.upd fb).trans (HA2.out.upd fb)) (HFZ.out _ (HA1.out.trans HA2.out))
  |true=>
   rw [hb] at hbare
   cases ho:ofB tab[id] i b t ks with
   |false=>
    rw [ho] at hof
    have HRN:Hid (R=none):=by show _=_;rw [HE.out,if_neg];rw [ho];exact λh=>by cases h.2.2
    clear hke hb hkk hT ho
    generalize tab[id].kind=kd at *
    refine wp_region_held_drew (S:=(λw'=>w'.cell? ⟨w.heap.size,0,none⟩=some (.int .i64 k)/\w'.cell? ⟨w.heap.size,1,none⟩=some (.int .i64 i)/\w'.cell? ⟨w.heap.size,2,none⟩=some (.int .u64 (b:Int))/\w'.cell? ⟨w.heap.size,3,none⟩=some (.string t)/\w'.cell? ⟨w.heap.size,4,none⟩=some (.slice na ns.length nc)/\w'.cell? ⟨w.heap.size,5,none⟩=some (.slice ka ks.length kc)/\w'.cell? ⟨pl id,0,none⟩=some (.int .i64 kd))) Kf ?_ (λhH=>?_)
    ·exact Z225
    apply tk 0
    apply tk 1
    apply tk 2
    apply tk 3
    apply tk 4
    apply tk 5
    apply tk 6
    apply tk 7
    apply tk 8
    apply tk 9
    apply tk 10
    apply tk 11
    apply tk 12
    apply tk 13
    apply tk 14
    apply tk 15
    apply tk 16
    apply rd 17
    intro K hK
    go_simp
    go_wp2_with (go_at_call 60;refine (hbare _).mono ?_;rintro e w2 ⟨rfl,ho2,hs2,hp2⟩;have HA2:Hid (Add w1 w2):=(af w1).trans (Add.of_old ho2 hs2 hp2))
    refine hK.out _ _ ⟨HA2.out.cell q0,HA2.out.cell q1,HA2.out.cell q2,HA2.out.cell q3,HA2.out.cell q4,HA2.out.cell q5,HA2.out.cell q6⟩ (λhH=>?_)
    clear hK K
    apply tk 18
    apply tk 19
    apply tk 20
    apply tk 21
    apply rd 22
    intro K hK
    go_simp
    go_wp2_with (go_at_call 61;refine (hof _ HA2.out).mono ?_;rintro e w3 ⟨rfl,ho3,hs3,hp3⟩;have HA3:Hid (Add w1 w3):=HA2.out.trans (Add.of_old ho3 hs3 hp3))
    refine hK.out _ _ ⟨HA3.out.cell q0,HA3.out.cell q1,HA3.out.cell q2,HA3.out.cell q3,HA3.out.cell q4,HA3.out.cell q5,HA3.out.cell q6⟩ (λhH=>?_)
    clear hK K
    apply tk 23
    apply tk 24
    apply tu 25
    apply tu 26
    apply tu 27
    apply tu 28
    apply tu 29
    apply tu 30
    apply tk 31
    apply tk 32
    refine wpAnyH_done Kf ?_ _
    all_goals go_wp2
    all_goals go_ret
    all_goals exact oC HRN.out rfl ((HA1.out.upd fb).trans (HA3.out.upd fb)) (HFZ.out _ (HA1.out.trans HA3.out))
   |true=>
    have hkids:=λW' (h:Add w1 W')=>IK tab pl ((dep:Int)+1) (gd (eZ tab f)) hg hgl id hid W W' k i b t ns ks na ka nc kc fb l (HF.out.add (HA1.out.trans h)) hns hl s2 s3 s4 s5 ho
    rw [ho] at hof
    have HRK:Hid (R=gT (gd (eZ tab f)) tab[id] i ns ks l):=by show _=_;rw [HE.out,if_pos ⟨hke,hb,ho⟩]
    clear hke hb hkk hT ho
    generalize gT (gd (eZ tab f)) tab[id] i ns ks l=RR at *
    generalize tab[id].kind=kd at *
    refine wp_region_held_drew (S:=(λw'=>w'.cell? ⟨w.heap.size,0,none⟩=some (.int .i64 k)/\w'.cell? ⟨w.heap.size,1,none⟩=some (.int .i64 i)/\w'.cell? ⟨w.heap.size,2,none⟩=some (.int .u64 (b:Int))/\w'.cell? ⟨w.heap.size,3,none⟩=some (.string t)/\w'.cell? ⟨w.heap.size,4,none⟩=some (.slice na ns.length nc)/\w'.cell? ⟨w.heap.size,5,none⟩=some (.slice ka ks.length kc)/\w'.cell? ⟨pl id,0,none⟩=some (.int .i64 kd))) Kf ?_ (λhH=>?_)
    ·exact Z225
    apply tk 0
    apply tk 1
    apply tk 2
    apply tk 3
    apply tk 4
    apply tk 5
    apply tk 6
    apply tk 7
    apply tk 8
    apply tk 9
    apply tk 10
    apply tk 11
    apply tk 12
    apply tk 13
    apply tk 14
    apply tk 15
    apply tk 16
    apply rd 17
    intro K hK
    go_simp
    go_wp2_with (go_at_call 60;refine (hbare _).mono ?_;rintro e w2 ⟨rfl,ho2,hs2,hp2⟩;have HA2:Hid (Add w1 w2):=(af w1).trans (Add.of_old ho2 hs2 hp2))
    refine hK.out _ _ ⟨HA2.out.cell q0,HA2.out.cell q1,HA2.out.cell q2,HA2.out.cell q3,HA2.out.cell q4,HA2.out.cell q5,HA2.out.cell q6⟩ (λhH=>?_)
    clear hK K
    apply tk 18
    apply tk 19
    apply tk 20
    apply tk 21
    apply rd 22
    intro K hK
    go_simp
    go_wp2_with (go_at_call 61;refine (hof _ HA2.out).mono ?_;rintro e w3 ⟨rfl,ho3,hs3,hp3⟩;have HA3:Hid (Add w1 w3):=HA2.out.trans (Add.of_old ho3 hs3 hp3))
    refine hK.out _ _ ⟨HA3.out.cell q0,HA3.out.cell q1,HA3.out.cell q2,HA3.out.cell q3,HA3.out.cell q4,HA3.out.cell q5,HA3.out.cell q6⟩ (λhH=>?_)
    clear hK K
    apply tk 23
    apply tk 24
    apply tk 25
    apply tk 26
    apply tk 27
    apply tk 28
    apply tk 29
    apply rd 30
    intro K hK
    go_simp
    go_wp2_with (go_at_call 62;refine (hkids _ HA3.out).mono ?_;rintro e w4 ⟨rfl,hu4,hc4,hz4⟩)
    refine hK.out _ _ ⟨hu4.cell HNE.out.1 (HA3.out.cell q0),hu4.cell HNE.out.1 (HA3.out.cell q1),hu4.cell HNE.out.1 (HA3.out.cell q2),hu4.cell HNE.out.1 (HA3.out.cell q3),hu4.cell HNE.out.1 (HA3.out.cell q4),hu4.cell HNE.out.1 (HA3.out.cell q5),hu4.cell HNE.out.2 (HA3.out.cell q6)⟩ (λhH=>?_)
    clear hK K
    apply tk 31
    apply tk 32
    refine wpAnyH_done Kf ?_ _
    all_goals go_wp2
    all_goals go_ret
    all_goals exact ⟨by rw [HRK.out];rfl,(HA1.out.upd fb).trans ((HA3.out.upd fb).trans hu4),λl' h=>hc4 l' (by rw [<-HRK.out];exact h),hz4⟩
 have hkb:(k==tab[id].kind)=false:=by rw [beq_eq_false_iff_ne];exact hke
 have HRN:Hid (R=none):=by show _=_;rw [HE.out,if_neg (λh=>hke h.1)]
 clear hof hbare hke hkk hT
 generalize tab[id].kind=kd at *
 exact Z107
def Y140(h:p:=by exact (show ((65-f:Nat):Int)=((65-(f+1):Nat):Int)+1 from by omega)):p:=h
theorem FM(tab:List TNode)(pl:Nat->Nat):qM tab pl 65 (gd (eZ tab 0)):=by
 intro id d W w cs fb l hid hF hd hsh
 obtain ⟨k,i,b,t,ns,ks⟩:=d
 rw [Dat.lies] at hd
 obtain ⟨na,nc,ka,kc,rfl,-⟩:=hd
 have HRN:Hid (gd (eZ tab 0) id (.mk k i b t ns ks) l=none):=by show _=_;rw [zh hF.bound,eZ]
 have HF:=bf hF
 have HFZ:=Y139
 have hal1:=Y138
 have HA1:=bf hal1
 generalize gd (eZ tab 0) id (.mk k i b t ns ks) l=R at *
 clear hF hsh
 go_enter func38,ntmps38
 go_upto_region 1 with fail
 generalize w.alloc (.cells #[.int .i64 k,.int .i64 i,.int .u64 (b:Int),.string t,.slice na ns.length nc,.slice ka ks.length kc] 42 (0,0))=w1 at *
 clear hal1
 exact Z107
theorem Bq(tab:List TNode)(pl:Nat->Nat):∀f:Nat,f<=65->qM tab pl ((65-f:Nat):Int) (gd (eZ tab f))
 |0,_=>FM tab pl
 |f+1,h=>by
  have ih:=Bq tab pl f Kc
  have e:=Y140
  rw [e] at ih
  exact Fs tab pl (65-(f+1)) f Kc ih
theorem FN{tab:List TNode}{pl:Nat->Nat}{w:World}(hL:Lay w tab pl)(hT:mq w)(hm:34<=w.heap.size)(id:Nat)(hid:id<tab.length)(d:Dat)(cs:List Value)(hd:d.lies w cs)(hsh:d.shapedT):
  Calls prog 22 #[.pointer (some ⟨pl id,0,none⟩),.agg cs.toArray] w λe w'=>e=.returned (.bool (eZ tab 64 id d 0).isSome)/\Add w w':=by
 have hf:=Bq tab pl 64 Ke id d w
 have hd0:=hd
 obtain ⟨k,i,b,t,ns,ks⟩:=d
 rw [Dat.lies] at hd
 obtain ⟨na,nc,ka,kc,rfl,-⟩:=hd
 have hal:=(ae w (.cells #[.int .i64 k,.int .i64 i,.int .u64 (b:Int),.string t,.slice na ns.length nc,.slice ka ks.length kc] 42 (0,0))).trans (ae _ (.cells #[.int .i64 0] 109 (0,0)))
 have hb:=dD (w.alloc (.cells #[.int .i64 k,.int .i64 i,.int .u64 (b:Int),.string t,.slice na ns.length nc,.slice ka ks.length kc] 42 (0,0))) (.cells #[.int .i64 0] 109 (0,0))
 rw [dE] at hb
 obtain ⟨q0,q1,q2,q3,q4,q5,qz⟩:=dF (((ae _ (.cells #[.int .i64 0] 109 (0,0))).old w.heap.size Km).trans (dD w (.cells #[.int .i64 k,.int .i64 i,.int .u64 (b:Int),.string t,.slice na ns.length nc,.slice ka ks.length kc] 42 (0,0))))
 go_enter func22,ntmps22
 go_upto_region 2 with fail
 generalize (w.alloc (.cells #[.int .i64 k,.int .i64 i,.int .u64 (b:Int),.string t,.slice na ns.length nc,.slice ka ks.length kc] 42 (0,0))).alloc (.cells #[.int .i64 0] 109 (0,0))=w1 at *
 have hF:Fitting w w1 tab pl (w.heap.size+1) 0:=⟨hL,hT,hm,Old.add hal,by omega,by unfold World.cell?;rw [hb];rfl,by unfold World.frozen?;rw [hb];simp,by omega⟩
 have hfit:=hf w1 _ (w.heap.size+1) 0 hid hF hd0 hsh
 rw [zh Kc] at hfit
 have HAL:=bf hal
 clear hf hF hL hT hm hd0 hsh hal hb qz
 go_wp2_with (go_at_call 38;refine hfit.mono ?_;rintro e w2 ⟨rfl,hu2,-⟩)
 go_ret
 exact ⟨rfl,hu2.add HAL.out Kc⟩
end
section
def pg(s r d m:Value)(e:Ending):Prop:=∃x,(x=s\/x=r\/x=d\/x=m)/\e=.panicked (gF x)
structure Dcd(W w:World)(tab:List TNode)(pl:Nat->Nat)(rb:Nat)(t:ByteArray)(s r d m:Value)(i l:Nat):Prop where
 lay:Lay W tab pl
 err:WErr W s r d m
 tabs:mq W
 ng:34<=W.heap.size
 old:Old W w
 new:W.heap.size<=rb
 rdr:Rdr w rb t i l
 le:i<=t.size
 sz:t.size<=70368744177000
 lb:l<=1000
section
variable {W w w':World} {tab:List TNode} {pl:Nat->Nat} {rb:Nat} {t:ByteArray} {s r d m:Value} {i l j l':Nat}
theorem Dcd.step(h:Dcd W w tab pl rb t s r d m i l)(hu:Upd rb w w')(hr:Rdr w' rb t j l')(hj:j<=t.size)(hl:l'<=1000):Dcd W w' tab pl rb t s r d m j l':=
 ⟨h.lay,h.err,h.tabs,h.ng,h.old.upd h.new hu,h.new,hr,hj,h.sz,hl⟩
theorem Dcd.add(h:Dcd W w tab pl rb t s r d m i l)(a:Add w w'):Dcd W w' tab pl rb t s r d m i l:=
 ⟨h.lay,h.err,h.tabs,h.ng,h.old.trans (Old.add a),h.new,h.rdr.old (Old.add a),h.le,h.sz,h.lb⟩
theorem Dcd.werr(h:Dcd W w tab pl rb t s r d m i l):WErr w s r d m:=by
 obtain ⟨⟨a,h1,h2⟩,⟨b,h3,h4⟩,⟨c,h5,h6⟩,⟨e,h7,h8⟩⟩:=h.err
 have ho:=h.old
 exact ⟨⟨a,h1,(ho.cell (NW _ _ h2)).trans h2⟩,⟨b,h3,(ho.cell (NW _ _ h4)).trans h4⟩,⟨c,h5,(ho.cell (NW _ _ h6)).trans h6⟩,⟨e,h7,(ho.cell (NW _ _ h8)).trans h8⟩⟩
theorem Dcd.rbn(h:Dcd W w tab pl rb t s r d m i l):34<=rb:=NM h.ng h.new
theorem Dcd.wtabs(h:Dcd W w tab pl rb t s r d m i l):mq w:=h.tabs.of_old h.old
theorem nY(h:Dcd W w tab pl rb t s r d m i l):Calls prog 89 #[.pointer (some ⟨rb,0,none⟩)] w λe w'=>Upd rb w w'/\((pg s r d m e/\lT t i=none)\/∃z j,lT t i=some (z,j)/\e=.returned (.int .i64 z)/\Dcd W w' tab pl rb t s r d m j l/\i<=j):=by
 refine (wQ rb h.rbn t i l s r d m w h.werr h.rdr h.le h.sz).mono λe w' hv=>?_
 unfold lT
 cases hc:vrd t 10 0 i 0 with
 |ok z j=>
  rw [hc] at hv
  have hb:=Ad t 10 0 i 0 z j hc h.le
  exact ⟨hv.2.2,.inr ⟨_,_,rfl,hv.1,h.step hv.2.2 hv.2.1 hb.2 h.lb,hb.1⟩⟩
 |short=>rw [hc] at hv;exact ⟨hv.2,.inl ⟨⟨_,.inl rfl,hv.1⟩,rfl⟩⟩
 |range=>rw [hc] at hv;exact ⟨hv.2,.inl ⟨⟨_,.inr (.inl rfl),hv.1⟩,rfl⟩⟩
theorem Ac(h:Dcd W w tab pl rb t s r d m i l){V:TR}(hV:∀u j,V=.ok u j->j<=t.size){e:Ending}(hv:AU V rb t l s r w e w'):Upd rb w w'/\((pg s r d m e/\tr? V=none)\/∃u j,tr? V=some (u,j)/\e=.returned (.string u)/\Dcd W w' tab pl rb t s r d m j l):=by
 cases V with
 |ok u j=>exact ⟨hv.2.2,.inr ⟨_,_,rfl,hv.1,h.step hv.2.2 hv.2.1 (hV u j rfl) h.lb⟩⟩
 |short=>exact ⟨hv.2,.inl ⟨⟨_,.inl rfl,hv.1⟩,rfl⟩⟩
 |range=>exact ⟨hv.2,.inl ⟨⟨_,.inr (.inl rfl),hv.1⟩,rfl⟩⟩
theorem Aq(h:Dcd W w tab pl rb t s r d m i l)(k:Nat):Calls prog 88 #[.pointer (some ⟨rb,0,none⟩),.int .i64 k] w λe w'=>Upd rb w w'/\((pg s r d m e/\pre t i k=none)\/(∃u,pre t i k=some u/\e=.returned (.string u)/\u.size=k/\Dcd W w' tab pl rb t s r d m (i+k) l)):=by
 unfold pre
 by_cases hk:i+k<=t.size
 ·rw [if_pos hk]
  refine (su rb t i k l s r d m w h.werr h.rdr hk h.sz).mono λe w' hv=>⟨hv.2.2,.inr ⟨_,rfl,hv.1,by rw [ByteArray.size_extract];omega,h.step hv.2.2 Nu hk h.lb⟩⟩
 rw [if_neg hk]
 have hle:=h.le
 refine (oO rb t i l k s r d m w h.werr h.rdr Kc Kc Kc h.sz Kc).mono λe w' hv=>⟨Upd.of_old hv.2.1 hv.2.2.1 hv.2.2.2,.inl ⟨⟨_,.inl rfl,hv.1⟩,rfl⟩⟩
theorem Av(h:Dcd W w tab pl rb t s r d m i l)(n p:Int):Calls prog 87 #[.int .i64 n,.int .i64 p] w λe w'=>w'=w/\((pg s r d m e/\gq p n=false)\/(gq p n=true/\e=.returned (.int .i64 p))):=by
 unfold gq
 by_cases hp:0<=p/\p<n
 ·refine (CL n p s r d m w h.werr hp.1 hp.2).mono λe w' hv=>⟨hv.2,.inr ⟨by simp [hp.1,hp.2],hv.1⟩⟩
 refine (Cz n p s r d m w h.werr Kc).mono λe w' hv=>⟨hv.2,.inl ⟨⟨_,.inr (.inl rfl),hv.1⟩,?_⟩⟩
 by_cases h0:0<=p
 ·rw [decide_eq_false (show ¬ p<n by omega),Bool.and_false]
 rw [decide_eq_false h0,Bool.false_and]
end
section
variable {W w w':World} {tab:List TNode} {pl:Nat->Nat} {rb:Nat} {t:ByteArray} {s r d m:Value} {i l:Nat}
theorem low_d(h:Dcd W w tab pl rb t s r d m i l)(k:Nat)(hk8:k<=8):Calls prog 91 #[.pointer (some ⟨rb,0,none⟩),.int .i64 k] w λe w'=>Upd rb w w'/\((pg s r d m e/\pre t i k=none)\/(∃u,pre t i k=some u/\e=.returned (.int .u64 (gG u.data.toList:Int))/\gG u.data.toList<18446744073709551616/\Dcd W w' tab pl rb t s r d m (i+k) l)):=by
 by_cases hk:i+k<=t.size
 ·have e:pre t i k=some (t.extract i (i+k)):=by unfold pre;rw [if_pos hk]
  rw [e]
  refine (low_ok rb t i k l s r d m w h.werr h.rdr hk hk8 h.sz).mono λe w' hv=>⟨hv.2.2,.inr ⟨_,rfl,hv.1,?_,h.step hv.2.2 Nu hk h.lb⟩⟩
  have h1:=sJ (t.extract i (i+k)).data.toList
  have h2:(t.extract i (i+k)).data.toList.length<=8:=by
   have:(t.extract i (i+k)).data.toList.length=(t.extract i (i+k)).size:=Lx
   rw [this,ByteArray.size_extract]
   omega
  exact NK h1 (NM (Nat.pow_le_pow_right Ke h2) Ke)
 have e:pre t i k=none:=by unfold pre;rw [if_neg hk]
 have hb:=Aq h k
 rw [e] at hb ⊢
 clear e hk
 go_enter func91,ntmps91
 go_wp2_with (go_at_call 88;refine hb.mono ?_;rintro e w1 ⟨hu,⟨⟨x,hx,rfl⟩,-⟩|⟨u,h0,-⟩⟩;rotate_left;cases h0)
 exact ⟨rfl,hu,.inl ⟨⟨x,hx,rfl⟩,trivial⟩⟩
end
def DPost(O:DR)(W:World)(tab:List TNode)(pl:Nat->Nat)(rb:Nat)(t:ByteArray)(s r d m:Value)(w:World)(e:Ending)(w':World):Prop:=
 Upd rb w w'/\((pg s r d m e/\O=none)\/∃x j l cs,O=some (x,j,l)/\e=.returned (.agg cs.toArray)/\x.liesO (λb=>w.heap.size<=b) w' cs/\Dcd W w' tab pl rb t s r d m j l)
def Ib(O:Option (List Dat × Nat × Nat))(W:World)(tab:List TNode)(pl:Nat->Nat)(rb:Nat)(t:ByteArray)(s r d m:Value)(w:World)(e:Ending)(w':World):Prop:=
 Upd rb w w'/\((pg s r d m e/\O=none)\/∃xs j l v cells,O=some (xs,j,l)/\e=.returned v/\KidD w.heap.size w' v xs cells/\Dcd W w' tab pl rb t s r d m j l)
def uj(tab:List TNode)(pl:Nat->Nat)(t:ByteArray)(depth:Int)(g:Nat->Nat->Nat->DR):Prop:=
 ∀(id:Nat) (W w:World) (rb:Nat) (s r d m:Value) (i l:Nat),id<tab.length->Dcd W w tab pl rb t s r d m i l ->
  Calls prog 59 #[.pointer (some ⟨rb,0,none⟩),.pointer (some ⟨pl id,0,none⟩),.int .i64 depth] w λe w'=>DPost (g id i l) W tab pl rb t s r d m w e w'
end
section
theorem Dcd.grew{W w w':World}{tab:List TNode}{pl:Nat->Nat}{rb:Nat}{t:ByteArray}{s r d m:Value}{i l:Nat}{o:Obj}{v v':Value}(h:Dcd W w tab pl rb t s r d m i l)(hg:Grew (w.alloc o) v w' v')(hv:∀g,blk v=some g->W.heap.size<=g/\g≠rb):Dcd W w' tab pl rb t s r d m i l:=by
 have ha:=h.add (ae w o)
 have hr:=ha.rdr.lt
 have hz:=ha.old.size
 have hs:=hg.size
 exact ⟨h.lay,h.err,h.tabs,h.ng,⟨NM hz hs,λi hi=>(hg.old i Kc (λe=>by have:=hv i e;omega)).trans (ha.old.old i hi)⟩,h.new,ha.rdr.carry (hg.old rb hr (λe=>(hv rb e).2 rfl)),h.le,h.sz,h.lb⟩
theorem GU(g:Nat->Nat->Nat->DR)(id:Nat)(ids:List Nat)(ks:List Dat)(i l:Nat):ov g (id::ids) ks i l=match g id i l with
  |none=>none
  |some (d,i,l)=>ov g ids (ks++[d]) i l:=by rw [ov];cases g id i l <;> rfl
theorem Dt{tab:List TNode}{pl:Nat->Nat}{t:ByteArray}{dep:Int}{g:Nat->Nat->Nat->DR}(hg:uj tab pl t dep g)(id:Nat)(hid:id<tab.length){W w:World}{rb:Nat}{s r d m:Value}{i l:Nat}(hD:Dcd W w tab pl rb t s r d m i l):
  Calls prog 95 #[.pointer (some ⟨rb,0,none⟩),.pointer (some ⟨pl id,0,none⟩),.int .i64 dep] w λe w'=>Ib (ov g (tab[id].fields.map Prod.snd) [] i l) W tab pl rb t s r d m w e w':=by
 have hT:=hD.lay.lies id hid
 obtain ⟨fa,fc,h3,hfs⟩:=hT.fields
 have hfid:=hD.lay.fields id hid
 have hszs:=(hD.lay.sizes id hid).2.2.2
 have HL3:=bf hT.lt
 generalize tab[id].fields=F at *
 obtain ⟨N,hN⟩:∃N,F.length=N:=⟨_,rfl⟩
 rw [hN] at h3 hszs
 have HN:=bf hN
 have H12:=bf hszs
 have H3:=bf h3
 have HD:=bf hD
 have HG:=bf hg
 have HFI:=bf hfid
 have HFS:=bf hfs
 have h3w:=(hD.old.cell hT.lt).trans h3
 have hgr:=Hq N hszs w
 generalize hR:ov g (F.map Prod.snd) [] i l=R
 have HR:=bf hR
 have HRB:=bf hD.rdr.lt
 have HB:Hid (w.heap.size<=w.heap.size):=NL _
 clear hT hg hfid hszs hN h3 hfs hD hR
 go_enter func95,ntmps95
 go_upto_region 2 with (go_at_call 131;refine hgr.mono ?_;rintro e w1 ⟨v1,rfl,hk1,ha1⟩;have h3w1:=ha1.cell h3w;have HK1:=bf hk1;have HA1:=bf ha1;clear hk1 ha1)
 clear h3w hgr
 go_wp2
 go_loopw [7,21] (λkv cnt wr=>∃(q iq lq:Nat) (xs:List Dat) (cells:List Value),q<=N/\cnt=.int .i64 q/\xs.length=q/\ov g ((F.map Prod.snd).drop q) xs iq lq=R/\KidD w.heap.size wr kv xs cells/\Upd rb w wr/\Dcd W wr tab pl rb t s r d m iq lq) (λ_ cnt _=>N-(intOf cnt).toNat)
 case atStart=>exact ⟨0,i,l,[],[],NQ _,rfl,rfl,HR.out,HK1.out,HA1.out.upd rb,HD.out.add HA1.out⟩
 obtain ⟨q,iq,lq,xs,cells,hq,rfl,hxl,hrec,hK,hu,hDq⟩:=hrel
 clear h3w1
 by_cases hlt:q<N
 ·have hltF:q<F.length:=KC
  have qi:((q:Int)<(N:Int))=True:=eq_true Kc
  have q0:=Y112
  have q1:(q:Int)<(N:Int):=Kc
  have hq12:q<=12:=MI
  rcases HFS.out with hf0|⟨fbk,fo,rfl,hfbk,hfat⟩
  ·exact Z218
  obtain ⟨aa,al,ac,k',i',tt,a',na',l',c',nl',nc',m',d9,hcells,-⟩:=hfat q hltF
  have hfit:F[q].2<tab.length:=HFI.out F[q] (NS hltF)
  have hfc:∀f,f<10->wr.cell? ⟨fbk,fo+q*10+f,none⟩=(fcs F[q].1 aa al ac (pl F[q].2) k' i' tt a' na' l' c' nl' nc' m' d9.isSome)[f]?:=λf hf=>(hDq.old.cell hfbk).trans (hcells f hf)
  rw [List.drop_eq_getElem_cons (by rw [List.length_map];exact hltF),GU,List.getElem_map] at hrec
  generalize F[q].2=it at hfc hfit hrec
  generalize F[q].1=fn at hfc
  generalize d9.isSome=ds at hfc
  unfold fcs at hfc
  have c0:=Y113
  have c1:=Y114
  have c2:=Y115
  have c3:=Y116
  have c4:=Y117
  have c5:=Y118
  have c6:=Y119
  have c7:=Y120
  have c8:=Y121
  have c9:wr.cell? ⟨fbk,fo+q*10+9,none⟩=some (.bool ds):=hfc 9 Kc
  have HK:=bf hK
  have HU:=bf hu
  have HDQ:=bf hDq
  have HREC:=bf hrec
  obtain ⟨va,vc,hvs⟩:=hK.row.shape
  subst hvs
  rw [hxl]
  have HXL:=bf hxl
  obtain ⟨iV,zV,hiV,hzV,hsV,hz6,hbV⟩:=Tryz.infoD6
  have hbyte:=Y107
  clear hfc hcells hfat hK hu hDq hrec hbV hxl
  go_upto_region 5 with fail
  have hal3:=Y122
  have f2:=(dN (dD wr (.cells #[.string fn,.slice aa al ac,.pointer (some ⟨pl it,0,none⟩),.int .i64 k',.int .i64 i',.string tt,.slice a' l' c',.slice na' nl' nc',.map m',.bool ds] 150 (0,0)))).2.2.1
  generalize wr.alloc (.cells #[.string fn,.slice aa al ac,.pointer (some ⟨pl it,0,none⟩),.int .i64 k',.int .i64 i',.string tt,.slice a' l' c',.slice na' nl' nc',.map m',.bool ds] 150 (0,0))=w3 at hal3 f2 ⊢
  have hdc:=HG.out it W w3 rb s r d m iq lq hfit (HDQ.out.add hal3)
  have HA3:=bf hal3
  clear c0 c1 c2 c3 c4 c5 c6 c7 c8 c9 hal3 hfit
  go_wp2_with (first
   |(go_at_call 59;refine hdc.mono ?_;rintro e w5 ⟨hu5,⟨⟨x,hx,rfl⟩,hO⟩|⟨x,j5,l5,cs5,hO,rfl,hx,hD5⟩⟩;exact ⟨rfl,HU.out.trans ((HA3.out.upd rb).trans hu5),.inl ⟨⟨x,hx,rfl⟩,by have h:=HREC.out;rw [hO] at h;exact h.symm⟩⟩;obtain ⟨dk,dn,db,dt,dna,dka,dnl,dnc,dkl,dkc,rfl⟩:=aO hx;unfold dcs;have HU5:=bf ((HA3.out.upd rb).trans hu5);have HX:Hid (x.liesO (λb=>wr.heap.size<=b) w5 _):=aP (λb hb _=>NM HA3.out.size hb) _ _ hx;have HO:=bf hO;have HD5:=bf hD5;have HROW:Hid (Row w5 6 (.slice va q vc) q cells):=(by have h1:=HK.out.row;rw [HXL.out] at h1;exact h1.carry (λg hg=>HU5.out.old g (HK.out.row.blk_lt (by rw [HXL.out];exact hg)) (by have h2:=HK.out.own g (by rw [HXL.out];exact hg);have h3:=HRB.out;omega)));clear hu5 hx hO hD5)
   |(at_builtin;refine dH _ rfl _ _ 28 28 rfl Ke iV zV iV.bytes underlying28 hiV hzV hsV rfl hz6 rfl (HROW.out.alloc _) _ 1 _ rfl (Src.six _ underlying28 _ rfl 42 _ _ _ _ _ _ (Cc _ _ _ _ _ _ _ _ _ _)) Ki (hbyte _ Kc) ?_;intro v9 w9 hrow9 hg9;have HG9:=bf hg9;have HR9:=bf hrow9;obtain ⟨a9,c9,rfl⟩:=hrow9.shape;clear hrow9 hg9))
  go_roundw
  case rel=>
   have hg9:=HG9.out
   have hkk:=HK.out
   have hxl:=HXL.out
   rw [hxl] at hkk
   have hu9:=hkk.upd (NL _) HU.out HU5.out hg9
   have hp:=hkk.push HU.out.size HU5.out HRB.out HX.out rfl hg9 (by rw [hxl];exact HR9.out)
   exact ⟨q+1,_,_,xs++[x],_,by omega,by go_num,by rw [List.length_append,hxl];rfl,by have h:=HREC.out;rw [HO.out] at h;exact h,hp,hu9,HD5.out.grew hg9 (λg hg=>by have h1:=hkk.own g hg;have h2:=HRB.out;have h3:=HD.out.old.size;omega)⟩
  simp only [intOf];exact oK hlt
 have qi:((q:Int)<(N:Int))=False:=eq_false Kc
 have HK:=bf hK
 have HU:=bf hu
 have HDQ:=bf hDq
 rw [List.drop_eq_nil_of_le Ns,ov] at hrec
 have HREC:=bf hrec
 clear hK hu hDq hrec
 go_wp2
 go_ret
 exact ⟨HU.out,.inr ⟨xs,iq,lq,_,cells,HREC.out.symm,rfl,HK.out,HDQ.out⟩⟩
end
section
variable{W:World}{g k o:Nat}{v0 v1 v2 v3 v4 v5:Value}
def Y141(h:p:=by exact (aq hk1 _ _ (aw (λb hb hl=>⟨hb,hl⟩) _ _ h.lie))):p:=h
def Y142(h:p:=by exact (aN hk2 _ _ (aP (λb hb hl=>⟨hb,hl⟩) _ _ hx))):p:=h
def Z133(h:p:=by
 rcases hg.at' with e|⟨g3,hg3,e⟩
 ·exact absurd e.symm hne
 have e':g=g3:=LH
 omega):p:=h
def Z152(h:p:=by
 intro b hb hne e
 have e':g=b:=LH
 subst e'
 have:=hgv hne
 omega):p:=h
def eT(W:World)(g o:Nat)(v0 v1 v2 v3 v4 v5:Value):World:=
 (((((W.setCell ⟨g,o,none⟩ v0).setCell ⟨g,o+1,none⟩ v1).setCell ⟨g,o+2,none⟩ v2).setCell ⟨g,o+3,none⟩ v3).setCell ⟨g,o+4,none⟩ v4).setCell ⟨g,o+5,none⟩ v5
theorem gy(W:World)(g o:Nat)(v0 v1 v2 v3 v4 v5:Value)(i:Nat)(h:i≠g):(eT W g o v0 v1 v2 v3 v4 v5).heap[i]?=W.heap[i]?:=by
 unfold eT
 exact Z71
theorem jG(W:World)(g o:Nat)(v0 v1 v2 v3 v4 v5:Value):(eT W g o v0 v1 v2 v3 v4 v5).heap.size=W.heap.size:=by
 unfold eT
 simp
theorem sI(W:World)(g o:Nat)(v0 v1 v2 v3 v4 v5:Value):(eT W g o v0 v1 v2 v3 v4 v5).os=W.os/\(eT W g o v0 v1 v2 v3 v4 v5).output=W.output:=by
 unfold eT World.setCell
 exact ⟨rfl,rfl⟩
theorem Fv(h:k<o\/o+6<=k):(eT W g o v0 v1 v2 v3 v4 v5).cell? ⟨g,k,none⟩=W.cell? ⟨g,k,none⟩:=by
 unfold eT
 rw [Ob _ _ _ _ KN,Ob _ _ _ _ KN,Ob _ _ _ _ KN,Ob _ _ _ _ KN,Ob _ _ _ _ KN,Ob _ _ _ _ KN]
theorem fG{v:Value}(h:(W.cell? ⟨g,k,none⟩).isSome=true):((W.setCell ⟨g,o,none⟩ v).cell? ⟨g,k,none⟩).isSome=true:=by
 by_cases e:k=o
 ·subst e
  obtain ⟨x,hx⟩:=Option.isSome_iff_exists.1 h
  rw [Oe _ _ _ hx]
  rfl
 rw [Ob _ _ _ _ KN]
 exact h
theorem rH{v:Value}(h:(W.cell? ⟨g,o,none⟩).isSome=true):(W.setCell ⟨g,o,none⟩ v).cell? ⟨g,o,none⟩=some v:=by
 obtain ⟨x,hx⟩:=Option.isSome_iff_exists.1 h
 exact Oe _ _ _ hx
theorem Cu(h:∀k,k<6->(W.cell? ⟨g,o+k,none⟩).isSome=true):∀f,f<6->(eT W g o v0 v1 v2 v3 v4 v5).cell? ⟨g,o+f,none⟩=[v0,v1,v2,v3,v4,v5][f]?:=by
 have h0:(W.cell? ⟨g,o,none⟩).isSome=true:=h 0 Kc
 intro f hf
 unfold eT
 match f,hf with
 |0,_=>
  show World.cell? _ ⟨g,o,none⟩=some v0
  rw [Ob _ _ _ _ Kh,Ob _ _ _ _ Kh,Ob _ _ _ _ Kh,Ob _ _ _ _ Kh,Ob _ _ _ _ Kh,rH h0]
 |1,_=>
  rw [Ob _ _ _ _ Kh,Ob _ _ _ _ Kh,Ob _ _ _ _ Kh,Ob _ _ _ _ Kh,rH (fG (h 1 Kc))]
  rfl
 |2,_=>
  rw [Ob _ _ _ _ Kh,Ob _ _ _ _ Kh,Ob _ _ _ _ Kh,rH (fG (fG (h 2 Kc)))]
  rfl
 |3,_=>
  rw [Ob _ _ _ _ Kh,Ob _ _ _ _ Kh,rH (fG (fG (fG (h 3 Kc))))]
  rfl
 |4,_=>
  rw [Ob _ _ _ _ Kh,rH (fG (fG (fG (fG (h 4 Kc)))))]
  rfl
 |5,_=>
  rw [rH (fG (fG (fG (fG (fG (h 5 Kc))))))]
  rfl
theorem um(W:World)(g o:Nat)(v0 v1 v2 v3 v4 v5:Value)(a:Addr):(eT W g o v0 v1 v2 v3 v4 v5).frozen? a=W.frozen? a:=by
 unfold eT
 simp only [World.frozen?_setCell]
theorem Dj(h:(W.cell? ⟨g,k,none⟩).isSome=true):((eT W g o v0 v1 v2 v3 v4 v5).cell? ⟨g,k,none⟩).isSome=true:=by
 unfold eT
 exact fG (fG (fG (fG (fG (fG h)))))
theorem Row.last{c n:Nat}{cells zs:List Value}(h:Row W 6 (.slice (some ⟨g,0,none⟩) (n+1) c) (n+1) (cells++zs))(hz:cells.length=n*6):Row (eT W g (n*6) v0 v1 v2 v3 v4 v5) 6 (.slice (some ⟨g,0,none⟩) (n+1) c) (n+1) (cells++[v0,v1,v2,v3,v4,v5])/\(∀k,k<6->(W.cell? ⟨g,n*6+k,none⟩).isSome=true/\W.frozen? ⟨g,n*6+k,none⟩=false):=by
 rcases h with ⟨h,_,_⟩|⟨g',c',e,h⟩
 ·cases h
 cases e
 have hle:=h.le
 have hth:∀k,k<6->(W.cell? ⟨g,n*6+k,none⟩).isSome=true/\W.frozen? ⟨g,n*6+k,none⟩=false:=λk hk=>h.there _ Kc
 have hlen:=h.len
 refine ⟨.inr ⟨g,c,rfl,by rw [jG];exact h.lt,h.le,h.max,by simp;omega,λj hj=>?_,λj hj=>⟨Dj (h.there j hj).1,(um _ _ _ _ _ _ _ _ _ _).trans (h.there j hj).2⟩⟩,hth⟩
 by_cases hjn:j<n*6
 ·rw [Fv (.inl hjn),h.holds j hj,List.getElem?_append_left Kc,List.getElem?_append_left Kc]
 obtain ⟨f,rfl⟩:∃f,j=n*6+f:=⟨j-n*6,by omega⟩
 rw [Cu (λk hk=>(hth k hk).1) f Kc,List.getElem?_append_right Kc,hz,Nat.add_sub_cancel_left]
theorem KidD.push2{B rb g c n:Nat}{wr w5 w6 w8:World}{v:Value}{ds:List Dat}{cells zs:List Value}{v0 v1 v2 v3 v4 v5:Value}{x:Dat}(h:KidD B wr v ds cells)(hn:ds.length=n)(hB:B<=wr.heap.size)(hu:Upd rb wr w5)(hrb:rb<B)(hx:x.liesO (λb=>wr.heap.size<=b) w5 [v0,v1,v2,v3,v4,v5])
  (ha:Add w5 w6) (hg:Grew w6 v w8 (.slice (some ⟨g,0,none⟩) (n+1) c)) (hr:Row w8 6 (.slice (some ⟨g,0,none⟩) (n+1) c) (n+1) (cells++zs)):
  KidD B (eT w8 g (n*6) v0 v1 v2 v3 v4 v5) (.slice (some ⟨g,0,none⟩) (n+1) c) (ds++[x]) (cells++[v0,v1,v2,v3,v4,v5])/\B<=g/\(∀i,i<wr.heap.size->i≠rb->(B<=i->blk v≠some i)->(eT w8 g (n*6) v0 v1 v2 v3 v4 v5).heap[i]?=wr.heap[i]? \/ i=g):=by
 have h2:=hu.size
 have h3:=ha.size
 have h4:=hg.size
 have hcl:cells.length=n*6:=by rw [h.row.len,hn]
 have hBg:B<=g:=by
  rcases hg.at' with e|⟨g3,hg3,e⟩
  ·exact h.own g e.symm
  have e':g=g3:=LH
  omega
 have hgv:blk v≠some g->w6.heap.size<=g:=λhne=>by
  exact Z133
 have hk1:Keep (λb=>(B<=b/\blk v≠some b)/\b<wr.heap.size) wr (eT w8 g (n*6) v0 v1 v2 v3 v4 v5):=⟨by rw [jG];omega,λi hi hl=>by
  rw [gy _ _ _ _ _ _ _ _ _ _ (λe=>by have:=hgv (e ▸ hi.1.2);omega),hg.old i Kc hi.1.2,ha.old i Kc,hu.old i hl Kc]⟩
 have hk2:Keep (λb=>wr.heap.size<=b/\b<w5.heap.size) w5 (eT w8 g (n*6) v0 v1 v2 v3 v4 v5):=⟨by rw [jG];omega,λi hi hl=>by
  have hne:blk v≠some i:=λe=>by have:=h.row.blk_lt e;omega
  rw [gy _ _ _ _ _ _ _ _ _ _ (λe=>by have:=hgv (e ▸ hne);omega),hg.old i Kc hne,ha.old i hl]⟩
 have hn8:∀b,b<w5.heap.size->blk v≠some b->blk (.slice (some ⟨g,0,none⟩) (n+1) c)≠some b:=by
  exact Z152
 have m1:=Y141
 have m2:=Y142
 refine ⟨⟨by rw [List.length_append,hn];exact (hr.last hcl).1,λg' hg'=>by have e':g=g':=(by simpa [blk] using hg');omega,ax rfl (aP (λb hb _=>⟨by omega,hn8 b hb.2 (λe=>by have:=h.row.blk_lt e;omega)⟩) _ _ m2) _ _ (aw (λb hb _=>⟨hb.1.1,hn8 b Kc hb.1.2⟩) _ _ m1)⟩,hBg,λi hi hrn hbv=>?_⟩
 by_cases e:i=g
 ·exact .inr e
 refine .inl ?_
 rw [gy _ _ _ _ _ _ _ _ _ _ e]
 by_cases hbi:B<=i
 ·rw [hg.old i Kc (hbv hbi),ha.old i Kc,hu.old i hi hrn]
 rw [hg.old i Kc (λe=>by have:=h.own i e;omega),ha.old i Kc,hu.old i hi hrn]
end
end Go.Proofs.YtmphmjkinmkidaaGreatDoor
