import Derived.Test.YtmphmjkinmkidaaGreatDoorS17
set_option linter.defProp false
open Go.Proofs.Tryz
set_option maxRecDepth 8000
set_option maxHeartbeats 4000000
namespace Go.Proofs.YtmphmjkinmkidaaGreatDoor
variable{p:Prop}
section
open Go Go.RowKit Go.Extern.Stop Go.Stop Go.Extern
theorem qg{w w':World}{B t:Nat}{o:Nat}{x:Value}(h:w.cell? ⟨B,o,none⟩=some x)(hu:Upd t w w')(hne:B≠t):w'.cell? ⟨B,o,none⟩=some x:=hu.cell hne h
theorem DA{W0 w w1 w3:World}{rb m:Nat}{v v1 sv:Value}{E:Env}{Bs:List Nat}{n:ByteArray}{t:Nat}{av:Value}{ns:List ByteArray}(hR1:Rs W0 rb m w1 v1 (E++[(n,10)]) (Bs++[t]))(hu:Ru rb m w v w1 v1)(ht:w.heap.size<=t)(hty:w1.heap[t]?=some (kR 10 n av))(ha:Add w1 w3)(hrow:Row w3 1 sv ns.length (ns.map Value.string))(hso:∀g,blk sv=some g->w1.heap.size<=g)(d:Int):
  Rs W0 rb m ((w3.setCell ⟨t,4,none⟩ sv).setCell ⟨t,5,none⟩ (.int .i64 d)) v1 (E++[(n,10)]) (Bs++[t])/\Ru rb m w v ((w3.setCell ⟨t,4,none⟩ sv).setCell ⟨t,5,none⟩ (.int .i64 d)) v1/\((w3.setCell ⟨t,4,none⟩ sv).setCell ⟨t,5,none⟩ (.int .i64 d)).heap[t]?=some (tyB 10 n av (.slice none 0 0) sv d 0 (.pointer none) (.slice none 0 0))/\Row ((w3.setCell ⟨t,4,none⟩ sv).setCell ⟨t,5,none⟩ (.int .i64 d)) 1 sv ns.length (ns.map Value.string)/\Upd t w3 ((w3.setCell ⟨t,4,none⟩ sv).setCell ⟨t,5,none⟩ (.int .i64 d)):=by
 have hR3:=hR1.add' ha
 obtain ⟨_,hl,hW,h1,h2,h3⟩:=hR1.last
 have hty3:=(ha.old t hl).trans hty
 refine ⟨(hR3.store t 4 sv h1 h2 h3 hW Kc).store t 5 _ h1 h2 h3 hW Kc,((hu.add ha).store t 4 sv ht).store t 5 _ ht,dG (dG hty3 4 sv) 5 _,?_,(Upd.set _ _ _ _).trans (Upd.set _ _ _ _)⟩
 refine hrow.carry λi hi=>?_
 have hne:i≠t:=by have:=hso i hi;omega
 rw [NZ _ _ _ i hne,NZ _ _ _ i hne]
theorem vN{j:J}{sp:ByteArray}{E:Env}(h:(j.listIn iY 1).bind (dQ dJ [])=none):jW j sp E=none:=by
 unfold jW
 cases gp j sp E with
 |none=>rfl
 |some n=>rw [h]
theorem JX{ok:Nat->Prop}{j:J}{cs:List Value}{W0 w:World}{rb m:Nat}{v:Value}{E:Env}{Bs:List Nat}(sp:ByteArray)(hT:STbl W0)(hl:j.lies ok W0 cs)(hR:Rs W0 rb m w v E Bs)(hsp:sp.size<=10000000000):
  Calls prog 125 #[.pointer (some ⟨rb,0,none⟩),.agg cs.toArray,.string sp] w λe w'=>oP (jW j sp E) W0 rb m w v E Bs e w':=by
 have hnm:=λW (h:Add w W)=>xJ (ok:=ok) 10 sp hT hl (hR.add' h) hsp
 have hli:=λW (h:Add W0 W)=>rC (ok:=ok) iY 1 1 rfl W (hT.add h).tbl Ke Kc (bL hl h)
 have hno:=λ(l:List J) a c W (h:Add W0 W) (h2:J.lieAll (λb=>ok b) W a 0 l) (h3:l.length<=12)=>tZ (c:=c) W (hT.add h) h2 h3
 have hdf:=λW (h:Add W0 W)=>lZ (ok:=ok) gD W Ke (bL hl h)
 have htx:=λW (h:Add W0 W)=>mt (ok:=ok) gD W Ke (bL hl h)
 have HR:=Y73
 obtain ⟨n0,t0,a0,na0,l0,c0,nl0,nc0,m0,rfl⟩:=Y39
 unfold jc at hnm hli hdf htx ⊢
 unfold mJ at hnm
 clear hT hl hR hsp
 cases hn:gp j sp E with
 |none=>
  have HE:Hid (jW j sp E=none):=by show _=_;unfold jW;rw [hn]
  rw [hn] at hnm
  clear hli hno hdf htx
  go_enter func125,ntmps125
  exact Z69
 |some n=>
  rw [hn] at hnm
  cases hlv:j.listIn iY 1 with
  |none=>
   have HE:Hid (jW j sp E=none):=vN (by rw [hlv];rfl)
   rw [hlv] at hli
   clear hno hdf htx
   go_enter func125,ntmps125
   go_wp2_with (first
    |(go_at_call 147;refine (hnm _ (ae w (.cells #[.int .i64 j.kindI,.int .i64 n0,.string t0,.slice a0 l0 c0,.slice na0 nl0 nc0,.map m0] 85 (0,0)))).mono ?_;rintro e w1 ⟨t,v1,av,he,hR1,hu1,ht1,hty,hnz⟩;have he':e=.returned (.pointer (some ⟨t,0,none⟩)):=he;subst he';obtain ⟨q0,q1,q2,q3,q4,q5,ql⟩:=nZ hu1 HR.out;have HR1:Hid (Rs W0 rb m w1 v1 (E++[(n,10)]) (Bs++[t])):=hR1;clear hR1 hty hnz hu1 ht1)
    |(go_at_call 148;refine (hli _ HR1.out.add).mono ?_;rintro e w2 ⟨⟨T,v,rfl⟩,ha2⟩))
   exact Z185
  |some l=>
   rw [hlv] at hli
   cases hns:dQ dJ [] l with
   |none=>
    have HE:Hid (jW j sp E=none):=vN (by rw [hlv];exact hns)
    clear hdf htx
    go_enter func125,ntmps125
    go_wp2_with (first
     |(go_at_call 147;refine (hnm _ (ae w (.cells #[.int .i64 j.kindI,.int .i64 n0,.string t0,.slice a0 l0 c0,.slice na0 nl0 nc0,.map m0] 85 (0,0)))).mono ?_;rintro e w1 ⟨t,v1,av,he,hR1,hu1,ht1,hty,hnz⟩;have he':e=.returned (.pointer (some ⟨t,0,none⟩)):=he;subst he';obtain ⟨q0,q1,q2,q3,q4,q5,ql⟩:=nZ hu1 HR.out;have HR1:Hid (Rs W0 rb m w1 v1 (E++[(n,10)]) (Bs++[t])):=hR1;clear hR1 hty hnz hu1 ht1)
     |(go_at_call 148;refine (hli _ HR1.out.add).mono ?_;rintro e w2 ⟨⟨a2,c2,rfl,hll,hl12⟩,ha2⟩;have HL2:Hid (l.length<=12):=hl12;clear hl12;have hno2:=hno l a2 c2 w2 (HR1.out.add.trans ha2) (bJ (λb h _=>h.1) _ _ _ hll) HL2.out)
     |(go_at_call 153;refine hno2.mono ?_;rw [hns];rintro e w3 ⟨⟨T,v,rfl⟩,ha3⟩))
    exact ⟨rfl,eV HE.out ⟨_,_,rfl⟩ ((HR1.out.add.trans ha2).trans ha3)⟩
   |some ns=>
    have HEE:Hid (jW j sp E=match j.named gD with
     |none=>some (.mk 10 n ns 0 [] [],E++[(n,10)])
     |some d=>match d.text with
      |none=>none
      |some t=>if dU t ns=true then some (.mk 10 n ns 0 [] [],E++[(n,10)]) else none):=by show _=_;unfold jW;rw [hn,hlv];simp only [Option.bind_some,hns];cases j.named gD with|none=>rfl|some d=>cases d.text <;> rfl
    go_enter func125,ntmps125
    go_upto_region 4 with (first
     |(go_at_call 147;refine (hnm _ (ae w (.cells #[.int .i64 j.kindI,.int .i64 n0,.string t0,.slice a0 l0 c0,.slice na0 nl0 nc0,.map m0] 85 (0,0)))).mono ?_;rintro e w1 ⟨t,v1,av,he,hR1,hu1,ht1,hty,hnz⟩;have he':e=.returned (.pointer (some ⟨t,0,none⟩)):=he;subst he';obtain ⟨q0,q1,q2,q3,q4,q5,ql⟩:=nZ hu1 HR.out;have HR1:Hid (Rs W0 rb m w1 v1 (E++[(n,10)]) (Bs++[t])):=hR1;have HTY:Hid (w1.heap[t]?=some (kR 10 n av)):=hty;have HU:Hid (Ru rb m w v w1 v1):=((ae w _).ru rb m v).trans hu1;have HT:Hid (w.heap.size<=t):=(wX ht1);have HTN:Hid (w.heap.size≠t):=(BD ht1);clear hR1 hty hnz hu1 ht1)
     |(go_at_call 148;refine (hli _ HR1.out.add).mono ?_;rintro e w2 ⟨⟨a2,c2,rfl,hll,hl12⟩,ha2⟩;have HL2:Hid (l.length<=12):=hl12;clear hl12;have hno2:=hno l a2 c2 w2 (HR1.out.add.trans ha2) (bJ (λb h _=>h.1) _ _ _ hll) HL2.out)
     |(go_at_call 153;refine hno2.mono ?_;rw [hns];rintro e w3 ⟨⟨sv,rfl,hrow3,hown3,hn12,hnz3⟩,ha3⟩;have HROW3:Hid (Row w3 1 sv ns.length (ns.map Value.string)):=hrow3;have HOWN3:Hid (∀g,blk sv=some g->w2.heap.size<=g):=hown3;have HN12:Hid (ns.length<=12/\∀t∈ns,t.size<=65536):=⟨hn12,hnz3⟩;have HA12:Hid (Add w1 w2):=ha2;have HA13:Hid (Add w1 w3):=ha2.trans ha3;have HTY3:Hid (w3.heap[t]?=some (kR 10 n av)):=(HA13.out.old t (Oh HTY.out).1).trans HTY.out;clear hrow3 hown3 hn12 hnz3 ha2 ha3 hll;obtain ⟨p0,p1,p2,p3,p4,p5,p6,p7,p8,pz⟩:=gX HTY3.out;have p4':=pz 4;have p5':=pz 5;obtain ⟨asv,csv,hsv,hstr⟩:=sw.row HROW3.out;have HSTR:Hid (sw w3 asv ns):=hstr;clear hstr))
    subst hsv
    obtain ⟨hR4,hU4,hB4,hRow4,hUp4⟩:=DA HR1.out HU.out HT.out HTY.out HA13.out HROW3.out (λg hg=>NM HA12.out.size (HOWN3.out g hg)) (-1)
    replace q0:=qg (HA13.out.cell q0) hUp4 HTN.out
    replace q1:=qg (HA13.out.cell q1) hUp4 HTN.out
    replace q2:=qg (HA13.out.cell q2) hUp4 HTN.out
    replace q3:=qg (HA13.out.cell q3) hUp4 HTN.out
    replace q4:=qg (HA13.out.cell q4) hUp4 HTN.out
    replace q5:=qg (HA13.out.cell q5) hUp4 HTN.out
    replace ql:w.heap.size<((w3.setCell ⟨t,4,none⟩ (.slice asv ns.length csv)).setCell ⟨t,5,none⟩ (.int .i64 (-1))).heap.size:=NK (NK ql HA13.out.size) hUp4.size
    have HSO:Hid (∀g,blk (.slice asv ns.length csv)=some g->w.heap.size<=g/\blk v1≠some g):=λg hg=>by
     have h1:=HOWN3.out g hg
     have h2:=HA12.out.size
     have h3:=HU.out.size
     refine ⟨by omega,λe=>?_⟩
     have:=HR1.out.row.blk_lt e
     omega
    clear p0 p1 p2 p3 p4 p5 p6 p7 p8 pz p4' p5' hno2 hnm hli hno HSTR HTY3
    generalize hW4:(w3.setCell ⟨t,4,none⟩ (.slice asv ns.length csv)).setCell ⟨t,5,none⟩ (.int .i64 (-1))=w4 at *
    clear hW4 hUp4
    have HR4:Hid (Rs W0 rb m w4 v1 (E++[(n,10)]) (Bs++[t])):=hR4
    have HU4:Hid (Ru rb m w v w4 v1):=hU4
    have HB4:Hid (w4.heap[t]?=some (tyB 10 n av (.slice none 0 0) (.slice asv ns.length csv) (-1) 0 (.pointer none) (.slice none 0 0))):=hB4
    have HROW4:Hid (Row w4 1 (.slice asv ns.length csv) ns.length (ns.map Value.string)):=hRow4
    have hA4:=hR4.add
    clear hR4 hU4 hB4 hRow4
    cases hd:j.named gD with
    |none=>
     rw [hd] at hdf
     have HE:Hid (jW j sp E=some (.mk 10 n ns 0 [] [],E++[(n,10)])):=by show _=_;rw [HEE.out,hd]
     go_wp2_with (go_at_call 146;refine (hdf _ hA4).mono ?_;rintro e w5 ⟨rfl,ha5⟩)
     go_ret
     have hal:Add w4 _:=ha5.trans (ae w5 (.cells #[.int .i64 0,.int .i64 0,.string ⟨#[]⟩,.slice none 0 0,.slice none 0 0,.map none] 85 (0,0)))
     have hR5:=HR4.out.add' hal
     obtain ⟨hra,hrl,hrW,hr1,hr2,hr3⟩:=hR5.last
     exact iE HE.out rfl hR5 (HU4.out.add hal) (List.prefix_append _ _) (List.prefix_append _ _) (Es ((hal.old t (Oh HB4.out).1).trans HB4.out) ⟨HT.out,hr3⟩ HSO.out (HROW4.out.add hal) hra)
    |some d=>
     rw [hd] at hdf
     go_upto_region 6 with (go_at_call 146;refine (hdf _ hA4).mono ?_;rintro e w5 ⟨⟨cs,rfl,hcs⟩,ha5⟩;obtain ⟨n6,t6,a6,na6,l6,c6,nl6,nc6,m6,rfl⟩:=J.lies_cells hcs;unfold jc;clear hcs)
     have hal:Add w4 _:=ha5.trans (ae w5 (.cells #[.int .i64 d.kindI,.int .i64 n6,.string t6,.slice a6 l6 c6,.slice na6 nl6 nc6,.map m6] 85 (0,0)))
     generalize hW6:w5.alloc (.cells #[.int .i64 d.kindI,.int .i64 n6,.string t6,.slice a6 l6 c6,.slice na6 nl6 nc6,.map m6] 85 (0,0))=w6 at *
     clear hW6 ha5
     have HW6:Hid (Add w4 w6):=hal
     have hA6:=hA4.trans hal
     replace q0:=hal.cell q0
     replace q1:=hal.cell q1
     replace q2:=hal.cell q2
     replace q3:=hal.cell q3
     replace q4:=hal.cell q4
     replace q5:=hal.cell q5
     have HB6:Hid (w6.heap[t]?=some (tyB 10 n av (.slice none 0 0) (.slice asv ns.length csv) (-1) 0 (.pointer none) (.slice none 0 0))):=(hal.old t (Oh HB4.out).1).trans HB4.out
     obtain ⟨p0,p1,p2,p3,p4,p5,p6,p7,p8,pz⟩:=gX HB6.out
     have p5z:=pz 5
     have htl:t<w6.heap.size:=(Oh HB6.out).1
     clear hal hA4 ql p0 p1 p2 p3 p6 p7 p8 pz
     have hje:j.textIn gD=d.text:=by unfold J.textIn;rw [hd];rfl
     rw [hje] at htx
     cases hx:d.text with
     |none=>
      rw [hx] at htx
      have HE:Hid (jW j sp E=none):=MW
      clear hd hje hx
      go_region_dies
      all_goals (go_wp2_with (go_at_call 122;refine (htx _ (hA6.trans (af w6))).mono ?_;rintro e w7 ⟨⟨T,v,rfl⟩,ha7⟩))
      all_goals exact ⟨rfl,eV HE.out ⟨_,_,rfl⟩ ((hA6.trans (af w6)).trans ha7)⟩
     |some tx=>
      rw [hx] at htx
      have HIN:Hid (decide (0<=Lib.idxOfS ns tx)=dU tx ns):=idx_in ns tx
      have hix:=λW (h:Add w4 W)=>ye asv csv ns tx W (by have:=HN12.out.1;omega) (by
       obtain ⟨a',c',he,hs⟩:=sw.row (HROW4.out.add h)
       cases he
       exact hs)
      have HEN:Hid (jW j sp E=if dU tx ns=true then some (.mk 10 n ns 0 [] [],E++[(n,10)]) else none):=MW
      clear hd hje hx
      generalize hV:Lib.idxOfS ns tx=ix at *
      go_region_held3 (λw'=>w'.cell? ⟨t,4,none⟩=some (.slice asv ns.length csv)/\w'.cell? ⟨w.heap.size,0,none⟩=some (.int .i64 j.kindI)/\w'.cell? ⟨w.heap.size,1,none⟩=some (.int .i64 n0)/\w'.cell? ⟨w.heap.size,2,none⟩=some (.string t0)/\w'.cell? ⟨w.heap.size,3,none⟩=some (.slice a0 l0 c0)/\w'.cell? ⟨w.heap.size,4,none⟩=some (.slice na0 nl0 nc0)/\w'.cell? ⟨w.heap.size,5,none⟩=some (.map m0)) (first|go_keep|(exact ⟨g4,g0,g1,g2,g3,g5,g6⟩)|(exact ⟨(eU Ke).trans g4,(Upd.set _ _ _ _).cell HTN.out g0,(Upd.set _ _ _ _).cell HTN.out g1,(Upd.set _ _ _ _).cell HTN.out g2,(Upd.set _ _ _ _).cell HTN.out g3,(Upd.set _ _ _ _).cell HTN.out g5,(Upd.set _ _ _ _).cell HTN.out g6⟩))
       (first
       |(go_at_call 122;refine (htx _ (hA6.trans (af w6))).mono ?_;rintro e w7 ⟨⟨rfl,htz⟩,ha7⟩;have ha67:=(af w6).trans ha7;have g4:=ha67.cell p4;have g0:=ha67.cell q0;have g1:=ha67.cell q1;have g2:=ha67.cell q2;have g3:=ha67.cell q3;have g5:=ha67.cell q4;have g6:=ha67.cell q5;have gp5:=ha67.cell p5;have gz5:=(ha67.frozen htl).trans p5z;have HA67:Hid (Add w6 w7):=ha67;clear ha67 ha7 htz)
       |(go_at_call 155;refine (hix w7 (HW6.out.trans HA67.out)).mono ?_;rintro e w8 ⟨rfl,rfl⟩))
      cases hb:dU tx ns with
      |true=>
       have HE:Hid (jW j sp E=some (.mk 10 n ns 0 [] [],E++[(n,10)])):=by show _=_;rw [HEN.out,hb,if_pos rfl]
       have hneg:(ix<0)=False:=eq_false (by have:=HIN.out;rw [hb,decide_eq_true_eq] at this;omega)
       clear hb
       go_wp2
       go_ret
       have hW8:=HW6.out.trans HA67.out
       have hR8:=HR4.out.add' hW8
       obtain ⟨hra,hrl,hrW,hr1,hr2,hr3⟩:=hR8.last
       have hB8:=(hW8.old t (Oh HB4.out).1).trans HB4.out
       exact iE HE.out rfl (hR8.store t 5 _ hr1 hr2 hr3 hrW Kc) ((HU4.out.add hW8).store t 5 _ HT.out) (List.prefix_append _ _) (List.prefix_append _ _) (Es (dG hB8 5 _) ⟨HT.out,hr3⟩ HSO.out ((HROW4.out.add hW8).carry λi hi=>NZ _ _ _ i (by
        have h1:=HOWN3.out i hi
        have h2:=HA12.out.size
        have h3:=HR1.out.last.2.1
        show i≠t
        omega)) hra)
      |false=>
       have HE:Hid (jW j sp E=none):=by show _=_;rw [HEN.out,hb];exact if_neg Ke
       have hneg:(ix<0)=True:=eq_true (by have:=HIN.out;rw [hb,decide_eq_false_iff_not] at this;omega)
       have hW8:=HW6.out.trans HA67.out
       have hR8:=HR4.out.add' hW8
       obtain ⟨hra,hrl,hrW,hr1,hr2,hr3⟩:=hR8.last
       have HAF:Hid (Add W0 (w8.setCell ⟨t,5,none⟩ (.int .i64 ix))):=(hR8.store t 5 _ hr1 hr2 hr3 hrW Kc).add
       clear hb hR8 hra hrl hrW hr1 hr2 hr3 hW8
       go_wp2_with (go_at_call 81;refine (dR _ _).mono ?_;rintro e w9 ⟨⟨T,v,rfl⟩,hb9⟩)
       exact ⟨rfl,eV HE.out ⟨_,_,rfl⟩ (HAF.out.trans hb9)⟩
end
section
open Go Go.RowKit Go.Extern.Stop Go.Stop Go.Extern Go.Maps Go.WideMaps
def Z125(h:p:=by
 go_region_with (go_at_call 117;refine (hfu _).mono ?_;rintro e w2 ⟨rfl,rfl⟩)
 all_goals (go_wp2;go_meet;exact ⟨rfl,rfl,rfl⟩)):p:=h
theorem zH{n:ByteArray}{k:Nat} : ∀ {E:Env},E.kindOf? n=some k->∃i:Nat,E[i]?=some (n,k)
 |(m,k')::r,h=>by
  rw [Env.kindOf?] at h
  split at h
  ·rename_i e
   cases h
   exact ⟨0,by rw [e];rfl⟩
  obtain ⟨i,hi⟩:=zH h
  exact ⟨i+1,hi⟩
theorem Row.cell{w:World}{v:Value}{N:Nat}{cs:List Value}(h:Row w 1 v N cs)(i:Nat)(x:Value)(hi:cs[i]?=some x)(hN:i<N):∃g cp,v=.slice (some ⟨g,0,none⟩) N cp/\w.cell? ⟨g,i,none⟩=some x:=by
 rcases h with ⟨_,h0,_⟩|⟨g,c,e,hg⟩
 ·omega
 exact ⟨g,c,e,by rw [hg.holds i Kc];exact hi⟩
theorem Dm{W0 w:World}{rb m:Nat}{v:Value}{E:Env}{Bs:List Nat}(t sp:ByteArray)(hT:STbl W0)(ht:t.size<=65536)(hR:Rs W0 rb m w v E Bs)(hsp:sp.size<=10000000000):
  Calls prog 78 #[.pointer (some ⟨rb,0,none⟩),.string t,.string sp] w λe w'=>oP (jJ t sp E) W0 rb m w v E Bs e w':=by
 have hkd:=λW (h:Add W0 W)=>ry t W (hT.add h).words
 have hfu:=λW=>oz t sp W ht Kc
 have hqu:=λW (h:Add W0 W)=>uJ t W Kc (hT.add h)
 have HR:=Y73
 have hA:=hR.add
 have HTT:Hid (t.size<=65536):=ht
 by_cases hk:eP t=0
 ·have hkb:((eP t:Int) != 0)=false:=by rw [hk];rfl
  have HB:Hid (jJ t sp E=match E.kindOf? (fI t sp) with
   |some k=>some (.ref k (fI t sp),E)
   |none=>none):=by show _=_;unfold jJ;rw [if_neg Kc];cases E.kindOf? (fI t sp) <;> rfl
  have HFS:Hid ((fI t sp).size<=70368744177000):=by have:=yE t sp;show (fI t sp).size<=_;omega
  obtain ⟨c,hlook,hcat⟩:=hR.pl.look (fI t sp) HFS.out
  have hlk:=hlook w rfl
  have hlk1:=hlook w.drew rfl
  have hc0:=hR.c0
  have hc1:=hR.c1
  have HCAT:Hid (∀i (h:i<(E.map Prod.fst).length),(E.map Prod.fst)[i]=fI t sp->c=i):=hcat
  have HKI:Hid ((Env.kindOf? (fI t sp) E).isSome=dU (fI t sp) (E.map Prod.fst)):=mF (fI t sp) E
  obtain ⟨vo,vc,hvs⟩:=hR.row.shape
  subst hvs
  clear hlook hcat hR hk hsp ht hT
  cases hko:E.kindOf? (fI t sp) with
  |none=>
   have HE:Hid (jJ t sp E=none):=by show _=_;rw [HB.out,hko]
   have hin:dU (fI t sp) (E.map Prod.fst)=false:=by rw [<-HKI.out,hko];rfl
   rw [hin] at hlk hlk1
   clear hin hko
   go_enter func78,ntmps78
   go_upto_region 4 with (go_at_call 116;refine (hkd _ hA).mono ?_;rintro e w1 ⟨rfl,hw1⟩;rw [hw1])
   go_cut [8,9] (λs8 s9 wx=>s8=.int .i64 c/\s9=.bool false/\wx=w.drew)
   case first=>
    exact Z125
   obtain ⟨rfl,rfl,rfl⟩:=hcut
   clear hlk hlk1 hc0 hc1
   go_wp2_with (first
    |(go_at_call 118;refine (hqu _ (hA.trans (af _))).mono ?_;rintro e w3 ⟨⟨q,rfl,hqz⟩,ha3⟩;have hc31:(9223372036854775807<32+q.size)=False:=eq_false (by have:=HTT.out;omega);clear hqz)
    |(go_at_call 81;refine (dR _ _).mono ?_;rintro e w4 ⟨⟨T,v,rfl⟩,hb4⟩))
   exact ⟨rfl,eV HE.out ⟨_,_,rfl⟩ (((hA.trans (af _)).trans ha3).trans hb4)⟩
  |some k=>
   have HE:Hid (jJ t sp E=some (.ref k (fI t sp),E)):=by show _=_;rw [HB.out,hko]
   have hin:dU (fI t sp) (E.map Prod.fst)=true:=by rw [<-HKI.out,hko];rfl
   rw [hin] at hlk hlk1
   obtain ⟨i,hi⟩:=zH hko
   have hil:i<E.length:=(Oi hi).1
   have hci:c=i:=HCAT.out i (by rw [List.length_map];exact hil) (by rw [List.getElem_map];have:=(Oi hi).2;rw [this])
   subst hci
   have hib:i<Bs.length:=by rw [HR.out.len];exact hil
   have HRA:Hid (jA E Bs (fI t sp) k Bs[i]):=⟨i,hi,NP hib⟩
   obtain ⟨g,cp,he,hcell⟩:=HR.out.row.cell i (ptr Bs[i]) (by rw [List.getElem?_map,NP hib];rfl) hil
   cases he
   have hcell':w.cell? ⟨g,i,none⟩=some (.pointer (some ⟨Bs[i],0,none⟩)):=hcell
   generalize Bs[i]=b at HRA hcell'
   have i0:(0:Int)<=(i:Int):=Kc
   have i1:(i:Int)<(E.length:Int):=Kc
   clear hin hko hi hcell
   go_enter func78,ntmps78
   go_upto_region 4 with (go_at_call 116;refine (hkd _ hA).mono ?_;rintro e w1 ⟨rfl,hw1⟩;rw [hw1])
   go_cut [8,9] (λs8 s9 wx=>s8=.int .i64 i/\s9=.bool true/\wx=w.drew)
   case first=>
    exact Z125
   obtain ⟨rfl,rfl,rfl⟩:=hcut
   clear hlk hlk1
   go_wp2
   go_ret
   exact iE HE.out rfl (HR.out.add' (af _)) ((af _).ru rb m _) (NN _) (NN _) (by rw [Sch.at];exact HRA.out)
 have hkb:((eP t:Int) != 0)=true:=Nj
 have HE:Hid (jJ t sp E=some (lQ (eP t),E)):=by show _=_;unfold jJ;rw [if_pos hk]
 have HK8:Hid (eP t<=8):=(iB hk).2.1
 clear hfu hqu hR hk hsp ht hT
 generalize eP t=k at *
 go_enter func78,ntmps78
 go_wp2_with (go_at_call 116;refine (hkd _ hA).mono ?_;rintro e w1 ⟨rfl,hw1⟩;rw [hw1])
 go_ret
 have hal:=ae w (kR k ByteArray.empty (.slice none 0 0))
 exact iE HE.out rfl (HR.out.add' hal) (hal.ru rb m _) (NN _) (NN _) (ER HK8.out (dD _ _) ⟨NL _,λe=>by have:=HR.out.row.blk_lt e;omega⟩)
end
end Go.Proofs.YtmphmjkinmkidaaGreatDoor
