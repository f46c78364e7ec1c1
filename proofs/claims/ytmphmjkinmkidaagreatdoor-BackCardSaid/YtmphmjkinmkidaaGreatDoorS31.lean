import Derived.Test.YtmphmjkinmkidaaGreatDoorS30
set_option linter.defProp false
open Go.Proofs.Tryz
set_option maxRecDepth 8000
set_option maxHeartbeats 8000000
open Go Go.RowKit Go.Extern.Stop Go.Stop Go.Extern
namespace Go.Proofs.YtmphmjkinmkidaaGreatDoor
variable{p:Prop}
section
def Y130(h:p:=by exact ((hW1.add ((af w1).trans (af w1.drew))).named hp3 hg3)):p:=h
def Y131(h:p:=by exact (show Wk B wb mm w w3 from ((hal.wk hW.base).trans (((af w1).trans (af w1.drew)).wk hW1.base)).trans hk3)):p:=h
def Y132(h:p:=by exact (hbx.wk ((((af w1).trans (af w1.drew)).wk (B:=B) hW1.base).trans hk3))):p:=h
def Y133(h:p:=by exact (qE (hW3.add (af w3)) [⟨#[123,34,110,97,109,101,34,58]⟩,qS n] Kh hlq)):p:=h
def Y134(h:p:=by exact ((hO5.cell hlt).trans H0.out)):p:=h
def Z32(h:p:=by
 go_region_held_law (λw'=>w'.cell? ⟨w.heap.size,0,none⟩=some (.pointer (some ⟨wb,0,none⟩))/\w'.cell? ⟨w.heap.size+1,0,none⟩=some (.pointer (some ⟨b,0,none⟩))/\w'.cell? ⟨b,1,none⟩=some (.string n)) (first|(with_reducible exact ⟨k2,k3,kn⟩)|(with_reducible exact ⟨r2,r3,rn⟩)|go_keep)
  (first
  |(go_at_call 44;refine (hqu _).mono ?_;rintro e w4 ⟨rfl,rfl⟩)
  |(go_at_call 40;refine hpt.mono ?_;rintro e w4 ⟨rfl,hr4,hk4⟩;have hk4':=((af w3).wk HW3.out.base).trans hk4;have hb4:=HB3.out.wk hk4';have k2:=hb4.c2;have k3:=hb4.c3;have kn:=((hk4'.oldL HO3.out HBL.out).cell HLT.out).trans HN.out;have HR4:=bf hr4;have HK4:=bf hk4';clear hr4 hk4 hk4' hb4))
 all_goals (go_wp2;go_meet;exact ⟨HR4.out,HK4.out⟩)):p:=h
def Z54(h:p:=by
 go_region_held_law (λw'=>w'.cell? ⟨w.heap.size,0,none⟩=some (.pointer (some ⟨wb,0,none⟩))/\w'.cell? ⟨w.heap.size+1,0,none⟩=some (.pointer (some ⟨b,0,none⟩))/\w'.cell? ⟨wb,2,none⟩=some (.map (some mm))/\w'.cell? ⟨b,1,none⟩=some (.string n)) (first|go_keep|(exact ⟨r2,r3,rm,rn⟩)) (fail)
 all_goals (go_wp2;go_meet;exact rfl)):p:=h
def Z216(h:p:=by
 simp [fu,gJ,jo] at h1 ⊢
 omega):p:=h
theorem Bld.keepM{w w':World}{B b mm:Nat}{acc:List UInt8}(h:Bld w B b acc)(hu:nV w mm)(hne:b≠mm)(k:∀i,i<w.heap.size->i≠mm->w'.heap[i]?=w.heap[i]?):Bld w' B b acc:=by
 have hb:=k b h.lt hne
 obtain ⟨hB,hsh,⟨p,hp,hp'⟩,⟨v,h1,⟨hl,hv⟩,hne⟩,f0,f1,hnil⟩:=h
 have e1:=Y23
 have hsh':w'.shape? b=w.shape? b:=MF
 refine ⟨hB,by unfold uG;rw [hsh'];exact hsh,⟨p,(NY (a:=⟨b,0,none⟩) hb).trans hp,hp'⟩,⟨v,e1.trans h1,⟨hl,?_⟩,hne⟩,(Oa (a:=⟨b,0,none⟩) hb).trans f0,(Oa (a:=⟨b,1,none⟩) hb).trans f1,λe=>e1.trans (hnil e)⟩
 rcases hv with hv|⟨g,cap,cur,fz,h2,h3,h4,h5⟩
 ·exact .inl hv
 exact .inr ⟨g,cap,cur,fz,h2,h3,(k g (Oh h4).1 (λe=>hu _ _ (e ▸ h4))).trans h4,h5⟩
theorem Wr.named{B wb mm:Nat}{w w':World}{acc:List UInt8}{A:List ByteArray}{n:ByteArray}(h:Wr B wb mm w acc A)(hp:nH w' mm (A++[n]))(hg:w.grownBy w' (some mm)):Wr B wb mm w' acc (A++[n])/\Wk B wb mm w w':=by
 have hb:∀i,i<w.heap.size->i≠mm->w'.heap[i]?=w.heap[i]?:=λi hi hn=>hg.block i hi (λe=>hn LF)
 have hm:=h.map.lt
 have hge:=h.ge
 exact ⟨⟨h.bld.keepM h.map.notU8 (Ne.symm h.ne) hb,(NY (a:=⟨wb,2,none⟩) (hb wb h.lt (Ne.symm h.ne))).trans h.c2,hp,h.ne,h.ge⟩,hg.os,hg.output,hg.size,λi hi=>hb i Kc Kc,λi hi _ h2 _=>hb i hi h2⟩
theorem itoa_w(n:Int)(w:World)(h0:0<=n)(h1:n<=100000)(hT:Pow w):
  Calls prog 68 #[.int .i64 n] w λe w'=>e=.returned (.string ⟨(Lib.itoa n).toArray⟩)/\Add w w':=
 (Any.strconv_Itoa Tryz.laysItoa n Kc Kc w hT).mono λe w' ⟨he,k,os,hw⟩=>⟨he,by rw [hw];exact (Add.drewN w k).trans (Add.grow _ _)⟩
theorem Gr{B wb mm b:Nat}{w wL:World}{acc:List UInt8}{A:List ByteArray}{n:ByteArray}(hW:Wr B wb mm w acc A)(hO:Old wL w)(hBL:B=wL.heap.size)(hlt:b<wL.heap.size)(h0:wL.cell? ⟨b,0,none⟩=some (.int .i64 14))(hn:wL.cell? ⟨b,1,none⟩=some (.string n))(hin:dU n A=false)(hz:n.size<=3000000)(hA:A.length<=5000)(ns:List ByteArray)(size:Nat)(kids:List Sch)(ds:List (Option J))(h6:wL.cell? ⟨b,6,none⟩=some (.int .i64 size))(hsz:size<=64)(hpw:Pow wL)(hlen:acc.length+(jB (jOf (.mk 14 n ns size kids ds))).length<=10000000000000):
  Calls prog 43 #[.pointer (some ⟨wb,0,none⟩),.pointer (some ⟨b,0,none⟩)] w λe w'=>CwP B wb mm w (acc++jB (jOf (.mk 14 n ns size kids ds))) (A++[n]) e w':=by
 have hal:=Y125
 have hbx:=Bx.new hW b
 have HB:=bf hW.base
 have hlq:acc.length+(fu [⟨#[123,34,110,97,109,101,34,58]⟩,qS n]).length<=10000000000000:=by
  have h1:=hlen
  rw [El] at h1
  exact Z216
 go_enter func43,ntmps43
 go_upto_region 1 with fail
 generalize (w.alloc (.cells #[.pointer (some ⟨wb,0,none⟩)] 73 (0,0))).alloc (.cells #[.pointer (some ⟨b,0,none⟩)] 53 (0,0))=w1 at *
 have hW1:=hW.add hal
 have n1:=Y126
 have m2:=hW1.c2
 have q2:=hbx.c2
 have q3:=hbx.c3
 obtain ⟨c,hlook⟩:=Y127
 rw [hin] at hlook
 have hlk:=hlook w1 rfl
 have hlk1:=hlook w1.drew rfl
 have hqu:=Y128
 obtain ⟨x,hln,hupd⟩:=hW1.map.put n Kc hA
 have hl1:=hln w1.drew.drew rfl
 have hl0:=hln w1.drew rfl
 obtain ⟨w3,hrun,hp3,hg3⟩:=hupd w1.drew.drew rfl
 obtain ⟨hW3,hk3⟩:=Y130
 have hK3:=Y131
 have hb3:=Y132
 have hO3:=hK3.oldL hO hBL
 have r2:=hb3.c2
 have r3:=hb3.c3
 have rm:=hW3.c2
 have rn:=(hO3.cell hlt).trans hn
 have HO3:=bf hO3
 have HB3:=bf hb3
 have HN:=bf hn
 have H0:=bf h0
 have HLT:=bf hlt
 have HBL:=bf hBL
 have HK3:=bf hK3
 have HW3:=bf hW3
 have hpt:=Y133
 clear hlook hln hupd hbx hal hW hO hn hW1 hin hz hA hp3 hg3 hW3 hk3 hK3 hb3 hO3 h0 hlq
 go_cut [4,5] (λs4 s5 wx=>s4=.int .i64 c/\s5=.bool false/\wx=w1.drew)
 case first=>
  exact Z192
 case rest=>
 obtain ⟨rfl,rfl,rfl⟩:=hcut
 go_upto_region 4 with fail
 go_cut [] (λwx=>wx=w3)
 case first=>
  exact Z54
 case rest=>
 obtain rfl:w3=wc:=hcut.symm
 clear hlk hlk1 hl0 hl1 hrun q2 q3 m2 n1
 go_upto_region 5 with fail
 go_cut [] (λwx=>Wr B wb mm wx (acc++fu [⟨#[123,34,110,97,109,101,34,58]⟩,qS n]) (A++[n])/\Wk B wb mm w3 wx)
 case first=>
  exact Z32
 case rest=>
 obtain ⟨hr5,hk5⟩:=hcut
 generalize wc=w5 at *
 have hb5:=HB3.out.wk hk5
 have hO5:=hk5.oldL HO3.out HBL.out
 have HK5:=bf (HK3.out.trans hk5)
 have HB5:=bf hb5
 have HO5:=bf hO5
 have s2:=hb5.c2
 have s3:=hb5.c3
 have s0:=Y134
 clear hpt hqu r2 r3 rm rn hk5 hb5 hO5 HB3 HO3 HK3 HW3
 have s6:=(HO5.out.cell hlt).trans h6
 obtain ⟨hW9,hz9⟩:Wr B wb mm w5.drew (acc++fu [⟨#[123,34,110,97,109,101,34,58]⟩,qS n]) (A++[n])/\Pow w5.drew:=⟨hr5.add (af w5),hpw.carry ((HO5.out.trans (Old.drew w5)).old _ hpw.lt)⟩
 have hio:=itoa_w size w5.drew Kc Kc hz9
 have HLEN:=bf hlen
 have HW9:=bf hW9
 have H6:=bf h6
 have HD:=bf ((af w5).wk (wb:=wb) (mm:=mm) hr5.base)
 clear hr5 hlen hW9 hz9 h6
 go_upto_region 16 with fail
 go_region_held_law (λw'=>w'.cell? ⟨w.heap.size,0,none⟩=some (.pointer (some ⟨wb,0,none⟩))/\w'.cell? ⟨w.heap.size+1,0,none⟩=some (.pointer (some ⟨b,0,none⟩))/\w'.cell? ⟨b,6,none⟩=some (.int .i64 size)) (first|(with_reducible exact ⟨k2,k3,k6⟩)|(with_reducible exact ⟨l2,l3,l6⟩)|(with_reducible exact ⟨s2,s3,s6⟩)|go_keep)
  (first
  |(go_at_call 68;refine hio.mono ?_;rintro e w6 ⟨rfl,ha6⟩;have l2:=ha6.cell s2;have l3:=ha6.cell s3;have l6:=ha6.cell s6;have hpt:=qE (HW9.out.add ha6) [⟨#[44,34,116,121,112,101,34,58,34,102,105,120,101,100,34,44,34,115,105,122,101,34,58]⟩,⟨(Lib.itoa size).toArray⟩,⟨#[125]⟩] Kh (by have h1:=HLEN.out;rw [El] at h1;simp [fu,gJ,jo] at h1 ⊢;omega);have HA6:=bf ha6;clear ha6)
  |(go_at_call 40;refine hpt.mono ?_;rintro e w7 ⟨rfl,hr7,hk7⟩;have hk7':=(HA6.out.wk HW9.out.base).trans hk7;have hb7:=HB5.out.wk (HD.out.trans hk7');have k2:=hb7.c2;have k3:=hb7.c3;have k6:=(((HD.out.trans hk7').oldL HO5.out HBL.out).cell HLT.out).trans H6.out;have HR7:=bf hr7;have HK7:=bf hk7';clear hr7 hk7 hk7' hb7))
 all_goals go_wp2
 all_goals go_end0
 all_goals exact ⟨rfl,by have h:=HR7.out;rw [El];simpa [fu,gJ,jo] using h,HK5.out.trans (HD.out.trans HK7.out)⟩
theorem Gp{B wb mm b:Nat}{w wL:World}{acc:List UInt8}{A:List ByteArray}{n:ByteArray}(hW:Wr B wb mm w acc A)(hO:Old wL w)(hBL:B=wL.heap.size)(hlt:b<wL.heap.size)(h0:wL.cell? ⟨b,0,none⟩=some (.int .i64 10))(hn:wL.cell? ⟨b,1,none⟩=some (.string n))(hin:dU n A=false)(hz:n.size<=3000000)(hA:A.length<=5000)(ns:List ByteArray)(size:Nat)(kids:List Sch)(ds:List (Option J))(va:Option Addr)(vc N:Nat)(hN:N<=12)(hts:(ns.map J.str).length=N)(h8:wL.cell? ⟨b,4,none⟩=some (.slice va N vc))(hlen:acc.length+(jB (jOf (.mk 10 n ns size kids ds))).length<=10000000000000)
  (hit:∀j (h:j<(ns.map J.str).length) W acc',Wr B wb mm W acc' (A++[n])->Bx wb mm b W w.heap.size (w.heap.size+1)->Old wL W->acc'.length+(jB (ns.map J.str)[j]).length<=10000000000000->Calls prog 67 #[.int .i64 j,.pointer (some ⟨w.heap.size,0,none⟩),.pointer (some ⟨w.heap.size+1,0,none⟩)] W λe w'=>CwP B wb mm W (acc'++jB (ns.map J.str)[j]) (A++[n]) e w'):
  Calls prog 43 #[.pointer (some ⟨wb,0,none⟩),.pointer (some ⟨b,0,none⟩)] w λe w'=>CwP B wb mm w (acc++jB (jOf (.mk 10 n ns size kids ds))) (A++[n]) e w':=by
 have hal:=Y125
 have hbx:=Bx.new hW b
 have HB:=bf hW.base
 have hlq:acc.length+(fu [⟨#[123,34,110,97,109,101,34,58]⟩,qS n]).length<=10000000000000:=by
  have h1:=hlen
  rw [zl] at h1
  exact Z216
 go_enter func43,ntmps43
 go_upto_region 1 with fail
 generalize (w.alloc (.cells #[.pointer (some ⟨wb,0,none⟩)] 73 (0,0))).alloc (.cells #[.pointer (some ⟨b,0,none⟩)] 53 (0,0))=w1 at *
 have hW1:=hW.add hal
 have n1:=Y126
 have m2:=hW1.c2
 have q2:=hbx.c2
 have q3:=hbx.c3
 obtain ⟨c,hlook⟩:=Y127
 rw [hin] at hlook
 have hlk:=hlook w1 rfl
 have hlk1:=hlook w1.drew rfl
 have hqu:=Y128
 obtain ⟨x,hln,hupd⟩:=hW1.map.put n Kc hA
 have hl1:=hln w1.drew.drew rfl
 have hl0:=hln w1.drew rfl
 obtain ⟨w3,hrun,hp3,hg3⟩:=hupd w1.drew.drew rfl
 obtain ⟨hW3,hk3⟩:=Y130
 have hK3:=Y131
 have hb3:=Y132
 have hO3:=hK3.oldL hO hBL
 have r2:=hb3.c2
 have r3:=hb3.c3
 have rm:=hW3.c2
 have rn:=(hO3.cell hlt).trans hn
 have HO3:=bf hO3
 have HB3:=bf hb3
 have HN:=bf hn
 have H0:=bf h0
 have HLT:=bf hlt
 have HBL:=bf hBL
 have HK3:=bf hK3
 have HW3:=bf hW3
 have hpt:=Y133
 clear hlook hln hupd hbx hal hW hO hn hW1 hin hz hA hp3 hg3 hW3 hk3 hK3 hb3 hO3 h0 hlq
 go_cut [4,5] (λs4 s5 wx=>s4=.int .i64 c/\s5=.bool false/\wx=w1.drew)
 case first=>
  exact Z192
 case rest=>
 obtain ⟨rfl,rfl,rfl⟩:=hcut
 go_upto_region 4 with fail
 go_cut [] (λwx=>wx=w3)
 case first=>
  exact Z54
 case rest=>
 obtain rfl:w3=wc:=hcut.symm
 clear hlk hlk1 hl0 hl1 hrun q2 q3 m2 n1
 go_upto_region 5 with fail
 go_cut [] (λwx=>Wr B wb mm wx (acc++fu [⟨#[123,34,110,97,109,101,34,58]⟩,qS n]) (A++[n])/\Wk B wb mm w3 wx)
 case first=>
  exact Z32
 case rest=>
 obtain ⟨hr5,hk5⟩:=hcut
 generalize wc=w5 at *
 have hb5:=HB3.out.wk hk5
 have hO5:=hk5.oldL HO3.out HBL.out
 have HK5:=bf (HK3.out.trans hk5)
 have HB5:=bf hb5
 have HO5:=bf hO5
 have s2:=hb5.c2
 have s3:=hb5.c3
 have s0:=Y134
 clear hpt hqu r2 r3 rm rn hk5 hb5 hO5 HB3 HO3 HK3 HW3
 have hpa:=qE hr5 [⟨#[44,34,116,121,112,101,34,58,34,101,110,117,109,34,44,34,115,121,109,98,111,108,115,34,58,91]⟩] Kh (by have h1:=hlen;rw [zl] at h1;simp [fu,gJ,jo] at h1 ⊢;omega)
 have HLEN:=bf hlen
 clear hr5 hlen
 go_upto_region 13 with (go_at_call 40;refine hpa.mono ?_;rintro e w6 ⟨rfl,hr6,hk6⟩)
 have hb6:=HB5.out.wk hk6
 have hO6:=hk6.oldL HO5.out HBL.out
 have t2:=hb6.c2
 have t3:=hb6.c3
 have t8:=(hO6.cell hlt).trans h8
 have HK6:=bf (HK5.out.trans hk6)
 have HB6:=bf hb6
 have HO6:=bf hO6
 have hmf:=Y37
 have hk0:Wk B wb mm w6 w6.drew:=(af w6).wk hr6.base
 have hli:=IC (.pointer (some ⟨w.heap.size,0,none⟩)) (.pointer (some ⟨w.heap.size+1,0,none⟩)) N hN (ns.map J.str) hts (λ_=>A++[n]) (w:=w6.drew) (hr6.add (af w6)) LA (λj hj W acc' hWj hkj hlj=>hit j hj W acc' hWj (HB6.out.wk (hk0.trans hkj)) ((hk0.trans hkj).oldL HO6.out HBL.out) hlj)
 have HK0:=bf hk0
 have H8:=bf h8
 clear hr6 hk6 hb6 hO6 hpa s2 s3 s0 h8 hit hk0
 go_cut [] (λwx=>Wr B wb mm wx (acc++fu [⟨#[123,34,110,97,109,101,34,58]⟩,qS n]++fu [⟨#[44,34,116,121,112,101,34,58,34,101,110,117,109,34,44,34,115,121,109,98,111,108,115,34,58,91]⟩]++jBs true (ns.map J.str)) (A++[n])/\Wk B wb mm w6 wx)
 case first=>
  go_region_held_law (λw'=>w'.cell? ⟨w.heap.size,0,none⟩=some (.pointer (some ⟨wb,0,none⟩))/\w'.cell? ⟨w.heap.size+1,0,none⟩=some (.pointer (some ⟨b,0,none⟩))/\w'.cell? ⟨b,4,none⟩=some (.slice va N vc)) (first|(with_reducible exact ⟨k2,k3,k8⟩)|(with_reducible exact ⟨t2,t3,t8⟩)|go_keep)
   (first
   |(go_at_call 41;refine hli.mono ?_;rintro e w7 ⟨rfl,hr7,hk7⟩;have hk7':=HK0.out.trans hk7;have hb7:=HB6.out.wk hk7';have k2:=hb7.c2;have k3:=hb7.c3;have k8:=((hk7'.oldL HO6.out HBL.out).cell HLT.out).trans H8.out;have HR7:=bf hr7;have HK7:=bf hk7';clear hr7 hk7 hk7' hb7))
  all_goals (go_wp2;go_meet;exact ⟨HR7.out,HK7.out⟩)
 case rest=>
 obtain ⟨hr8,hk8⟩:=hcut
 generalize wc=w8 at *
 have u2:=(HB6.out.wk hk8).c2
 have hpb:=qE hr8 [⟨#[93,125]⟩] Kh LA
 have HK8:=bf (HK6.out.trans hk8)
 clear hli t2 t3 t8 hr8 hk8
 go_wp2_with (go_at_call 40;refine hpb.mono ?_;rintro e w9 ⟨rfl,hr9,hk9⟩)
 go_end0
 exact ⟨rfl,by rw [zl];simpa [fu,gJ,jo] using hr9,HK8.out.trans hk9⟩
theorem Gm{B wb mm b:Nat}{w wL:World}{acc:List UInt8}{A:List ByteArray}{n:ByteArray}(hW:Wr B wb mm w acc A)(hO:Old wL w)(hBL:B=wL.heap.size)(hlt:b<wL.heap.size)(h0:wL.cell? ⟨b,0,none⟩=some (.int .i64 9))(hn:wL.cell? ⟨b,1,none⟩=some (.string n))(hin:dU n A=false)(hz:n.size<=3000000)(hA:A.length<=5000)(ns:List ByteArray)(size:Nat)(kids:List Sch)(ds:List (Option J))(va:Option Addr)(vc N:Nat)(hN:N<=12)(hts:(dW ns kids).length=N)(h8:wL.cell? ⟨b,3,none⟩=some (.slice va N vc))(hlen:acc.length+(jB (jOf (.mk 9 n ns size kids ds))).length<=10000000000000)(nm:Nat->List ByteArray)(hnm0:nm 0=A++[n])
  (hit:∀j (h:j<(dW ns kids).length) W acc',Wr B wb mm W acc' (nm j)->Bx wb mm b W w.heap.size (w.heap.size+1)->Old wL W->acc'.length+(jB (dW ns kids)[j]).length<=10000000000000->Calls prog 65 #[.int .i64 j,.pointer (some ⟨w.heap.size,0,none⟩),.pointer (some ⟨w.heap.size+1,0,none⟩)] W λe w'=>CwP B wb mm W (acc'++jB (dW ns kids)[j]) (nm (j+1)) e w'):
  Calls prog 43 #[.pointer (some ⟨wb,0,none⟩),.pointer (some ⟨b,0,none⟩)] w λe w'=>CwP B wb mm w (acc++jB (jOf (.mk 9 n ns size kids ds))) (nm N) e w':=by
 have hal:=Y125
 have hbx:=Bx.new hW b
 have HB:=bf hW.base
 have hlq:acc.length+(fu [⟨#[123,34,110,97,109,101,34,58]⟩,qS n]).length<=10000000000000:=by
  have h1:=hlen
  rw [GA] at h1
  exact Z216
 go_enter func43,ntmps43
 go_upto_region 1 with fail
 generalize (w.alloc (.cells #[.pointer (some ⟨wb,0,none⟩)] 73 (0,0))).alloc (.cells #[.pointer (some ⟨b,0,none⟩)] 53 (0,0))=w1 at *
 have hW1:=hW.add hal
 have n1:=Y126
 have m2:=hW1.c2
 have q2:=hbx.c2
 have q3:=hbx.c3
 obtain ⟨c,hlook⟩:=Y127
 rw [hin] at hlook
 have hlk:=hlook w1 rfl
 have hlk1:=hlook w1.drew rfl
 have hqu:=Y128
 obtain ⟨x,hln,hupd⟩:=hW1.map.put n Kc hA
 have hl1:=hln w1.drew.drew rfl
 have hl0:=hln w1.drew rfl
 obtain ⟨w3,hrun,hp3,hg3⟩:=hupd w1.drew.drew rfl
 obtain ⟨hW3,hk3⟩:=Y130
 have hK3:=Y131
 have hb3:=Y132
 have hO3:=hK3.oldL hO hBL
 have r2:=hb3.c2
 have r3:=hb3.c3
 have rm:=hW3.c2
 have rn:=(hO3.cell hlt).trans hn
 have HO3:=bf hO3
 have HB3:=bf hb3
 have HN:=bf hn
 have H0:=bf h0
 have HLT:=bf hlt
 have HBL:=bf hBL
 have HK3:=bf hK3
 have HW3:=bf hW3
 have hpt:=Y133
 clear hlook hln hupd hbx hal hW hO hn hW1 hin hz hA hp3 hg3 hW3 hk3 hK3 hb3 hO3 h0 hlq
 go_cut [4,5] (λs4 s5 wx=>s4=.int .i64 c/\s5=.bool false/\wx=w1.drew)
 case first=>
  exact Z192
 case rest=>
 obtain ⟨rfl,rfl,rfl⟩:=hcut
 go_upto_region 4 with fail
 go_cut [] (λwx=>wx=w3)
 case first=>
  exact Z54
 case rest=>
 obtain rfl:w3=wc:=hcut.symm
 clear hlk hlk1 hl0 hl1 hrun q2 q3 m2 n1
 go_upto_region 5 with fail
 go_cut [] (λwx=>Wr B wb mm wx (acc++fu [⟨#[123,34,110,97,109,101,34,58]⟩,qS n]) (A++[n])/\Wk B wb mm w3 wx)
 case first=>
  exact Z32
 case rest=>
 obtain ⟨hr5,hk5⟩:=hcut
 generalize wc=w5 at *
 have hb5:=HB3.out.wk hk5
 have hO5:=hk5.oldL HO3.out HBL.out
 have HK5:=bf (HK3.out.trans hk5)
 have HB5:=bf hb5
 have HO5:=bf hO5
 have s2:=hb5.c2
 have s3:=hb5.c3
 have s0:=Y134
 clear hpt hqu r2 r3 rm rn hk5 hb5 hO5 HB3 HO3 HK3 HW3
 rw [<-hnm0] at hr5
 have hpa:=qE hr5 [⟨#[44,34,116,121,112,101,34,58,34,114,101,99,111,114,100,34,44,34,102,105,101,108,100,115,34,58,91]⟩] Kh (by have h1:=hlen;rw [GA] at h1;simp [fu,gJ,jo] at h1 ⊢;omega)
 have HLEN:=bf hlen
 clear hr5 hlen
 go_upto_region 9 with (go_at_call 40;refine hpa.mono ?_;rintro e w6 ⟨rfl,hr6,hk6⟩)
 have hb6:=HB5.out.wk hk6
 have hO6:=hk6.oldL HO5.out HBL.out
 have t2:=hb6.c2
 have t3:=hb6.c3
 have t8:=(hO6.cell hlt).trans h8
 have HK6:=bf (HK5.out.trans hk6)
 have HB6:=bf hb6
 have HO6:=bf hO6
 have hmf:=Y37
 have hk0:Wk B wb mm w6 w6.drew:=(af w6).wk hr6.base
 have hli:=Ic (.pointer (some ⟨w.heap.size,0,none⟩)) (.pointer (some ⟨w.heap.size+1,0,none⟩)) N hN (dW ns kids) hts nm (w:=w6.drew) (hr6.add (af w6)) LB (λj hj W acc' hWj hkj hlj=>hit j hj W acc' hWj (HB6.out.wk (hk0.trans hkj)) ((hk0.trans hkj).oldL HO6.out HBL.out) hlj)
 have HK0:=bf hk0
 have H8:=bf h8
 clear hr6 hk6 hb6 hO6 hpa s2 s3 s0 h8 hit hk0
 go_cut [] (λwx=>Wr B wb mm wx (acc++fu [⟨#[123,34,110,97,109,101,34,58]⟩,qS n]++fu [⟨#[44,34,116,121,112,101,34,58,34,114,101,99,111,114,100,34,44,34,102,105,101,108,100,115,34,58,91]⟩]++jBs true (dW ns kids)) (nm N)/\Wk B wb mm w6 wx)
 case first=>
  go_region_held_law (λw'=>w'.cell? ⟨w.heap.size,0,none⟩=some (.pointer (some ⟨wb,0,none⟩))/\w'.cell? ⟨w.heap.size+1,0,none⟩=some (.pointer (some ⟨b,0,none⟩))/\w'.cell? ⟨b,3,none⟩=some (.slice va N vc)) (first|(with_reducible exact ⟨k2,k3,k8⟩)|(with_reducible exact ⟨t2,t3,t8⟩)|go_keep)
   (first
   |(go_at_call 41;refine hli.mono ?_;rintro e w7 ⟨rfl,hr7,hk7⟩;have hk7':=HK0.out.trans hk7;have hb7:=HB6.out.wk hk7';have k2:=hb7.c2;have k3:=hb7.c3;have k8:=((hk7'.oldL HO6.out HBL.out).cell HLT.out).trans H8.out;have HR7:=bf hr7;have HK7:=bf hk7';clear hr7 hk7 hk7' hb7))
  all_goals (go_wp2;go_meet;exact ⟨HR7.out,HK7.out⟩)
 case rest=>
 obtain ⟨hr8,hk8⟩:=hcut
 generalize wc=w8 at *
 have u2:=(HB6.out.wk hk8).c2
 have hpb:=qE hr8 [⟨#[93,125]⟩] Kh LB
 have HK8:=bf (HK6.out.trans hk8)
 clear hli t2 t3 t8 hr8 hk8
 go_wp2_with (go_at_call 40;refine hpb.mono ?_;rintro e w9 ⟨rfl,hr9,hk9⟩)
 go_end0
 exact ⟨rfl,by rw [GA];simpa [fu,gJ,jo] using hr9,HK8.out.trans hk9⟩
def Y135(h:p:=by exact (bf (hal.wk (wb:=wb) (mm:=mm) hW.base))):p:=h
def Y136(h:p:=by exact (hk _ w2.drew (hr2.add (af w2)) (hO2.trans (Old.drew w2)) KU)):p:=h
def Y137(h:p:=by exact (bf ((af w2).wk (wb:=wb) (mm:=mm) hr2.base))):p:=h
def Z33(h:p:=by
 go_region_held_law (λw'=>w'.cell? ⟨w.heap.size,0,none⟩=some (.pointer (some ⟨wb,0,none⟩))/\w'.cell? ⟨w.heap.size+1,0,none⟩=some (.pointer (some ⟨b,0,none⟩))/\w'.cell? ⟨b,7,none⟩=some (.pointer (some ⟨kb,0,none⟩))) (first|(with_reducible exact ⟨k2,k3,k7⟩)|(with_reducible exact ⟨t2,t3,t7⟩)|go_keep)
  (first
  |(go_at_call 28;refine hsc.mono ?_;rintro e w3 ⟨rfl,hr3,hk3⟩;have hk3':=HD.out.trans hk3;have hb3:=HB2.out.wk hk3';have k2:=hb3.c2;have k3:=hb3.c3;have k7:=((hk3'.oldL HO2.out HBL.out).cell HLT.out).trans H7.out;have HR3:=bf hr3;have HK3:=bf hk3';clear hr3 hk3 hk3' hb3))
 all_goals (go_wp2;go_meet;exact ⟨HR3.out,HK3.out⟩)):p:=h
def Z50(h:p:=by
 obtain ⟨hr4,hk4⟩:=hcut
 generalize wc=w4 at *
 have u2:=(HB2.out.wk hk4).c2
 have hpb:=qE hr4 [⟨#[125]⟩] Kh KU
 have HK4:=bf (HK2.out.trans hk4)
 clear hsc t2 t3 t7 hr4 hk4
 exact Z257):p:=h
def Z257(h:p:=by
 go_wp2_with (go_at_call 40;refine hpb.mono ?_;rintro e w5 ⟨rfl,hr5,hk5⟩)
 go_end0
 exact ⟨rfl,by simpa [fu] using hr5,HK4.out.trans hk5⟩):p:=h
theorem sch_11{B wb mm b:Nat}{w wL:World}{acc:List UInt8}{A:List ByteArray}(hW:Wr B wb mm w acc A)(hO:Old wL w)(hBL:B=wL.heap.size)(hlt:b<wL.heap.size)(h0:wL.cell? ⟨b,0,none⟩=some (.int .i64 11))(n:ByteArray)(ns:List ByteArray)(size:Nat)(x:Sch)(ds:List (Option J))(kb:Nat)(h7:wL.cell? ⟨b,7,none⟩=some (.pointer (some ⟨kb,0,none⟩)))(hk:WOk B wb mm wL x kb A)(hlen:acc.length+(jB (jOf (.mk 11 n ns size [x] ds))).length<=10000000000000):
  Calls prog 28 #[.pointer (some ⟨wb,0,none⟩),.pointer (some ⟨b,0,none⟩)] w λe w'=>CwP B wb mm w (acc++jB (jOf (.mk 11 n ns size [x] ds))) (A++(dM x).map Prod.fst) e w':=by
 rw [jB_11] at hlen ⊢
 have hal:=Y125
 have hbx:=Bx.new hW b
 go_enter func28,ntmps28
 go_upto_region 1 with fail
 generalize (w.alloc (.cells #[.pointer (some ⟨wb,0,none⟩)] 73 (0,0))).alloc (.cells #[.pointer (some ⟨b,0,none⟩)] 53 (0,0))=w1 at *
 have hW1:=hW.add hal
 have hO1:=hO.trans (Old.add hal)
 have q0:=(hO1.cell hlt).trans h0
 have q2:=hbx.c2
 have q3:=hbx.c3
 have HBX:=bf hbx
 have HO1:=bf hO1
 have HK1:=Y135
 have HBL:=bf hBL
 have HLT:=bf hlt
 have hpa:=qE hW1 [⟨#[123,34,116,121,112,101,34,58,34,97,114,114,97,121,34,44,34,105,116,101,109,115,34,58]⟩] Kh MR
 have HLEN:=bf hlen
 have H7:=bf h7
 clear hal hbx hW hO hW1 hO1 h0 hlen h7
 go_upto_region 5 with (go_at_call 40;refine hpa.mono ?_;rintro e w2 ⟨rfl,hr2,hk2⟩)
 have hb2:=HBX.out.wk hk2
 have hO2:=hk2.oldL HO1.out HBL.out
 have t2:=hb2.c2
 have t3:=hb2.c3
 have t7:=(hO2.cell hlt).trans H7.out
 have HK2:=bf (HK1.out.trans hk2)
 have HB2:=bf hb2
 have HO2:=bf hO2
 have hsc:=Y136
 have HD:=Y137
 clear hr2 hk2 hb2 hO2 hpa q0 q2 q3 hk
 go_cut [] (λwx=>Wr B wb mm wx (acc++fu [⟨#[123,34,116,121,112,101,34,58,34,97,114,114,97,121,34,44,34,105,116,101,109,115,34,58]⟩]++jB (jOf x)) (A++(dM x).map Prod.fst)/\Wk B wb mm w2 wx)
 case first=>
  exact Z33
 case rest=>
 exact Z50
theorem sch_12{B wb mm b:Nat}{w wL:World}{acc:List UInt8}{A:List ByteArray}(hW:Wr B wb mm w acc A)(hO:Old wL w)(hBL:B=wL.heap.size)(hlt:b<wL.heap.size)(h0:wL.cell? ⟨b,0,none⟩=some (.int .i64 12))(n:ByteArray)(ns:List ByteArray)(size:Nat)(x:Sch)(ds:List (Option J))(kb:Nat)(h7:wL.cell? ⟨b,7,none⟩=some (.pointer (some ⟨kb,0,none⟩)))(hk:WOk B wb mm wL x kb A)(hlen:acc.length+(jB (jOf (.mk 12 n ns size [x] ds))).length<=10000000000000):
  Calls prog 28 #[.pointer (some ⟨wb,0,none⟩),.pointer (some ⟨b,0,none⟩)] w λe w'=>CwP B wb mm w (acc++jB (jOf (.mk 12 n ns size [x] ds))) (A++(dM x).map Prod.fst) e w':=by
 rw [jB_12] at hlen ⊢
 have hal:=Y125
 have hbx:=Bx.new hW b
 go_enter func28,ntmps28
 go_upto_region 1 with fail
 generalize (w.alloc (.cells #[.pointer (some ⟨wb,0,none⟩)] 73 (0,0))).alloc (.cells #[.pointer (some ⟨b,0,none⟩)] 53 (0,0))=w1 at *
 have hW1:=hW.add hal
 have hO1:=hO.trans (Old.add hal)
 have q0:=(hO1.cell hlt).trans h0
 have q2:=hbx.c2
 have q3:=hbx.c3
 have HBX:=bf hbx
 have HO1:=bf hO1
 have HK1:=Y135
 have HBL:=bf hBL
 have HLT:=bf hlt
 have hpa:=qE hW1 [⟨#[123,34,116,121,112,101,34,58,34,109,97,112,34,44,34,118,97,108,117,101,115,34,58]⟩] Kh MR
 have HLEN:=bf hlen
 have H7:=bf h7
 clear hal hbx hW hO hW1 hO1 h0 hlen h7
 go_upto_region 9 with (go_at_call 40;refine hpa.mono ?_;rintro e w2 ⟨rfl,hr2,hk2⟩)
 have hb2:=HBX.out.wk hk2
 have hO2:=hk2.oldL HO1.out HBL.out
 have t2:=hb2.c2
 have t3:=hb2.c3
 have t7:=(hO2.cell hlt).trans H7.out
 have HK2:=bf (HK1.out.trans hk2)
 have HB2:=bf hb2
 have HO2:=bf hO2
 have hsc:=Y136
 have HD:=Y137
 clear hr2 hk2 hb2 hO2 hpa q0 q2 q3 hk
 go_cut [] (λwx=>Wr B wb mm wx (acc++fu [⟨#[123,34,116,121,112,101,34,58,34,109,97,112,34,44,34,118,97,108,117,101,115,34,58]⟩]++jB (jOf x)) (A++(dM x).map Prod.fst)/\Wk B wb mm w2 wx)
 case first=>
  exact Z33
 case rest=>
 exact Z50
theorem sch_13{B wb mm b:Nat}{w wL:World}{acc:List UInt8}{A:List ByteArray}(hW:Wr B wb mm w acc A)(hO:Old wL w)(hBL:B=wL.heap.size)(hlt:b<wL.heap.size)(h0:wL.cell? ⟨b,0,none⟩=some (.int .i64 13))(n:ByteArray)(ns:List ByteArray)(size:Nat)(kids:List Sch)(ds:List (Option J))(va:Option Addr)(vc N:Nat)(hN:N<=12)(hts:(jI kids).length=N)(h8:wL.cell? ⟨b,8,none⟩=some (.slice va N vc))(hlen:acc.length+(jB (jOf (.mk 13 n ns size kids ds))).length<=10000000000000)(nm:Nat->List ByteArray)(hnm0:nm 0=A)
  (hit:∀j (h:j<(jI kids).length) W acc',Wr B wb mm W acc' (nm j)->Bx wb mm b W w.heap.size (w.heap.size+1)->Old wL W->acc'.length+(jB (jI kids)[j]).length<=10000000000000->Calls prog 42 #[.int .i64 j,.pointer (some ⟨w.heap.size,0,none⟩),.pointer (some ⟨w.heap.size+1,0,none⟩)] W λe w'=>CwP B wb mm W (acc'++jB (jI kids)[j]) (nm (j+1)) e w'):
  Calls prog 28 #[.pointer (some ⟨wb,0,none⟩),.pointer (some ⟨b,0,none⟩)] w λe w'=>CwP B wb mm w (acc++jB (jOf (.mk 13 n ns size kids ds))) (nm N) e w':=by
 rw [jB_13] at hlen ⊢
 have hal:=Y125
 have hbx:=Bx.new hW b
 go_enter func28,ntmps28
 go_upto_region 1 with fail
 generalize (w.alloc (.cells #[.pointer (some ⟨wb,0,none⟩)] 73 (0,0))).alloc (.cells #[.pointer (some ⟨b,0,none⟩)] 53 (0,0))=w1 at *
 have hW1:=hW.add hal
 have hO1:=hO.trans (Old.add hal)
 have q0:=(hO1.cell hlt).trans h0
 have q2:=hbx.c2
 have q3:=hbx.c3
 have HBX:=bf hbx
 have HO1:=bf hO1
 have HK1:=Y135
 have HBL:=bf hBL
 have HLT:=bf hlt
 rw [<-hnm0] at hW1
 have hpa:=qE hW1 [⟨#[91]⟩] Kh MR
 have HLEN:=bf hlen
 have H8:=bf h8
 clear hal hbx hW hO hW1 hO1 h0 hlen h8
 go_upto_region 13 with (go_at_call 40;refine hpa.mono ?_;rintro e w2 ⟨rfl,hr2,hk2⟩)
 have hb2:=HBX.out.wk hk2
 have hO2:=hk2.oldL HO1.out HBL.out
 have t2:=hb2.c2
 have t3:=hb2.c3
 have t8:=(hO2.cell hlt).trans H8.out
 have HK2:=bf (HK1.out.trans hk2)
 have HB2:=bf hb2
 have HO2:=bf hO2
 have hmf:=Y37
 have hk0:Wk B wb mm w2 w2.drew:=(af w2).wk hr2.base
 have hli:=list_un (.pointer (some ⟨w.heap.size,0,none⟩)) (.pointer (some ⟨w.heap.size+1,0,none⟩)) N hN (jI kids) hts nm (w:=w2.drew) (hr2.add (af w2)) KU (λj hj W acc' hWj hkj hlj=>hit j hj W acc' hWj (HB2.out.wk (hk0.trans hkj)) ((hk0.trans hkj).oldL HO2.out HBL.out) hlj)
 have HK0:=bf hk0
 clear hr2 hk2 hb2 hO2 hpa q0 q2 q3 hit hk0
 go_cut [] (λwx=>Wr B wb mm wx (acc++fu [⟨#[91]⟩]++jBs true (jI kids)) (nm N)/\Wk B wb mm w2 wx)
 case first=>
  go_region_held_law (λw'=>w'.cell? ⟨w.heap.size,0,none⟩=some (.pointer (some ⟨wb,0,none⟩))/\w'.cell? ⟨w.heap.size+1,0,none⟩=some (.pointer (some ⟨b,0,none⟩))/\w'.cell? ⟨b,8,none⟩=some (.slice va N vc)) (first|(with_reducible exact ⟨k2,k3,k8⟩)|(with_reducible exact ⟨t2,t3,t8⟩)|go_keep)
   (first
   |(go_at_call 41;refine hli.mono ?_;rintro e w3 ⟨rfl,hr3,hk3⟩;have hk3':=HK0.out.trans hk3;have hb3:=HB2.out.wk hk3';have k2:=hb3.c2;have k3:=hb3.c3;have k8:=((hk3'.oldL HO2.out HBL.out).cell HLT.out).trans H8.out;have HR3:=bf hr3;have HK3:=bf hk3';clear hr3 hk3 hk3' hb3))
  all_goals (go_wp2;go_meet;exact ⟨HR3.out,HK3.out⟩)
 case rest=>
 obtain ⟨hr4,hk4⟩:=hcut
 generalize wc=w4 at *
 have u2:=(HB2.out.wk hk4).c2
 have hpb:=qE hr4 [⟨#[93]⟩] Kh KU
 have HK4:=bf (HK2.out.trans hk4)
 clear hli t2 t3 t8 hr4 hk4
 exact Z257
theorem Au{B wb mm b:Nat}{w wL:World}{acc:List UInt8}{A:List ByteArray}{k:Int}(hW:Wr B wb mm w acc A)(hO:Old wL w)(hBL:B=wL.heap.size)(hlt:b<wL.heap.size)(h0:wL.cell? ⟨b,0,none⟩=some (.int .i64 k))(hk:k=9\/k=10\/k=14)(acc':List UInt8)(A':List ByteArray)(hn:∀W,Wr B wb mm W acc A->Old wL W->Calls prog 43 #[.pointer (some ⟨wb,0,none⟩),.pointer (some ⟨b,0,none⟩)] W λe w'=>CwP B wb mm W acc' A' e w'):
  Calls prog 28 #[.pointer (some ⟨wb,0,none⟩),.pointer (some ⟨b,0,none⟩)] w λe w'=>CwP B wb mm w acc' A' e w':=by
 have HK:=bf hk
 clear hk
 have hal:=Y125
 have hbx:=Bx.new hW b
 go_enter func28,ntmps28
 go_upto_region 1 with fail
 generalize (w.alloc (.cells #[.pointer (some ⟨wb,0,none⟩)] 73 (0,0))).alloc (.cells #[.pointer (some ⟨b,0,none⟩)] 53 (0,0))=w1 at *
 have hW1:=hW.add hal
 have hO1:=hO.trans (Old.add hal)
 have q0:=(hO1.cell hlt).trans h0
 have q2:=hbx.c2
 have q3:=hbx.c3
 have HBX:=bf hbx
 have HO1:=bf hO1
 have HK1:=Y135
 have HBL:=bf hBL
 have HLT:=bf hlt
 have hnw:=hn w1 hW1 hO1
 clear hal hbx hW hO hW1 hO1 h0 hn
 rcases HK.out with rfl|rfl|rfl
 all_goals (go_wp2_with (go_at_call 43;refine hnw.mono ?_;rintro e w2 ⟨rfl,hr2,hk2⟩))
 all_goals go_end0
 all_goals exact ⟨rfl,hr2,HK1.out.trans hk2⟩
theorem JC{B wb mm b:Nat}{w wL:World}{acc:List UInt8}{A:List ByteArray}(k:Nat)(hW:Wr B wb mm w acc A)(hO:Old wL w)(hBL:B=wL.heap.size)(hlt:b<wL.heap.size)(h0:wL.cell? ⟨b,0,none⟩=some (.int .i64 k))(h1:1<=k)(h8:k<=8)(hwd:lS wL)(hgl:16<wL.heap.size)(hlen:acc.length+(qB (kC.getD (k-1) ByteArray.empty)).length<=10000000000000):
  Calls prog 28 #[.pointer (some ⟨wb,0,none⟩),.pointer (some ⟨b,0,none⟩)] w λe w'=>CwP B wb mm w (acc++qB (kC.getD (k-1) ByteArray.empty)) A e w':=by
 obtain ⟨x,hx,hxc,hxz⟩:∃x,kC.getD (k-1) ByteArray.empty=x/\wL.cell? ⟨16,k-1,none⟩=some (.string x)/\x.size<=10:=by
  refine ⟨_,rfl,?_,?_⟩
  ·have h:=hwd (k-1) Kc
   rw [h]
   have hl:k-1<kC.length:=by show k-1<8;omega
   rw [List.getD_eq_getElem?_getD,NP hl]
   rfl
  have h:∀i,i<8->(kC.getD i ByteArray.empty).size<=10:=Ke
  exact h (k-1) Kc
 rw [hx] at hlen ⊢
 have hal:=Y125
 have hbx:=Bx.new hW b
 go_enter func28,ntmps28
 go_upto_region 1 with fail
 generalize (w.alloc (.cells #[.pointer (some ⟨wb,0,none⟩)] 73 (0,0))).alloc (.cells #[.pointer (some ⟨b,0,none⟩)] 53 (0,0))=w1 at *
 have hW1:=hW.add hal
 have hO1:=hO.trans (Old.add hal)
 have q0:=(hO1.cell hlt).trans h0
 have q2:=hbx.c2
 have q3:=hbx.c3
 have HBX:=bf hbx
 have HO1:=bf hO1
 have HK1:=Y135
 have HBL:=bf hBL
 have HLT:=bf hlt
 have qx:=(hO1.cell hgl).trans hxc
 have hqu:=λW=>rF x W Kc
 have hpt:=qE (hW1.add (af w1)) [qS x] Kh MZ
 have HK0:Hid (Wk B wb mm w1 w1.drew):=(af w1).wk hW1.base
 have HX:=bf hxc
 have HG:=bf hgl
 have H0:=bf h0
 have i0:(0:Int)<=(k:Int)-1:=Kc
 have i1:(k:Int)-1<8:=Kc
 have iw:IntKind.i64.wrap ((k:Int)-1)=(k:Int)-1:=KD
 have iw2:wrap64 ((k:Int)-1)=(k:Int)-1:=Kn
 have itn:((k:Int)-1).toNat=k-1:=Kc
 have b11:((k:Int)==11)=false:=Kr
 have b12:((k:Int)==12)=false:=Kr
 have b13:((k:Int)==13)=false:=Kr
 have b9:((k:Int)==9)=false:=Kr
 have b10:((k:Int)==10)=false:=Kr
 have b14:((k:Int)==14)=false:=Kr
 clear hal hbx hW hO hW1 hO1 h0 hlen hxc hgl hwd hxz hx
 go_upto_region 2 with fail
 go_region_held_law (λw'=>w'.cell? ⟨w.heap.size,0,none⟩=some (.pointer (some ⟨wb,0,none⟩))/\w'.cell? ⟨w.heap.size+1,0,none⟩=some (.pointer (some ⟨b,0,none⟩))/\w'.cell? ⟨b,0,none⟩=some (.int .i64 k)/\w'.cell? ⟨16,k-1,none⟩=some (.string x)) (first|(with_reducible exact ⟨k2,k3,k4,k5⟩)|(with_reducible exact ⟨q2,q3,q0,qx⟩)|go_keep)
  (first
  |(go_at_call 44;refine (hqu _).mono ?_;rintro e w2 ⟨rfl,rfl⟩)
  |(go_at_call 40;refine hpt.mono ?_;rintro e w2 ⟨rfl,hr2,hk2⟩;have hk2':=HK0.out.trans hk2;have hb2:=HBX.out.wk hk2';have ho2:=hk2'.oldL HO1.out HBL.out;have k2:=hb2.c2;have k3:=hb2.c3;have k4:=(ho2.cell HLT.out).trans H0.out;have k5:=(ho2.cell HG.out).trans HX.out;have HR2:=bf hr2;have HK2:=bf hk2';clear hr2 hk2 hk2' hb2 ho2))
 all_goals go_wp2
 all_goals go_end0
 all_goals exact ⟨rfl,by have h:=HR2.out;simpa [fu,gJ] using h,HK1.out.trans HK2.out⟩
end
end Go.Proofs.YtmphmjkinmkidaaGreatDoor
