import Derived.Test.YtjmlghgnbclmfaaGreatDoorS42
import Derived.Test.YtjmlghgnbclmfaaGreatDoorS44
set_option linter.defProp false
open Go.Proofs.Tryz
set_option maxRecDepth 8000
set_option maxHeartbeats 4000000
namespace Go.Proofs.YtjmlghgnbclmfaaGreatDoor
variable{p:Prop}
section
open Go Go.RowKit Go.Extern.Stop Go.Stop Go.Extern
theorem xL{f:FuncId}{args:Array Value}{w:World}{v:Value}(h:∀x,Calls prog f args (w.drewN x) λe w'=>e=.returned v/\w'=w.drewN x):∀x,Calls prog f args (w.drewN x) λe w'=>e=.returned v/\∃n,w'=w.drewN n:=λx=>(h x).mono λ_ _ h=>⟨h.1,x,h.2⟩
theorem DV{w:World}{sb sb':Nat}{s s':Sch}(hS:SchAt w sb s)(hS':SchAt w sb' s')(he:s'=eO s):
  Calls prog 8 #[.pointer (some ⟨sb,0,none⟩),.pointer (some ⟨sb',0,none⟩)] w λe w'=>e=.returned (.bool true)/\∃m,w'=w.drewN m:=by
 subst he
 obtain ⟨W0,ok,b,Bs,h1,h2,h3⟩:=hS.cell
 obtain ⟨W0',ok',b',Bs',h1',h2',h3'⟩:=hS'.cell
 have hm:∀x,Calls prog 20 #[.pointer (some ⟨b,0,none⟩),.pointer (some ⟨b',0,none⟩)] (w.drewN x) λe w'=>e=.returned (.bool true)/\∃n,w'=w.drewN n:=λx=>(Bz (jQ s) s (NL _) hS.good.shp hS.good.rdy hS.good.nm (w.drewN x) b b' (cO (w:=w) (w':=w.drewN x) ⟨NL _,λ_ _ _=>rfl⟩ (λ_ h _=>h) (NN _) (NN _) _ _ h3) (cO (w:=w) (w':=w.drewN x) ⟨NL _,λ_ _ _=>rfl⟩ (λ_ h _=>h) (NN _) (NN _) _ _ h3')).mono λe w' h=>⟨h.1,h.2.elim λm hm=>⟨x+m,by rw [hm,World.drewN_drewN]⟩⟩
 have i1:=xL (λx=>mB (w:=w.drewN x) h1)
 have i2:=xL (λx=>mB (w:=w.drewN x) h1')
 unfold ptr at h1 h1'
 clear h2 h3 h2' h3' hS hS'
 go_enter func8,ntmps8
 go_wp2
 go_quiet (first|(go_at_call 16;first|(with_reducible exact i1 _)|(with_reducible exact i2 _))|(go_at_call 20;(with_reducible exact hm _)))
 go_wp2
 go_ret
 exact ⟨rfl,_,rfl⟩
theorem Dh{a q:Nat->Addr}{w:World}(hG:Glb a q w)(i:Nat)(hi:i<4):
  Calls prog 37 #[wv q i] w λe w'=>(∃k,k<16/\e=.returned (.iface 200 (.pointer (some (a k)))))/\w'=w:=by
 have g3:=hG.met.cell 3 Ke
 have g4:=hG.met.cell 4 Ke
 have g5:=hG.met.cell 5 Ke
 have g6:=hG.met.cell 6 Ke
 have w0:=hG.met4.short
 have w2:=hG.met4.deep
 have w3:=hG.met4.many
 obtain ⟨ci,ti,hri⟩:=hG.met4.row i hi
 obtain ⟨c0,t0,hr0⟩:=hG.met4.row 0 Ke
 obtain ⟨c2,t2,hr2⟩:=hG.met4.row 2 Ke
 obtain ⟨c3,t3,hr3⟩:=hG.met4.row 3 Ke
 have hap:=λj hj (h:i≠j)=>hG.met4.apart i j hi hj h
 clear hG
 unfold wv
 by_cases e0:i=0
 ·subst e0
  have h0:=wD (q 0) w
  clear hap hri hr0 hr2 hr3
  go_enter func37,ntmps37
  go_wp2_with (go_at_call 32;(with_reducible refine h0.mono ?_);rintro e w1 ⟨rfl,hw1⟩;obtain rfl:w=w1:=hw1.symm;clear hw1)
  go_ret
  exact ⟨⟨3,by decide,rfl⟩,rfl⟩
 have h0:=sZ (q i) (q 0) ci c0 ti t0 w (hap 0 Ke e0) hri hr0
 by_cases e2:i=2
 ·subst e2
  have h2:=wD (q 2) w
  clear hap hri hr0 hr2 hr3
  go_enter func37,ntmps37
  go_wp2_with (first|(go_at_call 32;(with_reducible refine h0.mono ?_);rintro e w1 ⟨rfl,hw1⟩;obtain rfl:w=w1:=hw1.symm;clear hw1)|(go_at_call 32;(with_reducible refine h2.mono ?_);rintro e w1 ⟨rfl,hw1⟩;obtain rfl:w=w1:=hw1.symm;clear hw1))
  go_ret
  exact ⟨⟨5,by decide,rfl⟩,rfl⟩
 have h2:=sZ (q i) (q 2) ci c2 ti t2 w (hap 2 Ke e2) hri hr2
 by_cases e3:i=3
 ·subst e3
  have h3:=wD (q 3) w
  clear hap hri hr0 hr2 hr3
  go_enter func37,ntmps37
  go_wp2_with (first|(go_at_call 32;(with_reducible refine h0.mono ?_);rintro e w1 ⟨rfl,hw1⟩;obtain rfl:w=w1:=hw1.symm;clear hw1)|(go_at_call 32;(with_reducible refine h2.mono ?_);rintro e w1 ⟨rfl,hw1⟩;obtain rfl:w=w1:=hw1.symm;clear hw1)|(go_at_call 32;(with_reducible refine h3.mono ?_);rintro e w1 ⟨rfl,hw1⟩;obtain rfl:w=w1:=hw1.symm;clear hw1))
  go_ret
  exact ⟨⟨6,by decide,rfl⟩,rfl⟩
 have h3:=sZ (q i) (q 3) ci c3 ti t3 w (hap 3 Ke e3) hri hr3
 clear hap hri hr0 hr2 hr3
 go_enter func37,ntmps37
 go_wp2_with (first|(go_at_call 32;(with_reducible refine h0.mono ?_);rintro e w1 ⟨rfl,hw1⟩;obtain rfl:w=w1:=hw1.symm;clear hw1)|(go_at_call 32;(with_reducible refine h2.mono ?_);rintro e w1 ⟨rfl,hw1⟩;obtain rfl:w=w1:=hw1.symm;clear hw1)|(go_at_call 32;(with_reducible refine h3.mono ?_);rintro e w1 ⟨rfl,hw1⟩;obtain rfl:w=w1:=hw1.symm;clear hw1))
 go_ret
 exact ⟨⟨4,by decide,rfl⟩,rfl⟩
def Y221(h:p:=by exact (dD w (.cells #[.int .i64 0,.int .i64 0,.int .u64 0,.string ⟨#[]⟩,.slice none 0 0,.slice none 0 0] 42 (0,0)))):p:=h
def Y222(h:p:=by exact (dE w (.cells #[.int .i64 0,.int .i64 0,.int .u64 0,.string ⟨#[]⟩,.slice none 0 0,.slice none 0 0] 42 (0,0)))):p:=h
def Y223(h:p:=by exact (ae w2 (.cells #[.int .i64 dk,.int .i64 dn,.int .u64 (db:Int),.string dt,.slice dna dnl dnc,.slice dka dkl dkc] 42 (0,0)))):p:=h
def Y224(h:p:=by exact (dD w2 (.cells #[.int .i64 dk,.int .i64 dn,.int .u64 (db:Int),.string dt,.slice dna dnl dnc,.slice dka dkl dkc] 42 (0,0)))):p:=h
def Y225(h:p:=by exact (dE w2 (.cells #[.int .i64 dk,.int .i64 dn,.int .u64 (db:Int),.string dt,.slice dna dnl dnc,.slice dka dkl dkc] 42 (0,0)))):p:=h
def Y226(h:p:=by exact (show Hid (w2.heap.size<w3.heap.size/\w.heap.size<w2.heap.size) from ⟨by omega,by have h1:=HA2.out.size;have h2:=HS1.out;omega⟩)):p:=h
def Y227(h:p:=by exact (dF (fF HBR.out (.int .i64 dk) (.int .i64 dn) (.int .u64 (db:Int)) (.string dt) (.slice dna dnl dnc) (.slice dka dkl dkc)))):p:=h
def ADecP(a:Nat->Addr)(tab:List TNode)(t:ByteArray)(w:World)(e:Ending)(w':World):Prop:=
 Add w w'/\((jt t tab 64 0 0 0=none/\∃k rb dk dn db dt dna dka dnl dnc dkl dkc,k<16/\e=.returned (.tuple #[.agg (dcs dk dn db dt dna dka dnl dnc dkl dkc).toArray,.int .i64 0,.iface 88 (.pointer (some ⟨rb,0,none⟩))])/\w'.cell? ⟨rb,0,none⟩=some (.iface 200 (.pointer (some (a k))))) \/
  ∃x j l cs,jt t tab 64 0 0 0=some (x,j,l)/\e=.returned (.tuple #[.agg cs.toArray,.int .i64 (j:Int),.nilIface])/\x.liesO (λb=>w.heap.size<=b) w' cs/\j<=t.size)
theorem zf.idx{q:Nat->Addr}{x:Value}(h:zf (wv q 0) (wv q 1) (wv q 2) (wv q 3) x):∃i,i<4/\x=wv q i:=by
 rcases h with rfl|rfl|rfl|rfl
 ·exact ⟨0,by decide,rfl⟩
 ·exact ⟨1,by decide,rfl⟩
 ·exact ⟨2,by decide,rfl⟩
 exact ⟨3,by decide,rfl⟩
theorem Hd{a q:Nat->Addr}{w:World}{sb:Nat}{s:Sch}(hG:Glb a q w)(hS:SchAt w sb s)(t:ByteArray)(ht:t.size<=70368744177000):
  Calls prog 21 #[.pointer (some ⟨sb,0,none⟩),.string t] w λe w'=>ADecP a (fH s) t w e w':=by
 have hal:=Y190
 have hb1:=Y221
 have hs1:=Y222
 have hG1:=hG.add hal
 obtain ⟨pl,hL,hc,hp⟩:=(hS.add hal).lay
 generalize hW1:w.alloc (.cells #[.int .i64 0,.int .i64 0,.int .u64 0,.string ⟨#[]⟩,.slice none 0 0,.slice none 0 0] 42 (0,0))=w1 at *
 have hm:=mB (w:=w1) (sb:=sb) (b:=pl 0) hc
 have hd:=Cs (w:=w1) (t:=t) hp hL hG1.met4.werr hG1.st.tbl.tabs hG1.st.tbl.ng ht
 generalize fH s=tab at *
 have HG:=bf hG1
 have HAL:=bf hal
 have HB1:=bf hb1
 have HS1:=bf hs1
 clear hG hS hG1 hL hp hal hb1 hs1 ht
 go_enter func21,ntmps21
 go_upto_region 4 with (first|(go_at_call 16;(with_reducible refine hm.mono ?_);rintro e w2 ⟨rfl,hw2⟩;obtain rfl:w1=w2:=hw2.symm;clear hw2)|(go_at_call 36;refine hd.mono ?_;rintro e w2 ⟨hA2,⟨hO,x,hx,rfl⟩|⟨x,j,l,v0,v1,v2,v3,v4,v5,hO,rfl,hx,hj⟩⟩;rotate_left;(obtain ⟨dk,dn,db,dt,dna,dka,dnl,dnc,dkl,dkc,hcs⟩:=aO hx;obtain ⟨rfl,rfl,rfl,rfl,rfl,rfl⟩:=EB hcs;clear hcs;have HO:=bf hO;have HX:=bf hx;have HA2:=bf hA2;clear hO hx hA2);rotate_right;(obtain ⟨i,hi,rfl⟩:=hx.idx;have HO:=bf hO;have HA2:=bf hA2;clear hO hA2 hx)))
 ·have hA3:=ae w2 (.cells #[.int .i64 0,.int .i64 0,.int .u64 0,.string ⟨#[]⟩,.slice none 0 0,.slice none 0 0] 42 (0,0))
  have hA3':=HA2.out.trans hA3
  generalize w2.alloc (.cells #[.int .i64 0,.int .i64 0,.int .u64 0,.string ⟨#[]⟩,.slice none 0 0,.slice none 0 0] 42 (0,0))=w3 at *
  have hG3:=HG.out.add hA3'
  have hun:=Dh hG3 i hi
  have hb3:=(hA3'.old w.heap.size MK).trans HB1.out
  have HA3:=bf hA3'
  have HB3:=bf hb3
  have HNE:Hid (w.heap.size<w3.heap.size):=by have h1:=hA3'.size;have h2:=HS1.out;show _<_;omega
  unfold wv at *
  clear hd hm hc hA3 hA3' hG3 hb3
  go_wp2_with (go_at_call 37;refine hun.mono ?_;rintro e w4 ⟨⟨k,hk,rfl⟩,hw4⟩;obtain rfl:w3=w4:=hw4.symm;clear hw4;have hAR:=ae w3 (.cells #[.iface 200 (.pointer (some (a k))),.iface 200 (.pointer (some (q i)))] 90 (0,0));have hbR:=(hAR.old _ HNE.out).trans HB3.out;obtain ⟨q0,q1,q2,q3,q4,q5,qz⟩:=dF hbR;have y0:=qz 0;have y1:=qz 1;have y2:=qz 2;have y3:=qz 3;have y4:=qz 4;have y5:=qz 5;have HAR:=bf hAR;have HBR:=bf hbR;clear qz hAR hbR)
  obtain ⟨r0,r1,r2,r3,r4,r5,-⟩:=dF (fF HBR.out (.int .i64 0) (.int .i64 0) (.int .u64 0) (.string ⟨#[]⟩) (.slice none 0 0) (.slice none 0 0))
  have hAF:Add w (dV (w3.alloc (.cells #[.iface 200 (.pointer (some (a k))),.iface 200 (.pointer (some (q i)))] 90 (0,0))) w.heap.size (.int .i64 0) (.int .i64 0) (.int .u64 0) (.string ⟨#[]⟩) (.slice none 0 0) (.slice none 0 0)):=(by
   have h:=HAL.out.trans (HA3.out.trans HAR.out)
   exact ⟨by rw [iF];exact h.os,by rw [eX];exact h.output,by rw [dP];exact h.size,λi hi=>(dI _ _ _ _ _ _ _ _ i Kc).trans (h.old i hi)⟩)
  have hcF:(dV (w3.alloc (.cells #[.iface 200 (.pointer (some (a k))),.iface 200 (.pointer (some (q i)))] 90 (0,0))) w.heap.size (.int .i64 0) (.int .i64 0) (.int .u64 0) (.string ⟨#[]⟩) (.slice none 0 0) (.slice none 0 0)).cell? ⟨w3.heap.size,0,none⟩=some (.iface 200 (.pointer (some (a k)))):=(NY (a:=⟨w3.heap.size,0,none⟩) (dI _ _ _ _ _ _ _ _ _ (NR HNE.out))).trans (by unfold World.cell?;rw [dD];rfl)
  clear q0 q1 q2 q3 q4 q5 y0 y1 y2 y3 y4 y5
  unfold dV at r0 r1 r2 r3 r4 r5 hAF hcF
  refine bodyPost_ret (v:=.tuple #[.agg #[.int .i64 0,.int .i64 0,.int .u64 0,.string ⟨#[]⟩,.slice none 0 0,.slice none 0 0],.int .i64 0,.iface 88 (.pointer (some ⟨w3.heap.size,0,none⟩))]) Mi rfl ?_
  exact ⟨hAF,.inl ⟨HO.out,k,w3.heap.size,0,0,0,⟨#[]⟩,none,none,0,0,0,0,hk,rfl,hcF⟩⟩
 have hA3:=Y223
 have hb3:=Y224
 have hx3:=aN ⟨hA3.size,λi _ hl=>hA3.old i hl⟩ _ _ HX.out
 have hlt2:w.heap.size<w2.heap.size:=by have h1:=HA2.out.size;have h2:=HS1.out;omega
 have hA3':=HA2.out.trans hA3
 obtain ⟨t0,t1,t2,t3,t4,t5,-⟩:=dF hb3
 have hbr:=(hA3'.old w.heap.size MK).trans HB1.out
 have hz3:=Y225
 generalize w2.alloc (.cells #[.int .i64 dk,.int .i64 dn,.int .u64 (db:Int),.string dt,.slice dna dnl dnc,.slice dka dkl dkc] 42 (0,0))=w3 at *
 obtain ⟨q0,q1,q2,q3,q4,q5,qz⟩:=dF hbr
 have y0:=qz 0
 have y1:=qz 1
 have y2:=qz 2
 have y3:=qz 3
 have y4:=qz 4
 have y5:=qz 5
 obtain ⟨r0,r1,r2,r3,r4,r5,-⟩:=dF (fF hbr (.int .i64 dk) (.int .i64 dn) (.int .u64 (db:Int)) (.string dt) (.slice dna dnl dnc) (.slice dka dkl dkc))
 have hAF:Add w (dV w3 w.heap.size (.int .i64 dk) (.int .i64 dn) (.int .u64 (db:Int)) (.string dt) (.slice dna dnl dnc) (.slice dka dkl dkc)):=(by
  have h:=HAL.out.trans hA3'
  exact ⟨by rw [iF];exact h.os,by rw [eX];exact h.output,by rw [dP];exact h.size,λi hi=>(dI _ _ _ _ _ _ _ _ i Kc).trans (h.old i hi)⟩)
 have hLF:x.liesO (λb=>w.heap.size<=b) (dV w3 w.heap.size (.int .i64 dk) (.int .i64 dn) (.int .u64 (db:Int)) (.string dt) (.slice dna dnl dnc) (.slice dka dkl dkc)) [.int .i64 dk,.int .i64 dn,.int .u64 (db:Int),.string dt,.slice dna dnl dnc,.slice dka dkl dkc]:=aP (λb hb _=>by show _<=_;have:w1.heap.size<=b:=hb;have:=HS1.out;omega) _ _ (aN (ok:=λb=>w1.heap.size<=b) ⟨by rw [dP];exact NL _,λi hi _=>dI _ _ _ _ _ _ _ _ i (by have:w1.heap.size<=i:=hi;have:=HS1.out;omega)⟩ _ _ hx3)
 have HAF:=bf hAF
 have HLF:=bf hLF
 clear hd hm hc qz hbr hA3 hA3' hb3 hx3 hAF hLF hlt2 hz3
 unfold dV at r0 r1 r2 r3 r4 r5 HAF HLF
 go_wp2
 refine bodyPost_ret (v:=.tuple #[.agg #[.int .i64 dk,.int .i64 dn,.int .u64 (db:Int),.string dt,.slice dna dnl dnc,.slice dka dkl dkc],.int .i64 (j:Int),.nilIface]) Mi rfl ?_
 exact ⟨HAF.out,.inr ⟨x,j,l,_,HO.out,rfl,HLF.out,hj⟩⟩
def PDecP(tab:List TNode)(t:ByteArray)(w:World)(e:Ending)(w':World):Prop:=
 Add w w'/\((jt t tab 64 0 0 0=none/\∃(n:Int) (dk dn:Int) (db:Nat) (dt:ByteArray) (dna dka:Option Addr) (dnl dnc dkl dkc:Nat),n≠0/\e=.returned (.tuple #[.agg (dcs dk dn db dt dna dka dnl dnc dkl dkc).toArray,.int .i64 0,.int .i64 n])) \/
  ∃x j l cs,jt t tab 64 0 0 0=some (x,j,l)/\e=.returned (.tuple #[.agg cs.toArray,.int .i64 (j:Int),.int .i64 0])/\x.liesO (λb=>w.heap.size<=b) w' cs/\j<=t.size)
theorem xk{a q:Nat->Addr}{w:World}{sb:Nat}{s:Sch}(hG:Glb a q w)(hS:SchAt w sb s)(t:ByteArray)(ht:t.size<=70368744177000):
  Calls prog 10 #[.pointer (some ⟨sb,0,none⟩),.string t] w λe w'=>PDecP (fH s) t w e w':=by
 have hal:=Y190
 have hb1:=Y221
 have hs1:=Y222
 have hG1:=hG.add hal
 have hd:=Hd hG1 (hS.add hal) t ht
 generalize hW1:w.alloc (.cells #[.int .i64 0,.int .i64 0,.int .u64 0,.string ⟨#[]⟩,.slice none 0 0,.slice none 0 0] 42 (0,0))=w1 at *
 generalize fH s=tab at *
 have HG:=bf hG1
 have HAL:=bf hal
 have HB1:=bf hb1
 have HS1:=bf hs1
 clear hG hS hG1 hal hb1 hs1 ht
 go_enter func10,ntmps10
 go_upto_region 2 with (go_at_call 21;refine hd.mono ?_;rintro e w2 ⟨hA2,⟨hO,k,rb,dk,dn,db,dt,dna,dka,dnl,dnc,dkl,dkc,hk,rfl,hc⟩|⟨x,j,l,cs,hO,rfl,hx,hj⟩⟩;rotate_left;(obtain ⟨dk,dn,db,dt,dna,dka,dnl,dnc,dkl,dkc,rfl⟩:=aO hx;unfold dcs;have HO:=bf hO;have HX:=bf hx;have HA2:=bf hA2;clear hO hx hA2);rotate_right;(unfold dcs;have HO:=bf hO;have HC:=bf hc;have HA2:=bf hA2;clear hO hA2 hc))
 ·have hA3:=Y223
  have hb3:=Y224
  have hA3':=HA2.out.trans hA3
  have hz3:=Y225
  have hc3:=hA3.cell HC.out
  generalize hW3:w2.alloc (.cells #[.int .i64 dk,.int .i64 dn,.int .u64 (db:Int),.string dt,.slice dna dnl dnc,.slice dka dkl dkc] 42 (0,0))=w3 at *
  have hn:=pO a k hk w3 (HG.out.add hA3').met rb hc3
  have hnA:Calls prog 19 #[.iface 88 (.pointer (some ⟨rb,0,none⟩))] w3 λe w'=>e=.returned (.tuple #[.int .i64 ((k:Int)+1),.int .i64 (-1)])/\Add w3 w':=hn.mono λe w' h=>⟨h.1,h.2.add⟩
  have HA3:=bf hA3'
  have HB3:=bf hb3
  have HZ3:=Y226
  have HA23:=bf hA3
  clear hd hA3 hA3' hb3 hz3 hn hc3 hW3
  go_wp2_with (go_at_call 19;refine hnA.mono ?_;rintro e w4 ⟨rfl,hA4⟩;have hA14:=HA3.out.trans hA4;have hbr:=(hA14.old w.heap.size MK).trans HB1.out;obtain ⟨t0,t1,t2,t3,t4,t5,-⟩:=dF ((hA4.old _ HZ3.out.1).trans HB3.out);obtain ⟨q0,q1,q2,q3,q4,q5,qz⟩:=dF hbr;have y0:=qz 0;have y1:=qz 1;have y2:=qz 2;have y3:=qz 3;have y4:=qz 4;have y5:=qz 5;have HA14:=bf hA14;have HBR:=bf hbr;have HA4:=bf hA4;clear qz hbr hA14 hA4)
  obtain ⟨r0,r1,r2,r3,r4,r5,-⟩:=Y227
  have hAF:Add w (dV w4 w.heap.size (.int .i64 dk) (.int .i64 dn) (.int .u64 (db:Int)) (.string dt) (.slice dna dnl dnc) (.slice dka dkl dkc)):=(by
   have h:=HAL.out.trans HA14.out
   exact ⟨by rw [iF];exact h.os,by rw [eX];exact h.output,by rw [dP];exact h.size,λi hi=>(dI _ _ _ _ _ _ _ _ i Kc).trans (h.old i hi)⟩)
  clear q0 q1 q2 q3 q4 q5 y0 y1 y2 y3 y4 y5 t0 t1 t2 t3 t4 t5
  unfold dV at r0 r1 r2 r3 r4 r5 hAF
  refine bodyPost_ret (v:=.tuple #[.agg #[.int .i64 dk,.int .i64 dn,.int .u64 (db:Int),.string dt,.slice dna dnl dnc,.slice dka dkl dkc],.int .i64 0,.int .i64 ((k:Int)+1)]) Mj rfl ?_
  exact ⟨hAF,.inl ⟨HO.out,(k:Int)+1,dk,dn,db,dt,dna,dka,dnl,dnc,dkl,dkc,by omega,rfl⟩⟩
 have hA3:=Y223
 have hb3:=Y224
 have hA3':=HA2.out.trans hA3
 have hz3:=Y225
 generalize hW3:w2.alloc (.cells #[.int .i64 dk,.int .i64 dn,.int .u64 (db:Int),.string dt,.slice dna dnl dnc,.slice dka dkl dkc] 42 (0,0))=w3 at *
 have hnA:Calls prog 19 #[.nilIface] w3 λe w'=>e=.returned (.tuple #[.int .i64 0,.int .i64 (-1)])/\Add w3 w':=(rW w3).mono λe w' h=>⟨h.1,by rw [h.2];exact Add.refl _⟩
 have HA3:=bf hA3'
 have HB3:=bf hb3
 have HZ3:=Y226
 have HA23:=bf hA3
 clear hd hA3 hA3' hb3 hz3 hW3
 go_wp2_with (go_at_call 19;refine hnA.mono ?_;rintro e w4 ⟨rfl,hA4⟩;have hA14:=HA3.out.trans hA4;have hbr:=(hA14.old w.heap.size MK).trans HB1.out;obtain ⟨t0,t1,t2,t3,t4,t5,-⟩:=dF ((hA4.old _ HZ3.out.1).trans HB3.out);obtain ⟨q0,q1,q2,q3,q4,q5,qz⟩:=dF hbr;have y0:=qz 0;have y1:=qz 1;have y2:=qz 2;have y3:=qz 3;have y4:=qz 4;have y5:=qz 5;have HA14:=bf hA14;have HBR:=bf hbr;have HA4:=bf hA4;clear qz hbr hA14 hA4)
 obtain ⟨r0,r1,r2,r3,r4,r5,-⟩:=Y227
 have hAF:Add w (dV w4 w.heap.size (.int .i64 dk) (.int .i64 dn) (.int .u64 (db:Int)) (.string dt) (.slice dna dnl dnc) (.slice dka dkl dkc)):=(by
  have h:=HAL.out.trans HA14.out
  exact ⟨by rw [iF];exact h.os,by rw [eX];exact h.output,by rw [dP];exact h.size,λi hi=>(dI _ _ _ _ _ _ _ _ i Kc).trans (h.old i hi)⟩)
 have hLF:x.liesO (λb=>w.heap.size<=b) (dV w4 w.heap.size (.int .i64 dk) (.int .i64 dn) (.int .u64 (db:Int)) (.string dt) (.slice dna dnl dnc) (.slice dka dkl dkc)) [.int .i64 dk,.int .i64 dn,.int .u64 (db:Int),.string dt,.slice dna dnl dnc,.slice dka dkl dkc]:=(by
  have h24:=HA23.out.trans HA4.out
  have hx4:=aN ⟨h24.size,λi _ hl=>h24.old i hl⟩ _ _ HX.out
  exact aP (λb hb _=>by show _<=_;have:w1.heap.size<=b:=hb;have:=HS1.out;omega) _ _ (aN (ok:=λb=>w1.heap.size<=b) ⟨by rw [dP];exact NL _,λi hi _=>dI _ _ _ _ _ _ _ _ i (by have:w1.heap.size<=i:=hi;have:=HS1.out;omega)⟩ _ _ hx4))
 clear q0 q1 q2 q3 q4 q5 y0 y1 y2 y3 y4 y5 t0 t1 t2 t3 t4 t5
 unfold dV at r0 r1 r2 r3 r4 r5 hAF hLF
 refine bodyPost_ret (v:=.tuple #[.agg #[.int .i64 dk,.int .i64 dn,.int .u64 (db:Int),.string dt,.slice dna dnl dnc,.slice dka dkl dkc],.int .i64 (j:Int),.int .i64 0]) Mj rfl ?_
 exact ⟨hAF,.inr ⟨x,j,l,_,HO.out,rfl,hLF,hj⟩⟩
end
section
open Go Go.RowKit
theorem IP{w:World}{b o:Nat}{v:Value}(h:w.cell? ⟨b,o,none⟩=some v):∃c T fr,w.heap[b]?=some (.cells c T fr):=by
 unfold World.cell? at h
 simp only at h
 split at h
 ·exact ⟨_,_,_,by assumption⟩
 cases h
section
variable {w:World} {kb:Nat} {x:Option Addr} {v:Value}
theorem zC(hc:w.cell? ⟨kb,0,none⟩=some (.pointer x)){b o:Nat}{y:Value}(hy:w.cell? ⟨b,o,none⟩=some y)(hn:∀p,y≠.pointer p):(w.setCell ⟨kb,0,none⟩ v).cell? ⟨b,o,none⟩=some y:=by
 by_cases h:b=kb
 ·subst h
  by_cases ho:o=0
  ·subst ho
   rw [hc] at hy
   cases hy
   exact absurd rfl (hn x)
  exact (eU ho).trans hy
 exact (NY (a:=⟨b,o,none⟩) (NZ _ _ _ _ KV)).trans hy
theorem Hu(hc:w.cell? ⟨kb,0,none⟩=some (.pointer x)){m:Nat}{ns:List ByteArray}(h:kS w m ns):kS (w.setCell ⟨kb,0,none⟩ v) m ns:=by
 refine h.carry (NZ _ _ _ _ ?_)
 show m≠kb
 rintro rfl
 obtain ⟨D,⟨es,clock,h0,_⟩,_⟩:=h
 unfold World.cell? at hc
 rw [h0] at hc
 cases hc
theorem FI(hc:w.cell? ⟨kb,0,none⟩=some (.pointer x)){ok:Nat->Prop}{a:Option Addr}{ns:List ByteArray}(h:iK ok w a ns):iK ok (w.setCell ⟨kb,0,none⟩ v) a ns:=by
 rcases h with h|⟨b,o,h1,h2,h3,h4⟩
 ·exact .inl h
 exact .inr ⟨b,o,h1,h2,by simpa using h3,λi hi=>zC hc (h4 i hi) (λp e=>by cases e)⟩
theorem jc_np{k n:Int}{t:ByteArray}{a na:Option Addr}{l c nl nc:Nat}{m:Option Nat}{f:Nat}{y:Value}(h:(jc k n t a na l c nl nc m)[f]?=some y):∀p,y≠.pointer p:=by
 have hm:y∈jc k n t a na l c nl nc m:=List.mem_of_getElem? h
 unfold jc at hm
 simp only [List.mem_cons,List.not_mem_nil,or_false] at hm
 rcases hm with rfl|rfl|rfl|rfl|rfl|rfl <;> (intro p e;cases e)
mutual
theorem bQ(hc:w.cell? ⟨kb,0,none⟩=some (.pointer x)){ok:Nat->Prop} : ∀(j:J) (cs:List Value),j.lies ok w cs->j.lies ok (w.setCell ⟨kb,0,none⟩ v) cs
 |.null,cs,h=>by rw [J.lies] at h ⊢;exact h
 |.bool b,cs,h=>by rw [J.lies] at h ⊢;exact h
 |.num n,cs,h=>by rw [J.lies] at h ⊢;exact h
 |.str s,cs,h=>by rw [J.lies] at h ⊢;exact h
 |.arr l,cs,h=>by
  rw [J.lies] at h ⊢
  obtain ⟨a,c,h1,h2,h3⟩:=h
  exact ⟨a,c,h1,h2,bK hc a 0 l h3⟩
 |.obj ns vs,cs,h=>by
  rw [J.lies] at h ⊢
  obtain ⟨a,c,na,nc,m,h1,h2,h3,h4,h5,h6,h7,h8⟩:=h
  exact ⟨a,c,na,nc,m,h1,h2,h3,h4,h5,Hu hc h6,FI hc h7,bK hc a 0 vs h8⟩
theorem bK(hc:w.cell? ⟨kb,0,none⟩=some (.pointer x)){ok:Nat->Prop}(a:Option Addr):∀(i:Nat) (l:List J),J.lieAll ok w a i l->J.lieAll ok (w.setCell ⟨kb,0,none⟩ v) a i l
 |_,[],_=>by rw [J.lieAll];trivial
 |i,d::r,h=>by
  rw [J.lieAll] at h ⊢
  obtain ⟨⟨b,o,cs,h1,h2,h3,h4,h5,h6⟩,hr⟩:=h
  refine ⟨⟨b,o,cs,h1,h2,by simpa using h3,h4,λf hf=>?_,bQ hc d cs h6⟩,bK hc a (i+1) r hr⟩
  obtain ⟨n,t,a',na,l',c,nl,nc,m,rfl⟩:=J.lies_cells h6
  have hy:=h5 f hf
  obtain ⟨y,hy'⟩:∃y,(jc d.kindI n t a' na l' c nl nc m)[f]?=some y:=⟨_,NP (by rw [h4];exact hf)⟩
  rw [hy'] at hy ⊢
  exact zC hc hy (jc_np hy')
end
theorem ze(hc:w.cell? ⟨kb,0,none⟩=some (.pointer x)):∀(ns:List ByteArray) (bs:List Nat) (ds:List (Option J)) (cs:List Value),dZ w ns bs ds cs->dZ (w.setCell ⟨kb,0,none⟩ v) ns bs ds cs
 |[],[],[],cs,h=>h
 |n::ns,b::bs,d::ds,cs,h=>by
  obtain ⟨aa,al,ac,js,rest,h1,h2,h3,h4⟩:=h
  refine ⟨aa,al,ac,js,rest,h1,h2,?_,ze hc ns bs ds rest h4⟩
  cases d with
  |none=>exact h3
  |some j=>exact bQ hc j js h3
 |[],[],_::_,_,h=>h.elim
 |[],_::_,_,_,h=>h.elim
 |_::_,[],_,_,h=>h.elim
 |_::_,_::_,[],_,h=>h.elim
mutual
theorem dh{ok:Nat->Prop}{W:World}{E:Env}{Bs:List Nat}(hc:w.cell? ⟨kb,0,none⟩=some (.pointer x)):∀(s:Sch) (b:Nat),s.at ok w W E Bs b->s.at ok (w.setCell ⟨kb,0,none⟩ v) W E Bs b
 |.ref k n,b,h=>by rw [Sch.at] at h ⊢;exact h
 |.mk k n ns size kids defs,b,h=>by
  rw [Sch.at] at h ⊢
  obtain ⟨bs,h1,h2,h3⟩:=h
  obtain ⟨g1,g2,g3,g4,⟨v',cs,h5,h6,h7,h8⟩,g5,g6,g7,g8⟩:=h1
  exact ⟨bs,⟨g1,g2,g3,g4,⟨v',cs,h5,h6,h7,λe=>ze hc _ _ _ _ (h8 e)⟩,g5,g6,g7,g8⟩,cK hc kids bs h2,h3⟩
theorem cK{ok:Nat->Prop}{W:World}{E:Env}{Bs:List Nat}(hc:w.cell? ⟨kb,0,none⟩=some (.pointer x)):∀(ss:List Sch) (bs:List Nat),bZ ok w W E Bs ss bs->bZ ok (w.setCell ⟨kb,0,none⟩ v) W E Bs ss bs
 |[],[],_=>by rw [bZ];trivial
 |[],_::_,h=>by rw [bZ] at h;exact h.elim;all_goals simp
 |_::_,[],h=>by rw [bZ] at h;exact h.elim;all_goals simp
 |s::ss,b::bs,h=>by
  rw [bZ] at h ⊢
  exact ⟨dh hc s b h.1,cK hc ss bs h.2⟩
end
end
theorem Ch.poke{w w':World}{kb sb:Nat}{s:Sch}{x:Option Addr}{v:Value}(h:Ch w w' sb s)(hs:SchAt w' sb s)(hc:w.cell? ⟨kb,0,none⟩=some (.pointer x)):SchAt (w'.setCell ⟨kb,0,none⟩ v) sb s:=by
 obtain ⟨hsb,W0,b,Bs,h1,h2,h3,h4⟩:=h
 have hlt:=NW _ _ hc
 simp only at hlt
 have hne:sb≠kb:=Kc
 have hc0:=h2.cell hc
 refine ⟨hs.read,hs.good,hs.le,W0.setCell ⟨kb,0,none⟩ v,_,b,Bs,(NY (a:=⟨sb,0,none⟩) (NZ _ _ _ _ (by exact hne))).trans h1,⟨h3.os,h3.output,by simpa using h3.size,λi hi=>?_⟩,cO (ok:=λi=>w.heap.size<=i) (ok':=λi=>w.heap.size<=i) (w:=w') ⟨by simp,λi hi _=>NZ _ _ _ _ (by show i≠kb;have:w.heap.size<=i:=hi;omega)⟩ (λ_ h _=>h) (NN _) (NN _) _ _ (dh hc0 _ _ h4)⟩
 have hi':i<W0.heap.size:=ML
 by_cases e:i=kb
 ·subst e
  obtain ⟨c,T,fr,hh⟩:=IP hc0
  have hh':=(h3.old i hi').trans hh
  rw [dG hh 0 v,dG hh' 0 v]
 rw [NZ _ _ _ _ (by exact e),NZ _ _ _ _ (by exact e)]
 exact h3.old i hi'
end
section
open Go Go.RowKit Go.Extern.Stop Go.Stop Go.Extern
structure ScrAt(w:World)(sb so n:Nat)(K A B C:Nat->Int)(S:Nat->ByteArray):Prop where
 lt:sb<w.heap.size
 k:∀i:Nat,i<n->w.cell? ⟨sb,so+i*5,none⟩=some (.int .i64 (K i))
 a:∀i:Nat,i<n->w.cell? ⟨sb,so+i*5+1,none⟩=some (.int .i64 (A i))
 b:∀i:Nat,i<n->w.cell? ⟨sb,so+i*5+2,none⟩=some (.int .i64 (B i))
 c:∀i:Nat,i<n->w.cell? ⟨sb,so+i*5+3,none⟩=some (.int .i64 (C i))
 s:∀i:Nat,i<n->w.cell? ⟨sb,so+i*5+4,none⟩=some (.string (S i))
 bd:∀i:Nat,i<n->(-9223372036854775808<=A i/\A i<=9223372036854775807)/\(-9223372036854775808<=B i/\B i<=9223372036854775807)/\(-9223372036854775808<=C i/\C i<=9223372036854775807)
 sz:∀i:Nat,i<n->(S i).size<=140737488355328
 le:n<=140737488355328
theorem ScrAt.add{w w':World}{sb so n:Nat}{K A B C:Nat->Int}{S:Nat->ByteArray}(h:ScrAt w sb so n K A B C S)(x:Add w w'):ScrAt w' sb so n K A B C S:=
 ⟨NK h.lt x.size,λi hi=>x.cell (h.k i hi),λi hi=>x.cell (h.a i hi),λi hi=>x.cell (h.b i hi),λi hi=>x.cell (h.c i hi),λi hi=>x.cell (h.s i hi),h.bd,h.sz,h.le⟩
structure KtAt(w:World)(kb sb:Nat)(s:Sch)(xa ya:Option Addr)(xc yc:Nat)(ds:List Dat)(bs:List ByteArray):Prop where
 c0:w.cell? ⟨kb,0,none⟩=some (.pointer (some ⟨sb,0,none⟩))
 c2:w.cell? ⟨kb,2,none⟩=some (.slice xa ds.length xc)
 c13:w.cell? ⟨kb,13,none⟩=some (.slice ya bs.length yc)
 sch:SchAt w sb s
 data:Dat.lieAll w xa 0 ds
 bytes:jE w ya bs
 sz:aY ds<=262144
 bz:∀t∈bs,t.size<=262144
 bn:bs.length<=300000
def ToldP(w:World)(e:Ending)(w':World):Prop:=
 Add w w'/\((∃v,e=.returned (.tuple #[v,.bool false]))\/∃kb sb s xa ya xc yc ds bs,e=.returned (.tuple #[.pointer (some ⟨kb,0,none⟩),.bool true])/\KtAt w' kb sb s xa ya xc yc ds bs)
theorem kw_new(w:World):Kw w (w.alloc (.cells #[.pointer none,.string ⟨#[]⟩,.slice none 0 0,.slice none 0 0,.int .i64 0,.int .i64 0,.int .i64 0,.int .i64 0,.int .i64 0,.int .i64 0,.int .i64 0,.int .i64 0,.string ⟨#[48,49,50,51,52,53,54,55,56,57,97,98,99,100,101,102]⟩,.slice none 0 0,.int .i64 262144] 33 (0,0))) w.heap.size ⟨#[]⟩ [] 0 [] 262144:=by
 have ha:=ae w (.cells #[.pointer none,.string ⟨#[]⟩,.slice none 0 0,.slice none 0 0,.int .i64 0,.int .i64 0,.int .i64 0,.int .i64 0,.int .i64 0,.int .i64 0,.int .i64 0,.int .i64 0,.string ⟨#[48,49,50,51,52,53,54,55,56,57,97,98,99,100,101,102]⟩,.slice none 0 0,.int .i64 262144] 33 (0,0))
 have hb:=dD w (.cells #[.pointer none,.string ⟨#[]⟩,.slice none 0 0,.slice none 0 0,.int .i64 0,.int .i64 0,.int .i64 0,.int .i64 0,.int .i64 0,.int .i64 0,.int .i64 0,.int .i64 0,.string ⟨#[48,49,50,51,52,53,54,55,56,57,97,98,99,100,101,102]⟩,.slice none 0 0,.int .i64 262144] 33 (0,0))
 generalize w.alloc (.cells #[.pointer none,.string ⟨#[]⟩,.slice none 0 0,.slice none 0 0,.int .i64 0,.int .i64 0,.int .i64 0,.int .i64 0,.int .i64 0,.int .i64 0,.int .i64 0,.int .i64 0,.string ⟨#[48,49,50,51,52,53,54,55,56,57,97,98,99,100,101,102]⟩,.slice none 0 0,.int .i64 262144] 33 (0,0))=w1 at *
 refine ⟨.slice none 0 0,.slice none 0 0,.slice none 0 0,[],[],ha,NL _,?_,?_,?_,?_,?_,?_,λo ho=>⟨?_,?_⟩,Row.nil _ _,rfl,Row.nil _ _,Row.nil _ _,λb h=>(by rcases h with h|h|h <;> cases h),λb h=>Lm,λb h=>Lm,λb h=>Lm,by simp [aY],by decide,by decide,λt h=>by cases h⟩
 any_goals (unfold World.cell?;rw [hb];rfl)
 ·unfold World.cell?
  rw [hb]
  have ho':o=0\/o=1\/o=2\/o=3\/o=4\/o=5\/o=6\/o=7\/o=8\/o=9\/o=10\/o=11\/o=12\/o=13\/o=14:=Kc
  rcases ho' with rfl|rfl|rfl|rfl|rfl|rfl|rfl|rfl|rfl|rfl|rfl|rfl|rfl|rfl|rfl <;> rfl
 unfold World.frozen?
 rw [hb]
 simp
theorem Ba(S:Nat->ByteArray){n i:Nat}(h:i<n):(S i).size<=gQ S n:=by
 have:=uf S (show i+1<=n from h)
 rw [gQ] at this
 omega
theorem EH{W0 w:World}{kb:Nat}{text:ByteArray}{ds:List Dat}{na:Nat}{bs:List ByteArray}{left:Int}(h:Kw W0 w kb text ds na bs left):w.cell? ⟨kb,14,none⟩=some (.int .i64 left)/\w.cell? ⟨kb,1,none⟩=some (.string text)/\Add W0 w/\W0.heap.size<=kb/\text.size<=262144/\w.cell? ⟨kb,0,none⟩=some (.pointer none)/\w.frozen? ⟨kb,0,none⟩=false:=by
 obtain ⟨vd,va,vb,cells,ac,h⟩:=h
 exact ⟨h.c14,h.c1,h.add,h.ge,h.tz,h.c0,(h.there 0 Ke).2⟩
theorem kw_told{W0 w w':World}{kb sb:Nat}{text:ByteArray}{ds:List Dat}{na:Nat}{bs:List ByteArray}{left:Int}{s:Sch}(h:Kw W0 w kb text ds na bs left)(hl:0<=left)(hbn:bs.length<=300000)(x:Add w w')(hs:SchAt w' sb s)(hi:Ch w w' sb s):∃xa ya xc yc,KtAt (w'.setCell ⟨kb,0,none⟩ (.pointer (some ⟨sb,0,none⟩))) kb sb s xa ya xc yc ds bs:=by
 obtain ⟨vd,va,vb,cells,ac,h⟩:=h
 have h':=h.more x
 obtain ⟨k1,k2,k3⟩:=CG w' kb 0 (.pointer (some ⟨sb,0,none⟩))
 obtain ⟨-,b2,b3,-,b5⟩:=h'.base k2 ⟨rfl,rfl⟩ k1
 have hsz:=h.sz
 have hS:=hi.poke (v:=.pointer (some ⟨sb,0,none⟩)) hs h.c0
 have c0:=Cn (v:=.pointer (some ⟨sb,0,none⟩)) (h'.there 0 Ke).1
 have c2:=(k3 2 Ke).trans h'.c2
 have c13:=(k3 13 Ke).trans h'.c13
 generalize w'.setCell ⟨kb,0,none⟩ (.pointer (some ⟨sb,0,none⟩))=w2 at *
 obtain ⟨xa,xc,e,hd⟩:=Dat.row_lieAll (ok:=λ_=>True) b2 (aw (λ_ _ _=>trivial) _ _ b3) (λ_ _=>trivial)
 obtain ⟨ya,yc,e'⟩:=b5.shape
 subst e e'
 exact ⟨xa,ya,xc,yc,c0,c2,c13,hS,aM _ _ _ hd,(dC (ok:=λ_=>True) b5 (λ_ _=>trivial)).strs,by omega,h.bz,hbn⟩
theorem told_of{a q:Nat->Addr}{w:World}{sb so n cap:Nat}{K A B C:Nat->Int}{S:Nat->ByteArray}{ad:Option Addr}(hG:Glb a q w)(hA:ad=some ⟨sb,so,none⟩\/n=0)(hS:n=0\/ScrAt w sb so n K A B C S)(hsm:Calls prog 14 #[.slice ad n cap] w λe w'=>e=.returned (.bool (ky n S))/\w'=w):
  Calls prog 5 #[.slice ad n cap] w λe w'=>ToldP w e w':=by
 cases hb:ky n S with
 |false=>
  rw [hb] at hsm
  clear hG hA hS
  go_enter func5,ntmps5
  go_wp2_with (go_at_call 14;refine hsm.mono ?_;rintro e w1 ⟨rfl,hw1⟩;obtain rfl:w=w1:=hw1.symm;clear hw1)
  go_ret2
  exact ⟨Add.refl _,.inl ⟨_,rfl⟩⟩
 |true=>
  rw [hb] at hsm
  have hn:n+gQ S n<=262144:=by unfold ky at hb;simpa using hb
  have hK:=kw_new w
  have HG:=bf hG
  have HS:=bf hS
  have HA:=bf hA
  have HN:=bf hn
  have hnn:n<=262144:=Kc
  clear hG hS hA hn hb
  go_enter func5,ntmps5
  go_wp2_with (go_at_call 14;refine hsm.mono ?_;rintro e w1 ⟨rfl,hw1⟩;obtain rfl:w=w1:=hw1.symm;clear hw1)
  clear hsm
  go_loopw [6] (λcnt wr=>∃(j:Nat) (text:ByteArray) (ds:List Dat) (na:Nat) (bs:List ByteArray) (left:Int),j<=n/\cnt=.int .i64 j/\Kw w wr w.heap.size text ds na bs left/\0<=left/\na<=j/\bs.length<=j) (λcnt _=>n-(intOf cnt).toNat)
  case atStart=>exact ⟨0,_,_,_,_,_,NQ _,rfl,hK,by decide,NL _,NL _⟩
  obtain ⟨j,text,ds,na,bs,left,hj,rfl,hW,hl0,hna,hbs⟩:=hrel
  obtain ⟨k14,k1,hAw,hge,htz,k0,kz0⟩:=EH hW
  by_cases hlt:j<n
  ·have hS:=HS.out.resolve_left Kc
   have hA:=HA.out.resolve_right Kc
   subst hA
   have hS':=hS.add hAw
   have r0:=hS'.k j hlt
   have r1:=hS'.a j hlt
   have r2:=hS'.b j hlt
   have r3:=hS'.c j hlt
   have r4:=hS'.s j hlt
   have hst:=GP (K:=K j) (A:=A j) (B:=B j) (C:=C j) (S:=S j) hW ⟨(hS.bd j hlt).1,(hS.bd j hlt).2.1,(hS.bd j hlt).2.2,by have h1:=HN.out;have h2:=Ba S hlt;omega⟩ hl0 Kc Kc
   generalize K j=Kj at *
   generalize A j=Aj at *
   generalize B j=Bj at *
   generalize C j=Cj at *
   generalize S j=Sj at *
   clear hS hS' hW k14 k1 k0 kz0 hAw hge htz
   go_wp2_with (go_at_call 15;(with_reducible refine hst.mono ?_);rintro e w2 ⟨rfl,text',ds',na',bs',left',hW2,hna',hbs'⟩;obtain ⟨m14,-,hA2,-⟩:=EH hW2;have HW2:=bf hW2;have HA2:=bf hA2;clear hW2 hA2)
   ·go_ret2
    exact ⟨HA2.out,.inl ⟨_,rfl⟩⟩
   go_roundw
   case rel=>exact ⟨j+1,text',ds',na',bs',left',by omega,by go_num,HW2.out,by omega,by omega,by omega⟩
   simp only [intOf];exact wg hlt
  obtain rfl:j=n:=Kc
  have hp:=rE (HG.out.add hAw) text Kc
  have HW:=bf hW
  have HAW:=bf hAw
  have HL:=bf hl0
  have HBS:Hid (bs.length<=300000):=by show _<=_;omega
  have HGE:=bf hge
  clear hW hAw hl0 hna hbs k14 hge
  go_wp2_with (go_at_call 7;refine hp.mono ?_;rintro e w2 ⟨hA2,⟨m,hm,rfl,-⟩|⟨s,sb',jj,rfl,-,-,hS2,hI2⟩⟩;all_goals (have l0:=hA2.cell k0;have lz:=(hA2.frozen (NW _ _ k0)).trans kz0;have HA2:=bf hA2;clear hA2))
  all_goals go_ret2
  all_goals (have hAA:=HAW.out.trans HA2.out)
  all_goals (have hAF:∀y,Add w (w2.setCell ⟨w.heap.size,0,none⟩ y):=λy=>⟨hAA.os,hAA.output,by simpa using hAA.size,λi hi=>(NZ _ _ _ _ (by show i≠w.heap.size;omega)).trans (hAA.old i hi)⟩)
  ·exact ⟨hAF _,.inl ⟨_,rfl⟩⟩
  obtain ⟨xa,ya,xc,yc,hK⟩:=kw_told HW.out HL.out HBS.out HA2.out hS2 hI2
  exact ⟨hAF _,.inr ⟨_,_,_,_,_,_,_,_,_,rfl,hK⟩⟩
end
end Go.Proofs.YtjmlghgnbclmfaaGreatDoor
