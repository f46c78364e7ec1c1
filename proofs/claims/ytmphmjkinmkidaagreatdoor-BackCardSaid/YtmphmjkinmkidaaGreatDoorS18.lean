import Derived.Deep.RegionHeld
import Derived.Test.YtmphmjkinmkidaaGreatDoorS17
set_option linter.defProp false
open Go.Proofs.Tryz
set_option maxRecDepth 20000
set_option maxHeartbeats 4000000
open Go Go.RowKit Go.Extern.Stop Go.Stop Go.Extern
namespace Go.Proofs.YtmphmjkinmkidaaGreatDoor
variable{p:Prop}
section
variable{W W0 w:World}{B m rb:Nat}{v v2:Value}{E:Env}{Bs:List Nat}
def Y84(h:p:=by exact ((hu8.old (w.heap.size+1) (Oh HB67.out).1 hn1).trans HB67.out)):p:=h
def Y85(h:p:=by exact (bf ((HFI.out.add HA7.out).upd f7 (.inl rfl) hu8 (dN hb8).1 ⟨_,(dN hb68).1⟩))):p:=h
def Y86(h:p:=by exact (HFI8.out.upd (w.heap.size+1) (.inr rfl) hu9 (hu9.cell hn2 HF0.out) ⟨_,r0⟩)):p:=h
def Z195(h:p:=by
 obtain ⟨k',e,h⟩:=fZ hk HW.out
 cases e
 exact h):p:=h
theorem wo{w4 w5:World}(hR:Rs W0 rb m w v E Bs)(_ha:Add w w4)(hu:Ru rb m w4 v w5 v2)(f:Nat)(hf:w.heap.size<=f)(hl:f<w4.heap.size):w5.heap[f]?=w4.heap[f]?:=
 hu.old f hl (by have:=hR.lt;omega) (by have:=hR.pl.lt;omega) (λe=>by have:=hR.row.blk_lt e;omega)
theorem Rs.upd{w':World}(h:Rs W0 rb m w v E Bs)(u:Upd B w w')(h0:W0.heap.size<=B)(h1:B≠rb)(h2:B≠m)(h3:blk v≠some B){x:ByteArray}(hs:w.cell? ⟨B,0,none⟩=some (.string x)):Rs W0 rb m w' v E Bs:=by
 have hrb:=u.old rb h.lt (λe=>h1 e.symm)
 refine ⟨⟨u.os.trans h.add.os,u.output.trans h.add.output,NM h.add.size u.size,λi hi=>(u.old i (NK hi h.add.size) Kc).trans (h.add.old i hi)⟩,h.rbW,h.mW,h.vW,h.rm,(NY (a:=⟨rb,0,none⟩) hrb).trans h.c0,(NY (a:=⟨rb,1,none⟩) hrb).trans h.c1,(Oa (a:=⟨rb,0,none⟩) hrb).trans h.f0,h.row.carry λi hi=>u.old i (h.row.blk_lt hi) (λe=>h3 (e ▸ hi)),h.pl.carry (u.old m h.pl.lt (λe=>h2 e.symm)),h.len,h.small,?_⟩
 intro i n k b e1 e2
 obtain ⟨q1,q2,q3,q4,q5,q6,q7⟩:=h.types i n k b e1 e2
 have hb:=u.old b q1 (λe=>by rw [e,hs] at q6;cases q6)
 exact ⟨NK q1 u.size,q2,q3,q4,q5,(NY (a:=⟨b,0,none⟩) hb).trans q6,(NY (a:=⟨b,1,none⟩) hb).trans q7⟩
theorem Ru.upd{w1 w2:World}{v1:Value}(h:Ru rb m w v w1 v1)(u:Upd B w1 w2)(hB:w.heap.size<=B):Ru rb m w v w2 v1:=
 ⟨u.os.trans h.os,u.output.trans h.output,NM h.size u.size,λi hi h1 h2 h3=>(u.old i (NK hi h.size) Kc).trans (h.old i hi h1 h2 h3),h.at'⟩
theorem Upd.keepOk{ok:Nat->Prop}{w':World}(u:Upd B w w')(h:∀i,ok i->i≠B):Keep ok w w':=⟨u.size,λi ho hi=>u.old i hi (h i ho)⟩
structure FdI(W0 w w6:World)(rb m f:Nat)(v v2:Value)(E E2:Env)(Bs Bs2:List Nat)(s:Sch)(br T0:Nat)(n:ByteArray):Prop where
 r0:Rs W0 rb m w v E Bs
 rs:Rs W0 rb m w6 v2 E2 Bs2
 ru:Ru rb m w v w6 v2
 pe:E <+: E2
 pb:Bs <+: Bs2
 at':s.at (λi=>T0<=i/\blk v2≠some i) W0 w6 E2 Bs2 br
 fw:w.heap.size+1<f
 fT:f<T0
 vv:∀g,blk v2=some g->g<w.heap.size\/T0<=g
 c0:w6.cell? ⟨f,0,none⟩=some (.string n)
 d0:∃x,w6.cell? ⟨w.heap.size+1,0,none⟩=some (.string x)
theorem FdI.upd{w6 w7:World}{f:Nat}{E2:Env}{Bs2:List Nat}{s:Sch}{br T0:Nat}{n:ByteArray}(h:FdI W0 w w6 rb m f v v2 E E2 Bs Bs2 s br T0 n)(B:Nat)(hB:B=f\/B=w.heap.size+1)(u:Upd B w6 w7)(h0:w7.cell? ⟨f,0,none⟩=some (.string n))(h1:∃x,w7.cell? ⟨w.heap.size+1,0,none⟩=some (.string x)):FdI W0 w w7 rb m f v v2 E E2 Bs Bs2 s br T0 n:=by
 have hfw:=h.fw
 have hfT:=h.fT
 have hr:=h.r0.lt
 have hm:=h.r0.pl.lt
 have hW:=h.r0.add.size
 have hv:blk v2≠some B:=λe=>by have:=h.vv B e;omega
 have hx:∃x,w6.cell? ⟨B,0,none⟩=some (.string x):=by
  rcases hB with rfl|rfl
  ·exact ⟨_,h.c0⟩
  exact h.d0
 obtain ⟨x,hx⟩:=hx
 exact ⟨h.r0,h.rs.upd u Kc Kc Kc hv hx,h.ru.upd u Kc,h.pe,h.pb,cO (u.keepOk λi hi=>by omega) (λ_ hi _=>hi) (NN _) (NN _) _ _ h.at',h.fw,h.fT,h.vv,h0,h1⟩
theorem FdI.add{w6 w7:World}{f:Nat}{E2:Env}{Bs2:List Nat}{s:Sch}{br T0:Nat}{n:ByteArray}(h:FdI W0 w w6 rb m f v v2 E E2 Bs Bs2 s br T0 n)(a:Add w6 w7):FdI W0 w w7 rb m f v v2 E E2 Bs Bs2 s br T0 n:=by
 obtain ⟨x,hx⟩:=h.d0
 exact h.upd f (.inl rfl) (a.upd f) (a.cell h.c0) ⟨x,a.cell hx⟩
theorem mP{o0 o1 o2 o3 o4 o5 o6 o7 o8 o9:Value}(h:W.heap[B]?=some (fdB o0 o1 o2 o3 o4 o5 o6 o7 o8 o9))(v0 v1 v2 v3 v4 v5 v6 v7 v8 v9:Value):((((((((((W.setCell ⟨B,0,none⟩ v0).setCell ⟨B,1,none⟩ v1).setCell ⟨B,2,none⟩ v2).setCell ⟨B,3,none⟩ v3).setCell ⟨B,4,none⟩ v4).setCell ⟨B,5,none⟩ v5).setCell ⟨B,6,none⟩ v6).setCell ⟨B,7,none⟩ v7).setCell ⟨B,8,none⟩ v8).setCell ⟨B,9,none⟩ v9).heap[B]?=some (fdB v0 v1 v2 v3 v4 v5 v6 v7 v8 v9):=by
 have h0:(W.setCell ⟨B,0,none⟩ v0).heap[B]?=some (fdB v0 o1 o2 o3 o4 o5 o6 o7 o8 o9):=dG h 0 v0
 have h1:((W.setCell ⟨B,0,none⟩ v0).setCell ⟨B,1,none⟩ v1).heap[B]?=some (fdB v0 v1 o2 o3 o4 o5 o6 o7 o8 o9):=dG h0 1 v1
 have h2:(((W.setCell ⟨B,0,none⟩ v0).setCell ⟨B,1,none⟩ v1).setCell ⟨B,2,none⟩ v2).heap[B]?=some (fdB v0 v1 v2 o3 o4 o5 o6 o7 o8 o9):=dG h1 2 v2
 have h3:((((W.setCell ⟨B,0,none⟩ v0).setCell ⟨B,1,none⟩ v1).setCell ⟨B,2,none⟩ v2).setCell ⟨B,3,none⟩ v3).heap[B]?=some (fdB v0 v1 v2 v3 o4 o5 o6 o7 o8 o9):=dG h2 3 v3
 have h4:(((((W.setCell ⟨B,0,none⟩ v0).setCell ⟨B,1,none⟩ v1).setCell ⟨B,2,none⟩ v2).setCell ⟨B,3,none⟩ v3).setCell ⟨B,4,none⟩ v4).heap[B]?=some (fdB v0 v1 v2 v3 v4 o5 o6 o7 o8 o9):=dG h3 4 v4
 have h5:((((((W.setCell ⟨B,0,none⟩ v0).setCell ⟨B,1,none⟩ v1).setCell ⟨B,2,none⟩ v2).setCell ⟨B,3,none⟩ v3).setCell ⟨B,4,none⟩ v4).setCell ⟨B,5,none⟩ v5).heap[B]?=some (fdB v0 v1 v2 v3 v4 v5 o6 o7 o8 o9):=dG h4 5 v5
 have h6:(((((((W.setCell ⟨B,0,none⟩ v0).setCell ⟨B,1,none⟩ v1).setCell ⟨B,2,none⟩ v2).setCell ⟨B,3,none⟩ v3).setCell ⟨B,4,none⟩ v4).setCell ⟨B,5,none⟩ v5).setCell ⟨B,6,none⟩ v6).heap[B]?=some (fdB v0 v1 v2 v3 v4 v5 v6 o7 o8 o9):=dG h5 6 v6
 have h7:((((((((W.setCell ⟨B,0,none⟩ v0).setCell ⟨B,1,none⟩ v1).setCell ⟨B,2,none⟩ v2).setCell ⟨B,3,none⟩ v3).setCell ⟨B,4,none⟩ v4).setCell ⟨B,5,none⟩ v5).setCell ⟨B,6,none⟩ v6).setCell ⟨B,7,none⟩ v7).heap[B]?=some (fdB v0 v1 v2 v3 v4 v5 v6 v7 o8 o9):=dG h6 7 v7
 have h8:(((((((((W.setCell ⟨B,0,none⟩ v0).setCell ⟨B,1,none⟩ v1).setCell ⟨B,2,none⟩ v2).setCell ⟨B,3,none⟩ v3).setCell ⟨B,4,none⟩ v4).setCell ⟨B,5,none⟩ v5).setCell ⟨B,6,none⟩ v6).setCell ⟨B,7,none⟩ v7).setCell ⟨B,8,none⟩ v8).heap[B]?=some (fdB v0 v1 v2 v3 v4 v5 v6 v7 v8 o9):=dG h7 8 v8
 have h9:((((((((((W.setCell ⟨B,0,none⟩ v0).setCell ⟨B,1,none⟩ v1).setCell ⟨B,2,none⟩ v2).setCell ⟨B,3,none⟩ v3).setCell ⟨B,4,none⟩ v4).setCell ⟨B,5,none⟩ v5).setCell ⟨B,6,none⟩ v6).setCell ⟨B,7,none⟩ v7).setCell ⟨B,8,none⟩ v8).setCell ⟨B,9,none⟩ v9).heap[B]?=some (fdB v0 v1 v2 v3 v4 v5 v6 v7 v8 v9):=dG h8 9 v9
 exact h9
theorem zD{o0 o1 o2 o3 o4 o5 o6 o7 o8 o9:Value}(h:W.heap[B]?=some (fdB o0 o1 o2 o3 o4 o5 o6 o7 o8 o9))(v3 v4 v5 v6 v7 v8 v9:Value):(((((((W.setCell ⟨B,3,none⟩ v3).setCell ⟨B,4,none⟩ v4).setCell ⟨B,5,none⟩ v5).setCell ⟨B,6,none⟩ v6).setCell ⟨B,7,none⟩ v7).setCell ⟨B,8,none⟩ v8).setCell ⟨B,9,none⟩ v9).heap[B]?=some (fdB o0 o1 o2 v3 v4 v5 v6 v7 v8 v9)/\Upd B W (((((((W.setCell ⟨B,3,none⟩ v3).setCell ⟨B,4,none⟩ v4).setCell ⟨B,5,none⟩ v5).setCell ⟨B,6,none⟩ v6).setCell ⟨B,7,none⟩ v7).setCell ⟨B,8,none⟩ v8).setCell ⟨B,9,none⟩ v9):=by
 have h3:(W.setCell ⟨B,3,none⟩ v3).heap[B]?=some (fdB o0 o1 o2 v3 o4 o5 o6 o7 o8 o9):=dG h 3 v3
 have h4:((W.setCell ⟨B,3,none⟩ v3).setCell ⟨B,4,none⟩ v4).heap[B]?=some (fdB o0 o1 o2 v3 v4 o5 o6 o7 o8 o9):=dG h3 4 v4
 have h5:(((W.setCell ⟨B,3,none⟩ v3).setCell ⟨B,4,none⟩ v4).setCell ⟨B,5,none⟩ v5).heap[B]?=some (fdB o0 o1 o2 v3 v4 v5 o6 o7 o8 o9):=dG h4 5 v5
 have h6:((((W.setCell ⟨B,3,none⟩ v3).setCell ⟨B,4,none⟩ v4).setCell ⟨B,5,none⟩ v5).setCell ⟨B,6,none⟩ v6).heap[B]?=some (fdB o0 o1 o2 v3 v4 v5 v6 o7 o8 o9):=dG h5 6 v6
 have h7:(((((W.setCell ⟨B,3,none⟩ v3).setCell ⟨B,4,none⟩ v4).setCell ⟨B,5,none⟩ v5).setCell ⟨B,6,none⟩ v6).setCell ⟨B,7,none⟩ v7).heap[B]?=some (fdB o0 o1 o2 v3 v4 v5 v6 v7 o8 o9):=dG h6 7 v7
 have h8:((((((W.setCell ⟨B,3,none⟩ v3).setCell ⟨B,4,none⟩ v4).setCell ⟨B,5,none⟩ v5).setCell ⟨B,6,none⟩ v6).setCell ⟨B,7,none⟩ v7).setCell ⟨B,8,none⟩ v8).heap[B]?=some (fdB o0 o1 o2 v3 v4 v5 v6 v7 v8 o9):=dG h7 8 v8
 have h9:(((((((W.setCell ⟨B,3,none⟩ v3).setCell ⟨B,4,none⟩ v4).setCell ⟨B,5,none⟩ v5).setCell ⟨B,6,none⟩ v6).setCell ⟨B,7,none⟩ v7).setCell ⟨B,8,none⟩ v8).setCell ⟨B,9,none⟩ v9).heap[B]?=some (fdB o0 o1 o2 v3 v4 v5 v6 v7 v8 v9):=dG h8 9 v9
 exact ⟨h9,(((((((Upd.refl B W).trans (Upd.set _ _ _ _)).trans (Upd.set _ _ _ _)).trans (Upd.set _ _ _ _)).trans (Upd.set _ _ _ _)).trans (Upd.set _ _ _ _)).trans (Upd.set _ _ _ _)).trans (Upd.set _ _ _ _)⟩
theorem uL(v0 v1 v2 v3 v4 v5 v6 v7 v8 v9:Value):Upd B W ((((((((((W.setCell ⟨B,0,none⟩ v0).setCell ⟨B,1,none⟩ v1).setCell ⟨B,2,none⟩ v2).setCell ⟨B,3,none⟩ v3).setCell ⟨B,4,none⟩ v4).setCell ⟨B,5,none⟩ v5).setCell ⟨B,6,none⟩ v6).setCell ⟨B,7,none⟩ v7).setCell ⟨B,8,none⟩ v8).setCell ⟨B,9,none⟩ v9):=((((((((((Upd.refl B W).trans (Upd.set _ _ _ _)).trans (Upd.set _ _ _ _)).trans (Upd.set _ _ _ _)).trans (Upd.set _ _ _ _)).trans (Upd.set _ _ _ _)).trans (Upd.set _ _ _ _)).trans (Upd.set _ _ _ _)).trans (Upd.set _ _ _ _)).trans (Upd.set _ _ _ _)).trans (Upd.set _ _ _ _)
theorem lu{wB:World}(ha:Add wB W)(hB:wB.heap.size<=B)(o:Nat)(x:Value):Add wB (W.setCell ⟨B,o,none⟩ x):=
 ⟨ha.os,ha.output,by simp;exact ha.size,λi hi=>(NZ W ⟨B,o,none⟩ x i (by show i≠B;omega)).trans (ha.old i hi)⟩
theorem zG{wB:World}(ha:Add wB W)(hB:wB.heap.size<=B)(v0 v1 v2 v3 v4 v5 v6 v7 v8 v9:Value):Add wB ((((((((((W.setCell ⟨B,0,none⟩ v0).setCell ⟨B,1,none⟩ v1).setCell ⟨B,2,none⟩ v2).setCell ⟨B,3,none⟩ v3).setCell ⟨B,4,none⟩ v4).setCell ⟨B,5,none⟩ v5).setCell ⟨B,6,none⟩ v6).setCell ⟨B,7,none⟩ v7).setCell ⟨B,8,none⟩ v8).setCell ⟨B,9,none⟩ v9):=
 lu (lu (lu (lu (lu (lu (lu (lu (lu (lu (ha) hB 0 v0) hB 1 v1) hB 2 v2) hB 3 v3) hB 4 v4) hB 5 v5) hB 6 v6) hB 7 v7) hB 8 v8) hB 9 v9
theorem II{ok:Nat->Prop}{j:J}{cs:List Value}{k:Nat}(hS:qR W0 k)(sp:ByteArray)(hT:STbl W0)(hl:j.lies ok W0 cs)(hw:j.within (k+1))(hR:Rs W0 rb m w v E Bs)(hsp:max sp.size 65536+65537*(k+1)<=10000000000):
  Calls prog 149 #[.pointer (some ⟨rb,0,none⟩),.agg cs.toArray,.string sp] w λe w'=>zQ (ku (λj E=>rdS (k+1) j sp E) j E) W0 rb m w v E Bs e w':=by
 replace hl:j.lies (λb=>b<W0.heap.size) W0 cs:=bP (λ_ _ h=>h) _ _ hl
 have htx:=λW (h:Add W0 W)=>mt gm W Ke (bL hl h)
 have hal:=λW (h:Add W0 W)=>xe W (hT.add h) (bL hl h)
 have hnm:=λt W (h:Add W0 W) (hz:t.size<=65536)=>rk t W Kc
 have hqu:=Y72
 have hin:=λW (h:Add W0 W)=>Am eW W Ke (bL hl h)
 have hdf:=λW (h:Add W0 W)=>lZ gD W Ke (bL hl h)
 have HR:=Y73
 have hA:=hR.add
 have HS:Hid (qR W0 k):=hS
 have HW:Hid (j.within (k+1)):=hw
 have HSP:Hid (max sp.size 65536+65537*(k+1)<=10000000000):=hsp
 obtain ⟨n0,t0,a0,na0,l0,c0,nl0,nc0,m0,rfl⟩:=Y39
 unfold jc at htx hal hin hdf ⊢
 clear hT hl hR hS hw hsp
 go_enter func149,ntmps149
 go_upto_region 1 with fail
 have hI:=qJ w (.cells #[.int .i64 j.kindI,.int .i64 n0,.string t0,.slice a0 l0 c0,.slice na0 nl0 nc0,.map m0] 85 (0,0)) (fdB (.string ⟨#[]⟩) (.slice none 0 0) (.pointer none) (.int .i64 0) (.int .i64 0) (.string ⟨#[]⟩) (.slice none 0 0) (.slice none 0 0) (.map none) (.bool false))
 unfold fdB at hI
 generalize hWB:((w.alloc (.cells #[.int .i64 j.kindI,.int .i64 n0,.string t0,.slice a0 l0 c0,.slice na0 nl0 nc0,.map m0] 85 (0,0))).alloc (.cells #[.string ⟨#[]⟩,.slice none 0 0,.pointer none,.int .i64 0,.int .i64 0,.string ⟨#[]⟩,.slice none 0 0,.slice none 0 0,.map none,.bool false] 150 (0,0)))=wB at *
 clear hWB
 obtain ⟨hwB,hb0,hb1⟩:=hI
 have HWB:Hid (Add w wB):=hwB
 have hAB:=hA.trans hwB
 obtain ⟨q0,q1,q2,q3,q4,q5,qz⟩:=dF hb0
 have HB0:Hid (w.heap.size<wB.heap.size/\w.heap.size+1<wB.heap.size):=⟨(Oh hb0).1,(Oh hb1).1⟩
 have HF6:=bf hb1
 clear hb0 hb1 hwB
 have qn:wB.heap.size≠w.heap.size:=NR HB0.out.1
 cases htn:j.textIn gm with
 |none=>
  rw [htn] at htx
  have HE:Hid (ku (λj E=>rdS (k+1) j sp E) j E=none):=by show _=_;unfold ku;rw [htn]
  cases hav:gK dJ j with
  |none=>
   rw [hav] at hal
   go_region_held (λw'=>w'.cell? ⟨w.heap.size,0,none⟩=some (.int .i64 j.kindI)/\w'.cell? ⟨w.heap.size,1,none⟩=some (.int .i64 n0)/\w'.cell? ⟨w.heap.size,2,none⟩=some (.string t0)/\w'.cell? ⟨w.heap.size,3,none⟩=some (.slice a0 l0 c0)/\w'.cell? ⟨w.heap.size,4,none⟩=some (.slice na0 nl0 nc0)/\w'.cell? ⟨w.heap.size,5,none⟩=some (.map m0)) (first|(with_reducible exact ⟨k0,k1,k2,k3,k4,k5⟩)|(with_reducible exact ⟨z0,z1,z2,z3,z4,z5⟩)|(with_reducible exact ⟨q0,q1,q2,q3,q4,q5⟩)|go_keep)
    (first
    |(go_at_call 122;refine ((htx _ (hAB.trans ?_)).mono (λe w' h=>(⟨h.2,Or.inl h.1⟩:Add _ w'/\(fV e\/(e=.returned (.string ⟨#[]⟩)/\Hid False))))).mono ?_;(repeat (first|exact HB1.out|exact HB2.out|exact af wB|exact ae wB _|(refine Add.trans ?_ (ae _ _))|(refine Add.trans ?_ (af _))));rintro e w1 ⟨ha1,(⟨T,v,rfl⟩|⟨rfl,hno⟩)⟩;exact ⟨rfl,oI HE.out ⟨_,_,rfl⟩ ((hAB.trans Kg).trans ha1)⟩;have HB1:Hid (Add wB w1):=Add.trans Kg ha1;(first|(have HT7:=bf ((ha1.old _ Kk).trans (dD _ _));obtain ⟨f0,f1,f2,f3,f4,f5,f6,f7,f8,f9,fz⟩:=dN HT7.out)|(have fl:=NW _ _ f0;replace HT7:=bf ((ha1.old _ fl).trans HT7.out);replace f0:=ha1.cell f0;replace f1:=ha1.cell f1;replace f2:=ha1.cell f2;replace f3:=ha1.cell f3;replace f4:=ha1.cell f4;replace f5:=ha1.cell f5;replace f6:=ha1.cell f6;replace f7:=ha1.cell f7;replace f8:=ha1.cell f8;replace f9:=ha1.cell f9;replace fz:=λk=>(ha1.frozen fl (o:=k)).trans (fz k);clear fl)|skip);clear ha1;have k0:=HB1.out.cell q0;have k1:=HB1.out.cell q1;have k2:=HB1.out.cell q2;have k3:=HB1.out.cell q3;have k4:=HB1.out.cell q4;have k5:=HB1.out.cell q5;have kn:w1.heap.size≠w.heap.size:=NR (NW _ _ k0))
    |(go_at_call 174;refine ((hal _ (hAB.trans ?_)).mono (λe w' h=>(⟨h.2,Or.inl h.1⟩:Add _ w'/\(fV e\/(e=.returned (.slice none 0 0)/\Hid False))))).mono ?_;(repeat (first|exact HB1.out|exact HB2.out|exact af wB|exact ae wB _|(refine Add.trans ?_ (ae _ _))|(refine Add.trans ?_ (af _))));rintro e w2 ⟨ha2,(⟨T,v,rfl⟩|⟨rfl,hno⟩)⟩;exact ⟨rfl,oI HE.out ⟨_,_,rfl⟩ ((hAB.trans Kg).trans ha2)⟩;have HB2:Hid (Add wB w2):=Add.trans Kg ha2;(first|(have HT7:=bf ((ha2.old _ Kk).trans (dD _ _));obtain ⟨f0,f1,f2,f3,f4,f5,f6,f7,f8,f9,fz⟩:=dN HT7.out)|(have fl:=NW _ _ f0;replace HT7:=bf ((ha2.old _ fl).trans HT7.out);replace f0:=ha2.cell f0;replace f1:=ha2.cell f1;replace f2:=ha2.cell f2;replace f3:=ha2.cell f3;replace f4:=ha2.cell f4;replace f5:=ha2.cell f5;replace f6:=ha2.cell f6;replace f7:=ha2.cell f7;replace f8:=ha2.cell f8;replace f9:=ha2.cell f9;replace fz:=λk=>(ha2.frozen fl (o:=k)).trans (fz k);clear fl)|skip);clear ha2;have z0:=HB2.out.cell q0;have z1:=HB2.out.cell q1;have z2:=HB2.out.cell q2;have z3:=HB2.out.cell q3;have z4:=HB2.out.cell q4;have z5:=HB2.out.cell q5;have zn:w2.heap.size≠w.heap.size:=NR (NW _ _ z0)))
   all_goals exact hno.out.elim
  |some al=>
   rw [hav] at hal
   go_region_held (λw'=>w'.cell? ⟨w.heap.size,0,none⟩=some (.int .i64 j.kindI)/\w'.cell? ⟨w.heap.size,1,none⟩=some (.int .i64 n0)/\w'.cell? ⟨w.heap.size,2,none⟩=some (.string t0)/\w'.cell? ⟨w.heap.size,3,none⟩=some (.slice a0 l0 c0)/\w'.cell? ⟨w.heap.size,4,none⟩=some (.slice na0 nl0 nc0)/\w'.cell? ⟨w.heap.size,5,none⟩=some (.map m0)) (first|(with_reducible exact ⟨k0,k1,k2,k3,k4,k5⟩)|(with_reducible exact ⟨z0,z1,z2,z3,z4,z5⟩)|(with_reducible exact ⟨q0,q1,q2,q3,q4,q5⟩)|go_keep)
    (first
    |(go_at_call 122;refine ((htx _ (hAB.trans ?_)).mono (λe w' h=>(⟨h.2,Or.inl h.1⟩:Add _ w'/\(fV e\/(e=.returned (.string ⟨#[]⟩)/\Hid False))))).mono ?_;(repeat (first|exact HB1.out|exact HB2.out|exact af wB|exact ae wB _|(refine Add.trans ?_ (ae _ _))|(refine Add.trans ?_ (af _))));rintro e w1 ⟨ha1,(⟨T,v,rfl⟩|⟨rfl,hno⟩)⟩;exact ⟨rfl,oI HE.out ⟨_,_,rfl⟩ ((hAB.trans Kg).trans ha1)⟩;have HB1:Hid (Add wB w1):=Add.trans Kg ha1;(first|(have HT7:=bf ((ha1.old _ Kk).trans (dD _ _));obtain ⟨f0,f1,f2,f3,f4,f5,f6,f7,f8,f9,fz⟩:=dN HT7.out)|(have fl:=NW _ _ f0;replace HT7:=bf ((ha1.old _ fl).trans HT7.out);replace f0:=ha1.cell f0;replace f1:=ha1.cell f1;replace f2:=ha1.cell f2;replace f3:=ha1.cell f3;replace f4:=ha1.cell f4;replace f5:=ha1.cell f5;replace f6:=ha1.cell f6;replace f7:=ha1.cell f7;replace f8:=ha1.cell f8;replace f9:=ha1.cell f9;replace fz:=λk=>(ha1.frozen fl (o:=k)).trans (fz k);clear fl)|skip);clear ha1;have k0:=HB1.out.cell q0;have k1:=HB1.out.cell q1;have k2:=HB1.out.cell q2;have k3:=HB1.out.cell q3;have k4:=HB1.out.cell q4;have k5:=HB1.out.cell q5;have kn:w1.heap.size≠w.heap.size:=NR (NW _ _ k0))
    |(go_at_call 174;refine (hal _ (hAB.trans ?_)).mono ?_;(repeat (first|exact HB1.out|exact HB2.out|exact af wB|exact ae wB _|(refine Add.trans ?_ (ae _ _))|(refine Add.trans ?_ (af _))));rintro e w2 ⟨⟨va,rfl,hrow2,hown2,hn122,hnz2⟩,ha2⟩;obtain ⟨aa,ac,rfl⟩:=hrow2.shape;clear hrow2 hown2 hn122 hnz2;have HB2:Hid (Add wB w2):=Add.trans Kg ha2;(first|(have HT7:=bf ((ha2.old _ Kk).trans (dD _ _));obtain ⟨f0,f1,f2,f3,f4,f5,f6,f7,f8,f9,fz⟩:=dN HT7.out)|(have fl:=NW _ _ f0;replace HT7:=bf ((ha2.old _ fl).trans HT7.out);replace f0:=ha2.cell f0;replace f1:=ha2.cell f1;replace f2:=ha2.cell f2;replace f3:=ha2.cell f3;replace f4:=ha2.cell f4;replace f5:=ha2.cell f5;replace f6:=ha2.cell f6;replace f7:=ha2.cell f7;replace f8:=ha2.cell f8;replace f9:=ha2.cell f9;replace fz:=λk=>(ha2.frozen fl (o:=k)).trans (fz k);clear fl)|skip);clear ha2;have z0:=HB2.out.cell q0;have z1:=HB2.out.cell q1;have z2:=HB2.out.cell q2;have z3:=HB2.out.cell q3;have z4:=HB2.out.cell q4;have z5:=HB2.out.cell q5;have zn:w2.heap.size≠w.heap.size:=NR (NW _ _ z0)))
   all_goals exact hno.out.elim
 |some n=>
  rw [htn] at htx
  cases hav:gK dJ j with
  |none=>
   rw [hav] at hal
   have HE:Hid (ku (λj E=>rdS (k+1) j sp E) j E=none):=by show _=_;unfold ku;rw [htn,hav]
   go_region_held (λw'=>w'.cell? ⟨w.heap.size,0,none⟩=some (.int .i64 j.kindI)/\w'.cell? ⟨w.heap.size,1,none⟩=some (.int .i64 n0)/\w'.cell? ⟨w.heap.size,2,none⟩=some (.string t0)/\w'.cell? ⟨w.heap.size,3,none⟩=some (.slice a0 l0 c0)/\w'.cell? ⟨w.heap.size,4,none⟩=some (.slice na0 nl0 nc0)/\w'.cell? ⟨w.heap.size,5,none⟩=some (.map m0)) (first|(with_reducible exact ⟨k0,k1,k2,k3,k4,k5⟩)|(with_reducible exact ⟨z0,z1,z2,z3,z4,z5⟩)|(with_reducible exact ⟨q0,q1,q2,q3,q4,q5⟩)|go_keep)
    (first
    |(go_at_call 122;refine (htx _ (hAB.trans ?_)).mono ?_;(repeat (first|exact HB1.out|exact HB2.out|exact af wB|exact ae wB _|(refine Add.trans ?_ (ae _ _))|(refine Add.trans ?_ (af _))));rintro e w1 ⟨⟨rfl,htz⟩,ha1⟩;have HB1:Hid (Add wB w1):=Add.trans Kg ha1;(first|(have HT7:=bf ((ha1.old _ Kk).trans (dD _ _));obtain ⟨f0,f1,f2,f3,f4,f5,f6,f7,f8,f9,fz⟩:=dN HT7.out)|(have fl:=NW _ _ f0;replace HT7:=bf ((ha1.old _ fl).trans HT7.out);replace f0:=ha1.cell f0;replace f1:=ha1.cell f1;replace f2:=ha1.cell f2;replace f3:=ha1.cell f3;replace f4:=ha1.cell f4;replace f5:=ha1.cell f5;replace f6:=ha1.cell f6;replace f7:=ha1.cell f7;replace f8:=ha1.cell f8;replace f9:=ha1.cell f9;replace fz:=λk=>(ha1.frozen fl (o:=k)).trans (fz k);clear fl)|skip);clear ha1;have k0:=HB1.out.cell q0;have k1:=HB1.out.cell q1;have k2:=HB1.out.cell q2;have k3:=HB1.out.cell q3;have k4:=HB1.out.cell q4;have k5:=HB1.out.cell q5;have kn:w1.heap.size≠w.heap.size:=NR (NW _ _ k0))
    |(go_at_call 174;refine ((hal _ (hAB.trans ?_)).mono (λe w' h=>(⟨h.2,Or.inl h.1⟩:Add _ w'/\(fV e\/(e=.returned (.slice none 0 0)/\Hid False))))).mono ?_;(repeat (first|exact HB1.out|exact HB2.out|exact af wB|exact ae wB _|(refine Add.trans ?_ (ae _ _))|(refine Add.trans ?_ (af _))));rintro e w2 ⟨ha2,(⟨T,v,rfl⟩|⟨rfl,hno⟩)⟩;exact ⟨rfl,oI HE.out ⟨_,_,rfl⟩ ((hAB.trans Kg).trans ha2)⟩;have HB2:Hid (Add wB w2):=Add.trans Kg ha2;(first|(have HT7:=bf ((ha2.old _ Kk).trans (dD _ _));obtain ⟨f0,f1,f2,f3,f4,f5,f6,f7,f8,f9,fz⟩:=dN HT7.out)|(have fl:=NW _ _ f0;replace HT7:=bf ((ha2.old _ fl).trans HT7.out);replace f0:=ha2.cell f0;replace f1:=ha2.cell f1;replace f2:=ha2.cell f2;replace f3:=ha2.cell f3;replace f4:=ha2.cell f4;replace f5:=ha2.cell f5;replace f6:=ha2.cell f6;replace f7:=ha2.cell f7;replace f8:=ha2.cell f8;replace f9:=ha2.cell f9;replace fz:=λk=>(ha2.frozen fl (o:=k)).trans (fz k);clear fl)|skip);clear ha2;have z0:=HB2.out.cell q0;have z1:=HB2.out.cell q1;have z2:=HB2.out.cell q2;have z3:=HB2.out.cell q3;have z4:=HB2.out.cell q4;have z5:=HB2.out.cell q5;have zn:w2.heap.size≠w.heap.size:=NR (NW _ _ z0)))
   all_goals exact hno.out.elim
  |some al=>
   rw [hav] at hal
   have HFE:Hid (ku (λj E=>rdS (k+1) j sp E) j E=if dJ n=true then (match j.named eW with
    |none=>none
    |some t=>match rdS (k+1) t sp E with
     |none=>none
     |some (s,E)=>some (n,s,j.named gD,E))
    else none):=by
    show _=_
    unfold ku
    rw [htn,hav]
    rfl
   go_cut [7] (λs7 wx=>n.size<=65536/\∃f7 aa al ac,s7=.pointer (some ⟨f7,0,none⟩)/\Add wB wx/\wB.heap.size<=f7/\wx.heap[f7]?=some (fdB (.string n) (.slice aa al ac) (.pointer none) (.int .i64 0) (.int .i64 0) (.string ⟨#[]⟩) (.slice none 0 0) (.slice none 0 0) (.map none) (.bool false)))
   case first=>
    go_region_held (λw'=>w'.cell? ⟨w.heap.size,0,none⟩=some (.int .i64 j.kindI)/\w'.cell? ⟨w.heap.size,1,none⟩=some (.int .i64 n0)/\w'.cell? ⟨w.heap.size,2,none⟩=some (.string t0)/\w'.cell? ⟨w.heap.size,3,none⟩=some (.slice a0 l0 c0)/\w'.cell? ⟨w.heap.size,4,none⟩=some (.slice na0 nl0 nc0)/\w'.cell? ⟨w.heap.size,5,none⟩=some (.map m0)) (first|(with_reducible exact ⟨k0,k1,k2,k3,k4,k5⟩)|(with_reducible exact ⟨z0,z1,z2,z3,z4,z5⟩)|(with_reducible exact ⟨q0,q1,q2,q3,q4,q5⟩)|go_keep)
     (first
     |(go_at_call 122;refine (htx _ (hAB.trans ?_)).mono ?_;(repeat (first|exact HB1.out|exact HB2.out|exact af wB|exact ae wB _|(refine Add.trans ?_ (ae _ _))|(refine Add.trans ?_ (af _))));rintro e w1 ⟨⟨rfl,htz⟩,ha1⟩;have HB1:Hid (Add wB w1):=Add.trans Kg ha1;(first|(have HT7:=bf ((ha1.old _ Kk).trans (dD _ _));obtain ⟨f0,f1,f2,f3,f4,f5,f6,f7,f8,f9,fz⟩:=dN HT7.out)|(have fl:=NW _ _ f0;replace HT7:=bf ((ha1.old _ fl).trans HT7.out);replace f0:=ha1.cell f0;replace f1:=ha1.cell f1;replace f2:=ha1.cell f2;replace f3:=ha1.cell f3;replace f4:=ha1.cell f4;replace f5:=ha1.cell f5;replace f6:=ha1.cell f6;replace f7:=ha1.cell f7;replace f8:=ha1.cell f8;replace f9:=ha1.cell f9;replace fz:=λk=>(ha1.frozen fl (o:=k)).trans (fz k);clear fl)|skip);clear ha1;have k0:=HB1.out.cell q0;have k1:=HB1.out.cell q1;have k2:=HB1.out.cell q2;have k3:=HB1.out.cell q3;have k4:=HB1.out.cell q4;have k5:=HB1.out.cell q5;have kn:w1.heap.size≠w.heap.size:=NR (NW _ _ k0))
     |(go_at_call 174;refine (hal _ (hAB.trans ?_)).mono ?_;(repeat (first|exact HB1.out|exact HB2.out|exact af wB|exact ae wB _|(refine Add.trans ?_ (ae _ _))|(refine Add.trans ?_ (af _))));rintro e w2 ⟨⟨va,rfl,hrow2,hown2,hn122,hnz2⟩,ha2⟩;obtain ⟨aa,ac,rfl⟩:=hrow2.shape;clear hrow2 hown2 hn122 hnz2;have HB2:Hid (Add wB w2):=Add.trans Kg ha2;(first|(have HT7:=bf ((ha2.old _ Kk).trans (dD _ _));obtain ⟨f0,f1,f2,f3,f4,f5,f6,f7,f8,f9,fz⟩:=dN HT7.out)|(have fl:=NW _ _ f0;replace HT7:=bf ((ha2.old _ fl).trans HT7.out);replace f0:=ha2.cell f0;replace f1:=ha2.cell f1;replace f2:=ha2.cell f2;replace f3:=ha2.cell f3;replace f4:=ha2.cell f4;replace f5:=ha2.cell f5;replace f6:=ha2.cell f6;replace f7:=ha2.cell f7;replace f8:=ha2.cell f8;replace f9:=ha2.cell f9;replace fz:=λk=>(ha2.frozen fl (o:=k)).trans (fz k);clear fl)|skip);clear ha2;have z0:=HB2.out.cell q0;have z1:=HB2.out.cell q1;have z2:=HB2.out.cell q2;have z3:=HB2.out.cell q3;have z4:=HB2.out.cell q4;have z5:=HB2.out.cell q5;have zn:w2.heap.size≠w.heap.size:=NR (NW _ _ z0)))
    all_goals (go_wp2;go_meet)
    ·exact ⟨htz,_,aa,al.length,ac,rfl,HB2.out.trans (ae _ _),HB2.out.size,dD _ _⟩
    ·exact ⟨htz,w1.heap.size,aa,al.length,ac,rfl,zG HB2.out HB1.out.size _ _ _ _ _ _ _ _ _ _,HB1.out.size,mP HT7.out _ _ _ _ _ _ _ _ _ _⟩
    exact ⟨htz,wB.heap.size,aa,al.length,ac,rfl,zG HB2.out (NL _) _ _ _ _ _ _ _ _ _ _,NL _,mP HT7.out _ _ _ _ _ _ _ _ _ _⟩
   obtain ⟨hnz,f7,aa,al7,ac,rfl,hAx,hf7,hb7⟩:=hcut
   have HNZ:Hid (n.size<=65536):=hnz
   have HAX:Hid (Add wB wc):=hAx
   have HF7:Hid (wB.heap.size<=f7):=hf7
   have HB7:=bf hb7
   obtain ⟨f0,f1,f2,f3,f4,f5,f6,f7c,f8,f9,fz⟩:=dN hb7
   replace q0:=hAx.cell q0
   replace q1:=hAx.cell q1
   replace q2:=hAx.cell q2
   replace q3:=hAx.cell q3
   replace q4:=hAx.cell q4
   replace q5:=hAx.cell q5
   have hAc:=hAB.trans hAx
   have hnm2:=hnm n wc hAc hnz
   have hqu2:=λW (h:Add W0 W)=>hqu n W h Kc
   clear hb7 hf7 hAx hnz hnm hqu htx hal qz qn
   have HQ0:=bf q0
   have HQ1:=bf q1
   have HQ2:=bf q2
   have HQ3:=bf q3
   have HQ4:=bf q4
   have HQ5:=bf q5
   cases hn:dJ n with
   |false=>
    rw [hn] at hnm2
    have HE:Hid (ku (λj E=>rdS (k+1) j sp E) j E=none):=by show _=_;rw [HFE.out,hn,if_neg Ke]
    clear hn hin hdf
    go_wp2_with (first
     |(go_at_call 154;refine hnm2.mono ?_;rintro e w3 ⟨rfl,ha3⟩;replace f0:=ha3.cell f0)
     |(go_at_call 118;refine (hqu2 _ (hAc.trans ha3)).mono ?_;rintro e w4 ⟨⟨q,rfl,hqz⟩,ha4⟩;have hc20:(9223372036854775807<20+q.size)=False:=eq_false (by have:=HNZ.out;omega);clear hqz)
     |(go_at_call 81;refine (dR _ _).mono ?_;rintro e w5 ⟨⟨T,v,rfl⟩,hb5⟩))
    exact ⟨rfl,oI HE.out ⟨_,_,rfl⟩ (((hAc.trans ha3).trans ha4).trans hb5)⟩
   |true=>
    rw [hn] at hnm2
    cases hk:j.named eW with
    |none=>
     rw [hk] at hin
     have HE:Hid (ku (λj E=>rdS (k+1) j sp E) j E=none):=Na
     clear hn hk hdf hqu2
     go_wp2_with (first
      |(go_at_call 154;refine hnm2.mono ?_;rintro e w3 ⟨rfl,ha3⟩;replace q0:=ha3.cell q0;replace q1:=ha3.cell q1;replace q2:=ha3.cell q2;replace q3:=ha3.cell q3;replace q4:=ha3.cell q4;replace q5:=ha3.cell q5)
      |(go_at_call 123;refine (hin _ (hAc.trans ha3)).mono ?_;rintro e w4 ⟨⟨T,v,rfl⟩,ha4⟩))
     exact ⟨rfl,oI HE.out ⟨_,_,rfl⟩ ((hAc.trans ha3).trans ha4)⟩
    |some tv=>
     rw [hk] at hin
     have HFE2:Hid (ku (λj E=>rdS (k+1) j sp E) j E=match rdS (k+1) tv sp E with
      |none=>none
      |some (s,E)=>some (n,s,j.named gD,E)):=Na
     have HTW:Hid (tv.within k):=by
      exact Z195
     clear hn hk hqu2
     cases hrd:rdS (k+1) tv sp E with
     |none=>
      have HE:Hid (ku (λj E=>rdS (k+1) j sp E) j E=none):=by show _=_;rw [HFE2.out,hrd]
      clear hdf
      go_wp2_with (first
       |(go_at_call 154;refine hnm2.mono ?_;rintro e w3 ⟨rfl,ha3⟩;replace q0:=ha3.cell q0;replace q1:=ha3.cell q1;replace q2:=ha3.cell q2;replace q3:=ha3.cell q3;replace q4:=ha3.cell q4;replace q5:=ha3.cell q5)
       |(go_at_call 123;refine (hin _ (hAc.trans ha3)).mono ?_;rintro e w4 ⟨⟨cs,rfl,hcs⟩,ha4⟩;have hA4:=(hAc.trans ha3).trans ha4;have hls:=bN (W0:=W0) (λi h=>h.1) (λi hi=>hA4.old i hi) _ _ hcs;have hsc:=HS.out _ tv cs w4 rb m v E Bs sp hls HTW.out (HR.out.add' (((HWB.out.trans HAX.out).trans ha3).trans ha4)) HSP.out;rw [hrd] at hsc;obtain ⟨n6,t6,a6,na6,l6,c6,nl6,nc6,m6,rfl⟩:=J.lies_cells hls;unfold jc at hsc ⊢;clear hcs hls)
       |(go_at_call 49;refine hsc.mono ?_;rintro e w5 ⟨⟨T,v,rfl⟩,ha5⟩))
      exact ⟨rfl,oI HE.out ⟨_,_,rfl⟩ ha5⟩
     |some p=>
      obtain ⟨s,E2⟩:=p
      have HE:Hid (ku (λj E=>rdS (k+1) j sp E) j E=some (n,s,j.named gD,E2)):=by show _=_;rw [HFE2.out,hrd]
      go_upto_region 5 with (first
       |(go_at_call 154;refine hnm2.mono ?_;rintro e w3 ⟨rfl,ha3⟩;replace q0:=ha3.cell q0;replace q1:=ha3.cell q1;replace q2:=ha3.cell q2;replace q3:=ha3.cell q3;replace q4:=ha3.cell q4;replace q5:=ha3.cell q5)
       |(go_at_call 123;refine (hin _ (hAc.trans ha3)).mono ?_;rintro e w4 ⟨⟨cs,rfl,hcs⟩,ha4⟩;have hA4:=(hAc.trans ha3).trans ha4;have hls:=bN (W0:=W0) (λi h=>h.1) (λi hi=>hA4.old i hi) _ _ hcs;have HA34:Hid (Add wc w4):=ha3.trans ha4;have hsc:=HS.out _ tv cs w4 rb m v E Bs sp hls HTW.out (HR.out.add' ((HWB.out.trans HAX.out).trans HA34.out)) HSP.out;rw [hrd] at hsc;obtain ⟨n6,t6,a6,na6,l6,c6,nl6,nc6,m6,rfl⟩:=J.lies_cells hls;unfold jc at hsc ⊢;clear hcs hls ha3 ha4)
       |(go_at_call 49;refine hsc.mono ?_;rintro e w5 ⟨br,v2,Bs2,he,hR2,hu2,hE2,hB2,hat⟩;have he':e=.returned (.pointer (some ⟨br,0,none⟩)):=he;subst he';have HFL:Hid (f7<w4.heap.size):=(NK (Oh HB7.out).1 HA34.out.size);have hb75:=(wo HR.out ((HWB.out.trans HAX.out).trans HA34.out) hu2 f7 (NM HWB.out.size HF7.out) HFL.out).trans ((HA34.out.old f7 (Oh HB7.out).1).trans HB7.out);have HB75:=bf hb75;obtain ⟨f0,f1,f2,f3,f4,f5,f6,f7c,f8,f9,fz⟩:=dN hb75;have fz2:=fz 2;clear hb75))
      have hw4:=(HWB.out.trans HAX.out).trans HA34.out
      have hFI:FdI W0 w (w5.setCell ⟨f7,2,none⟩ (.pointer (some ⟨br,0,none⟩))) rb m f7 v v2 E E2 Bs Bs2 s br w4.heap.size n:=by
       have hB0:=HB0.out
       have hF7:=HF7.out
       have hsz:=HFL.out
       have h6:=(wo HR.out hw4 hu2 (w.heap.size+1) Kc Kc).trans ((HA34.out.old (w.heap.size+1) (by have:=HAX.out.size;omega)).trans ((HAX.out.old (w.heap.size+1) hB0.2).trans HF6.out))
       have hvv:∀g,blk v2=some g->g<w.heap.size\/w4.heap.size<=g:=λg hg=>by
        rcases hu2.at' with e|⟨g',h1,h2⟩
        ·exact .inl (HR.out.row.blk_lt (e ▸ hg))
        rw [h2] at hg;cases hg;exact .inr h1
       have h0:FdI W0 w w5 rb m f7 v v2 E E2 Bs Bs2 s br w4.heap.size n:=⟨HR.out,hR2,(hw4.ru rb m v).trans hu2,hE2,hB2,hat,by omega,hsz,hvv,f0,⟨_,(dN h6).1⟩⟩
       exact h0.upd f7 (.inl rfl) (Upd.set _ _ _ _) ((eU Ke).trans f0) ⟨_,(Upd.set f7 2 w5 _).cell Kc (dN h6).1⟩
      have HB76:Hid ((w5.setCell ⟨f7,2,none⟩ (.pointer (some ⟨br,0,none⟩))).heap[f7]?=some (fdB (.string n) (.slice aa al7 ac) (.pointer (some ⟨br,0,none⟩)) (.int .i64 0) (.int .i64 0) (.string ⟨#[]⟩) (.slice none 0 0) (.slice none 0 0) (.map none) (.bool false))):=dG HB75.out 2 _
      have HB66:Hid ((w5.setCell ⟨f7,2,none⟩ (.pointer (some ⟨br,0,none⟩))).heap[w.heap.size+1]?=some (fdB (.string ⟨#[]⟩) (.slice none 0 0) (.pointer none) (.int .i64 0) (.int .i64 0) (.string ⟨#[]⟩) (.slice none 0 0) (.slice none 0 0) (.map none) (.bool false))):=by
       have hB0:=HB0.out
       have hF7:=HF7.out
       have hsz:=HFL.out
       show _=_
       rw [(Upd.set f7 2 w5 _).old (w.heap.size+1) (by have:=hu2.size;omega) Kc]
       exact (wo HR.out hw4 hu2 (w.heap.size+1) Kc Kc).trans ((HA34.out.old (w.heap.size+1) (by have:=HAX.out.size;omega)).trans ((HAX.out.old (w.heap.size+1) hB0.2).trans HF6.out))
      have hqb:(w5.setCell ⟨f7,2,none⟩ (.pointer (some ⟨br,0,none⟩))).heap[w.heap.size]?=wc.heap[w.heap.size]?:=by
       have hB0:=HB0.out
       have hF7:=HF7.out
       have hsz:=HFL.out
       have hcs:=HAX.out.size
       rw [(Upd.set f7 2 w5 _).old w.heap.size (by have:=hu2.size;omega) Kc,wo HR.out hw4 hu2 w.heap.size (NL _) Kc,HA34.out.old w.heap.size Kc]
      replace q0:=(NY (a:=⟨w.heap.size,0,none⟩) hqb).trans HQ0.out
      replace q1:=(NY (a:=⟨w.heap.size,1,none⟩) hqb).trans HQ1.out
      replace q2:=(NY (a:=⟨w.heap.size,2,none⟩) hqb).trans HQ2.out
      replace q3:=(NY (a:=⟨w.heap.size,3,none⟩) hqb).trans HQ3.out
      replace q4:=(NY (a:=⟨w.heap.size,4,none⟩) hqb).trans HQ4.out
      replace q5:=(NY (a:=⟨w.heap.size,5,none⟩) hqb).trans HQ5.out
      have HFI:=bf hFI
      have HFW:Hid (w.heap.size+1<f7):=hFI.fw
      have HD:Hid (∀d,j.named gD=some d->True):=λ_ _=>trivial
      clear hFI hqb f0 f1 f2 f3 f4 f5 f6 f7c f8 f9 fz fz2 hsc hin hR2 hu2 hE2 hB2 hat hrd hnm2 hAc hAB hA4
      generalize hW6:w5.setCell ⟨f7,2,none⟩ (.pointer (some ⟨br,0,none⟩))=w6 at *
      have hA6:=HFI.out.rs.add
      clear hW6
      have hn1:w.heap.size+1≠f7:=Nat.ne_of_lt HFW.out
      have hn2:f7≠w.heap.size+1:=λe=>hn1 e.symm
      cases hd:j.named gD with
      |none=>
       rw [hd] at hdf
       go_upto_region 6 with (go_at_call 146;refine (hdf _ hA6).mono ?_;rintro e w7 ⟨rfl,ha7⟩;have HA7:=bf ha7;have hb7:=(ha7.old f7 (Oh HB76.out).1).trans HB76.out;have hb6:=(ha7.old (w.heap.size+1) (Oh HB66.out).1).trans HB66.out;have HB77:=bf hb7;have HB67:=bf hb6;obtain ⟨f0,f1,f2,f3,f4,f5,f6,f7c,f8,f9,fz⟩:=dN hb7;obtain ⟨e0,e1,e2,e3,e4,e5,e6,e7,e8,e9,ez⟩:=dN hb6;clear ha7 hb7 hb6)
       obtain ⟨hb8,hu8⟩:=zD HB77.out (.int .i64 0) (.int .i64 0) (.string ⟨#[]⟩) (.slice none 0 0) (.slice none 0 0) (.map none) (.bool false)
       have hb68:=Y84
       have HB68:=bf hb68
       have HFI8:=Y85
       clear f0 f1 f2 f3 f4 f5 f6 f7c f8 f9 fz e0 e1 e2 e3 e4 e5 e6 e7 e8 e9 ez q0 q1 q2 q3 q4 q5 hu8
       generalize hW8:(((((((w7.setCell ⟨f7,3,none⟩ (.int .i64 0)).setCell ⟨f7,4,none⟩ (.int .i64 0)).setCell ⟨f7,5,none⟩ (.string ⟨#[]⟩)).setCell ⟨f7,6,none⟩ (.slice none 0 0)).setCell ⟨f7,7,none⟩ (.slice none 0 0)).setCell ⟨f7,8,none⟩ (.map none)).setCell ⟨f7,9,none⟩ (.bool false))=w8 at *
       clear hW8
       obtain ⟨f0,f1,f2,f3,f4,f5,f6,f7c,f8,f9,fz⟩:=dN hb8
       obtain ⟨e0,e1,e2,e3,e4,e5,e6,e7,e8,e9,ez⟩:=dN hb68
       have HB8:=bf hb8
       have HF0:=bf f0
       clear hb8 hb68
       go_wp2
       have hb9:=mP HB68.out (.string n) (.slice aa al7 ac) (.pointer (some ⟨br,0,none⟩)) (.int .i64 0) (.int .i64 0) (.string ⟨#[]⟩) (.slice none 0 0) (.slice none 0 0) (.map none) (.bool false)
       have hu9:=uL (W:=w8) (B:=w.heap.size+1) (.string n) (.slice aa al7 ac) (.pointer (some ⟨br,0,none⟩)) (.int .i64 0) (.int .i64 0) (.string ⟨#[]⟩) (.slice none 0 0) (.slice none 0 0) (.map none) (.bool false)
       clear f0 f1 f2 f3 f4 f5 f6 f7c f8 f9 fz e0 e1 e2 e3 e4 e5 e6 e7 e8 e9 ez
       generalize hW9:((((((((((w8.setCell ⟨w.heap.size+1,0,none⟩ (.string n)).setCell ⟨w.heap.size+1,1,none⟩ (.slice aa al7 ac)).setCell ⟨w.heap.size+1,2,none⟩ (.pointer (some ⟨br,0,none⟩))).setCell ⟨w.heap.size+1,3,none⟩ (.int .i64 0)).setCell ⟨w.heap.size+1,4,none⟩ (.int .i64 0)).setCell ⟨w.heap.size+1,5,none⟩ (.string ⟨#[]⟩)).setCell ⟨w.heap.size+1,6,none⟩ (.slice none 0 0)).setCell ⟨w.heap.size+1,7,none⟩ (.slice none 0 0)).setCell ⟨w.heap.size+1,8,none⟩ (.map none)).setCell ⟨w.heap.size+1,9,none⟩ (.bool false))=w9 at *
       obtain ⟨r0,r1,r2,r3,r4,r5,r6,r7,r8,r9,rz⟩:=dN hb9
       have hF9:=Y86
       refine bodyPost_ret (v:=.agg #[.string n,.slice aa al7 ac,.pointer (some ⟨br,0,none⟩),.int .i64 0,.int .i64 0,.string ⟨#[]⟩,.slice none 0 0,.slice none 0 0,.map none,.bool false]) Lv rfl ?_
       unfold zQ
       rw [HE.out,hd]
       exact ⟨aa,al7,ac,br,_,_,_,_,_,_,_,_,_,_,v2,Bs2,rfl,rfl,hF9.rs,hF9.ru,hF9.pe,hF9.pb,cO (Keep.refl _ _) (λi h _=>⟨by have:=hF9.fw;have:=hF9.fT;omega,h.2⟩) (NN _) (NN _) _ _ hF9.at',HNZ.out⟩
      |some d=>
       rw [hd] at hdf
       go_upto_region 6 with (go_at_call 146;refine (hdf _ hA6).mono ?_;rintro e w7 ⟨⟨cs,rfl,hcs⟩,ha7⟩;have hA7:=hA6.trans ha7;have hls:=bN (W0:=W0) (λi h=>h.1) (λi hi=>hA7.old i hi) _ _ hcs;obtain ⟨n8,t8,a8,na8,l8,c8,nl8,nc8,m8,rfl⟩:=J.lies_cells hls;have HLS:=bf (bM hls);unfold jc at HLS ⊢;clear hcs hls hA7;have HA7:=bf ha7;have hb7:=(ha7.old f7 (Oh HB76.out).1).trans HB76.out;have hb6:=(ha7.old (w.heap.size+1) (Oh HB66.out).1).trans HB66.out;have HB77:=bf hb7;have HB67:=bf hb6;obtain ⟨f0,f1,f2,f3,f4,f5,f6,f7c,f8,f9,fz⟩:=dN hb7;obtain ⟨e0,e1,e2,e3,e4,e5,e6,e7,e8,e9,ez⟩:=dN hb6;clear ha7 hb7 hb6)
       obtain ⟨hb8,hu8⟩:=zD HB77.out (.int .i64 d.kindI) (.int .i64 n8) (.string t8) (.slice a8 l8 c8) (.slice na8 nl8 nc8) (.map m8) (.bool true)
       have hb68:=Y84
       have HB68:=bf hb68
       have HFI8:=Y85
       clear f0 f1 f2 f3 f4 f5 f6 f7c f8 f9 fz e0 e1 e2 e3 e4 e5 e6 e7 e8 e9 ez q0 q1 q2 q3 q4 q5 hu8
       generalize hW8:(((((((w7.setCell ⟨f7,3,none⟩ (.int .i64 d.kindI)).setCell ⟨f7,4,none⟩ (.int .i64 n8)).setCell ⟨f7,5,none⟩ (.string t8)).setCell ⟨f7,6,none⟩ (.slice a8 l8 c8)).setCell ⟨f7,7,none⟩ (.slice na8 nl8 nc8)).setCell ⟨f7,8,none⟩ (.map m8)).setCell ⟨f7,9,none⟩ (.bool true))=w8 at *
       clear hW8
       obtain ⟨f0,f1,f2,f3,f4,f5,f6,f7c,f8,f9,fz⟩:=dN hb8
       obtain ⟨e0,e1,e2,e3,e4,e5,e6,e7,e8,e9,ez⟩:=dN hb68
       have HB8:=bf hb8
       have HF0:=bf f0
       clear hb8 hb68
       go_wp2
       have hb9:=mP HB68.out (.string n) (.slice aa al7 ac) (.pointer (some ⟨br,0,none⟩)) (.int .i64 d.kindI) (.int .i64 n8) (.string t8) (.slice a8 l8 c8) (.slice na8 nl8 nc8) (.map m8) (.bool true)
       have hu9:=uL (W:=w8) (B:=w.heap.size+1) (.string n) (.slice aa al7 ac) (.pointer (some ⟨br,0,none⟩)) (.int .i64 d.kindI) (.int .i64 n8) (.string t8) (.slice a8 l8 c8) (.slice na8 nl8 nc8) (.map m8) (.bool true)
       clear f0 f1 f2 f3 f4 f5 f6 f7c f8 f9 fz e0 e1 e2 e3 e4 e5 e6 e7 e8 e9 ez
       generalize hW9:((((((((((w8.setCell ⟨w.heap.size+1,0,none⟩ (.string n)).setCell ⟨w.heap.size+1,1,none⟩ (.slice aa al7 ac)).setCell ⟨w.heap.size+1,2,none⟩ (.pointer (some ⟨br,0,none⟩))).setCell ⟨w.heap.size+1,3,none⟩ (.int .i64 d.kindI)).setCell ⟨w.heap.size+1,4,none⟩ (.int .i64 n8)).setCell ⟨w.heap.size+1,5,none⟩ (.string t8)).setCell ⟨w.heap.size+1,6,none⟩ (.slice a8 l8 c8)).setCell ⟨w.heap.size+1,7,none⟩ (.slice na8 nl8 nc8)).setCell ⟨w.heap.size+1,8,none⟩ (.map m8)).setCell ⟨w.heap.size+1,9,none⟩ (.bool true))=w9 at *
       obtain ⟨r0,r1,r2,r3,r4,r5,r6,r7,r8,r9,rz⟩:=dN hb9
       have hF9:=Y86
       refine bodyPost_ret (v:=.agg #[.string n,.slice aa al7 ac,.pointer (some ⟨br,0,none⟩),.int .i64 d.kindI,.int .i64 n8,.string t8,.slice a8 l8 c8,.slice na8 nl8 nc8,.map m8,.bool true]) Lv rfl ?_
       unfold zQ
       rw [HE.out,hd]
       exact ⟨aa,al7,ac,br,_,_,_,_,_,_,_,_,_,_,v2,Bs2,rfl,HLS.out,hF9.rs,hF9.ru,hF9.pe,hF9.pb,cO (Keep.refl _ _) (λi h _=>⟨by have:=hF9.fw;have:=hF9.fT;omega,h.2⟩) (NN _) (NN _) _ _ hF9.at',HNZ.out⟩
end
end Go.Proofs.YtmphmjkinmkidaaGreatDoor
