import Derived.Test.YtjmlghgnbclmfaaGreatDoorS39
set_option linter.defProp false
open Go.Proofs.Tryz
set_option maxRecDepth 8000
set_option maxHeartbeats 4000000
namespace Go.Proofs.YtjmlghgnbclmfaaGreatDoor
variable{p:Prop}
section
open Go Go.RowKit Go.Extern.Stop Go.Stop Go.Extern
def Z83(h:p:=by
 go_end0
 exact ⟨HU3.out.trans (ha4.upd tb),.inr ⟨rfl,s,b,Bs',HRD.out,HR.out.small,ha4.cell HC3.out,cO (Keep.of_old (Old.add ha4)) (λi hi _=>hi) (NN _) (NN _) s b HAT3.out⟩⟩):p:=h
theorem Rs.new{W0 w:World}(ha:Add W0 w):Rs W0 (w.heap.size+1) w.heap.size ((w.alloc (.map #[] 0)).alloc (.cells #[.slice none 0 0,.map (some w.heap.size)] 122 (0,0))) (.slice none 0 0) [] []:=by
 have s1:=dE w (.map #[] 0)
 have hm:kS (w.alloc (.map #[] 0)) w.heap.size []:=⟨.map [],World.ownsMap_made _ _ _ _,⟨_,rfl⟩,λ_=>rfl,λi h=>by simp at h⟩
 have a1:=ha.trans (ae w (.map #[] 0))
 have hz:=ha.size
 generalize w.alloc (.map #[] 0)=G at *
 have b2:=dD G (.cells #[.slice none 0 0,.map (some w.heap.size)] 122 (0,0))
 have a2:=ae G (.cells #[.slice none 0 0,.map (some w.heap.size)] 122 (0,0))
 have hm2:=hm.carry (a2.old w.heap.size Kc)
 rw [s1] at b2
 generalize G.alloc (.cells #[.slice none 0 0,.map (some w.heap.size)] 122 (0,0))=H at *
 exact ⟨a1.trans a2,by omega,by omega,λg h=>Lm,by omega,by unfold World.cell?;rw [b2];rfl,by unfold World.cell?;rw [b2];rfl,by unfold World.frozen?;rw [b2];simp,Row.nil _ _,hm2,rfl,by simp,λi n k b h=>by simp at h⟩
theorem upd_set{w w':World}{tb:Nat}(h:Upd tb w w')(o:Nat)(v:Value):Upd tb w (w'.setCell ⟨tb,o,none⟩ v):=h.trans (Upd.set tb o w' v)
theorem Ru.keepU{rb m:Nat}{w w1 w':World}{v:Value}(h:Ru rb m w1 (.slice none 0 0) w' v)(ha:Add w w1)(h1:w.heap.size<=rb)(h2:w.heap.size<=m):Add w w':=by
 have hz:=ha.size
 exact ⟨h.os.trans ha.os,h.output.trans ha.output,NM hz h.size,λi hi=>(h.old i Kc Kc Kc Ml).trans (ha.old i hi)⟩
def S1Post(j:J)(W0 w:World)(tb:Nat)(e:Ending)(w':World):Prop:=
 Upd tb w w'/\((fV e/\∀s E,rdS 33 j ByteArray.empty []=some (s,E)->¬ nF s)\/(e=.returned (.tuple #[])/\∃s b Bs,rdS 33 j ByteArray.empty []=some (s,dM s)/\(dM s).length<=16/\w'.cell? ⟨tb,0,none⟩=some (ptr b)/\s.at (λi=>w.heap.size<=i) W0 w' (dM s) Bs b))
theorem DT{ok:Nat->Prop}{j:J}{cs:List Value}{W0 w:World}{vb tb:Nat}(hl:j.lies ok W0 cs)(hw:j.within 32)(hc:j.cost<=65536)(hT:STbl W0)(ha:Add W0 w)(hvb:w.heap[vb]?=some (.cells cs.toArray 85 (0,0)))(htb:w.heap[tb]?=some (.cells #[.pointer none] 53 (0,0)))(hbt:W0.heap.size<=tb):
  Calls prog 48 #[.pointer (some ⟨vb,0,none⟩),.pointer (some ⟨tb,0,none⟩)] w λe w'=>S1Post j W0 w tb e w':=by
 have hmm:=@run_makeMap prog
 have hal:=(ae w (.map #[] 0)).trans (ae _ (.cells #[.slice none 0 0,.map (some w.heap.size)] 122 (0,0)))
 have hst:=ur j cs hl
 have hlw:=bL hl ha
 cases hrd:rdS 33 j ByteArray.empty [] with
 |none=>
  have hsc:=rX (hT.add ha) 32 ok j cs _ _ _ _ _ _ ByteArray.empty hlw hw (Rs.new (Add.refl w)) Ke
  rw [hrd] at hsc
  obtain ⟨n,t,a,na,l,c,nl,nc,m,rfl⟩:=J.lies_cells hl
  unfold jc at hvb hsc
  obtain ⟨q0,q1,q2,q3,q4,q5,qz⟩:=dF ((hal.old vb (Oh hvb).1).trans hvb)
  have HRD:=bf hrd
  clear hl hw hT ha hvb htb hst hlw qz hal hrd hc
  go_enter func48,ntmps48
  go_wp2_with (go_at_call 49;refine hsc.mono ?_;rintro e w2 ⟨⟨T,v,rfl⟩,ha2⟩)
  exact ⟨rfl,ha2.upd tb,.inl ⟨⟨_,_,rfl⟩,λs E h=>by rw [HRD.out] at h;cases h⟩⟩
 |some p=>
  obtain ⟨s,E⟩:=p
  obtain ⟨hG,rfl⟩:=EY hrd hw hst hc
  have hsc:=rX hT 32 ok j cs _ _ _ _ _ _ ByteArray.empty hl hw (Rs.new ha) Ke
  rw [hrd] at hsc
  obtain ⟨n,t,a,na,l,c,nl,nc,m,rfl⟩:=J.lies_cells hl
  unfold jc at hvb hsc
  obtain ⟨q0,q1,q2,q3,q4,q5,qz⟩:=dF ((hal.old vb (Oh hvb).1).trans hvb)
  have HRD:=bf hrd
  have HG:=bf hG
  have HAL:=bf hal
  have HTB:=bf htb
  have HBT:=bf hbt
  have HT:=bf hT
  have HLT:=bf (Oh htb).1
  have hz1:=hal.size
  have HZ:Hid (w.heap.size<((w.alloc (.map #[] 0)).alloc (.cells #[.slice none 0 0,.map (some w.heap.size)] 122 (0,0))).heap.size):=by show _<_;rw [dE,dE];omega
  clear hl hw hT ha hvb htb hst hlw qz hal hrd hc hG hz1
  go_enter func48,ntmps48
  go_upto_region 1 with fail
  generalize (w.alloc (.map #[] 0)).alloc (.cells #[.slice none 0 0,.map (some w.heap.size)] 122 (0,0))=w1 at *
  go_upto_region 2 with (go_at_call 49;refine hsc.mono ?_;rintro e w2 ⟨b,v',Bs',rfl,hR,hRu,-,-,hat⟩;have hA2:=hRu.keepU HAL.out Kc (NL _);have htb2:=(hA2.old tb HLT.out).trans HTB.out;have t0:w2.cell? ⟨tb,0,none⟩=some (.pointer none):=(by unfold World.cell?;rw [htb2];rfl);have tz:w2.frozen? ⟨tb,0,none⟩=false:=(by unfold World.frozen?;rw [htb2];simp);have HR:=bf hR;have HRU:=bf hRu;have HAT:=bf hat;have HA2:=bf hA2;unfold ptr;clear hR hRu hat hA2 htb2)
  have hlt:=HLT.out
  have hz:=HZ.out
  have hkp:Keep (λi=>w1.heap.size<=i/\blk v'≠some i) w2 (w2.setCell ⟨tb,0,none⟩ (.pointer (some ⟨b,0,none⟩))):=⟨by simp,λi hi _=>NZ _ _ _ _ (by show i≠tb;have:=hi.1;omega)⟩
  have hat3:=cO (ok':=λi=>w.heap.size<=i) hkp (λi hi _=>by have:=hi.1;show w.heap.size<=i;omega) (NN _) (NN _) s b HAT.out
  have hu3:Upd tb w (w2.setCell ⟨tb,0,none⟩ (.pointer (some ⟨b,0,none⟩))):=upd_set (HA2.out.upd tb) 0 _
  have ha3:Add W0 (w2.setCell ⟨tb,0,none⟩ (.pointer (some ⟨b,0,none⟩))):=(Upd.set tb 0 w2 _).add HR.out.add HBT.out
  have c3:(w2.setCell ⟨tb,0,none⟩ (.pointer (some ⟨b,0,none⟩))).cell? ⟨tb,0,none⟩=some (ptr b):=Oe _ _ _ t0
  have hrb:(w2.setCell ⟨tb,0,none⟩ (.pointer (some ⟨b,0,none⟩))).cell? ⟨w.heap.size+1,0,none⟩=some v':=(NY (a:=⟨w.heap.size+1,0,none⟩) (NZ _ _ _ _ (by show w.heap.size+1≠tb;omega))).trans HR.out.c0
  have hrow:Row (w2.setCell ⟨tb,0,none⟩ (.pointer (some ⟨b,0,none⟩))) 1 v' (dM s).length (Bs'.map ptr):=HR.out.row.carry (λi hi=>NZ _ _ _ _ (by
   show i≠tb
   rcases HRU.out.at' with e|⟨g,hg,e⟩
   ·rw [e] at hi;cases hi
   rw [e] at hi;cases hi;omega))
  generalize w2.setCell ⟨tb,0,none⟩ (.pointer (some ⟨b,0,none⟩))=w3 at *
  obtain ⟨pl,hLay,hpl0,hpn,hplr⟩:=Ho ha3 HG.out.shp HG.out.closed HG.out.nodup HG.out.cnt hat3
  have hpw:=(HT.out.add ha3).tbl.pow
  obtain ⟨va,vc,rfl⟩:=hrow.shape
  have hpl:∀b'∈Bs',∃p,p<(fH s).length/\pl p=b':=λb' hb'=>by
   obtain ⟨i,hi,e⟩:=List.getElem_of_mem hb'
   have hil:i<(dM s).length:=by rw [<-HR.out.len];exact hi
   exact hplr ((dM s)[i]).1 ((dM s)[i]).2 b' ⟨i,NP hil,by rw [NP hi,e]⟩
  have hcd:=λD hD=>Ab hLay (JD hLay HG.out.names HG.out.brs 32 (NL _)) hpw D (w.heap.size+1) va vc _ hrb HR.out.small Bs' HR.out.len hrow hpl hD
  have HHT:=bf (JI hat3 HG.out.nodup HR.out.len)
  have HAT3:=bf hat3
  have HU3:=bf hu3
  have HC3:=bf c3
  by_cases hnd:nF s
  ·have hcf:=hcd false (λ_=>HHT.out hnd)
   clear hcd t0 tz hat3 hu3 ha3 c3 hkp hrow hLay hpl0 hpn hplr hpw hpl q0 q1 q2 q3 q4 q5 hrb hsc hnd
   go_wp2_with (go_at_call 50;refine hcf.mono ?_;rintro e w4 ⟨⟨⟨T,v,rfl⟩,hds⟩|rfl,ha4⟩;cases hds)
   exact Z83
  have hcf:=hcd true (λh=>by cases h)
  have HND:=bf hnd
  clear hcd t0 tz hat3 hu3 ha3 c3 hkp hrow hLay hpl0 hpn hplr hpw hpl q0 q1 q2 q3 q4 q5 hrb hsc hnd
  go_wp2_with (go_at_call 50;refine hcf.mono ?_;rintro e w4 ⟨⟨⟨T,v,rfl⟩,hds⟩|rfl,ha4⟩;exact ⟨rfl,HU3.out.trans (ha4.upd tb),.inl ⟨⟨_,_,rfl⟩,λs' E' h=>by rw [HRD.out] at h;cases h;exact HND.out⟩⟩)
  exact Z83
def Z39(h:p:=by
 refine leaves_cons (f:=69) (args:=#[.pointer (some ⟨w.heap.size,0,none⟩)]) Kh MP ?_
 refine (yA ⟨w.heap.size,0,none⟩ _).mono ?_
 rintro e u' w'' ⟨rfl,rfl,rfl⟩
 have hcell:=Y38
 have hd:∃w1',postO w1'/\w1.setCell ⟨w.heap.size,0,none⟩ .nilIface=w1'.setCell ⟨w.heap.size,0,none⟩ .nilIface:=⟨w1,hp,rfl⟩
 simpa [Leaves,settle,results,results45,go_sem,hcell] using hd):p:=h
theorem tY(a b:Value)(w:World)(postS postO:World->Prop)
  (hread:Calls prog 48 #[a,b] (w.alloc (.cells #[.nilIface] 57)) λe w'=>((fV e/\postS w')\/(e=.returned (.tuple #[])/\postO w'))/\w.heap.size<w'.heap.size/\w'.cell? ⟨w.heap.size,0,none⟩=some .nilIface/\w'.frozen? ⟨w.heap.size,0,none⟩=false):
  Calls prog 45 #[.func (.func 48) #[] #[a,b]] w λe w'=>(∃T v w1,e=.returned (.iface T v)/\postS w1/\w'=(w1.alloc (.cells #[.iface T v] 153)).setCell ⟨w.heap.size,0,none⟩ (.iface T v))\/(e=.returned .nilIface/\∃w1,postO w1/\w'=w1.setCell ⟨w.heap.size,0,none⟩ .nilIface):=by
 have hmf:=Y37
 have HR:=bf hread
 clear hread
 go_enter_defers func45,ntmps45
 go_wp2_with (go_at_call 48;refine HR.out.mono ?_;rintro e w1 ⟨⟨⟨T,v,rfl⟩,hp⟩|⟨rfl,hp⟩,hs1,hc1,hz1⟩)
 ·unfold gF
  refine leaves_cons (f:=69) (args:=#[.pointer (some ⟨w.heap.size,0,none⟩)]) Kh MP ?_
  refine (rQ ⟨w.heap.size,0,none⟩ .nilIface T v [] w1 hc1 hz1 hs1).mono ?_
  rintro e u' w'' ⟨rfl,rfl,rfl⟩
  have hcell:((w1.alloc (.cells #[.iface T v] 153)).setCell ⟨w.heap.size,0,none⟩ (.iface T v)).cell? ⟨w.heap.size,0,none⟩=some (.iface T v):=
   Oe _ _ _ ((World.cell?_alloc_lt w1 _ ⟨w.heap.size,0,none⟩ hs1).trans hc1)
  have hd:(∃T' v' w1',Ending.returned (Value.iface T v)=.returned (.iface T' v')/\postS w1'/\(w1.alloc (.cells #[.iface T v] 153)).setCell ⟨w.heap.size,0,none⟩ (.iface T v)=(w1'.alloc (.cells #[.iface T' v'] 153)).setCell ⟨w.heap.size,0,none⟩ (.iface T' v')):=⟨T,v,w1,rfl,hp,rfl⟩
  exact Z173
 exact Z39
def SRdPost(j:J)(w:World)(e:Ending)(w':World):Prop:=
 Add w w'/\((∃T v,e=.returned (.tuple #[.pointer none,.iface T v])/\∀s E,rdS 33 j ByteArray.empty []=some (s,E)->¬ nF s)\/(∃s b Bs,e=.returned (.tuple #[ptr b,.nilIface])/\rdS 33 j ByteArray.empty []=some (s,dM s)/\(dM s).length<=16/\s.at (λi=>w.heap.size<=i) w w' (dM s) Bs b))
theorem FR{ok:Nat->Prop}{j:J}{cs:List Value}{w:World}(hl:j.lies ok w cs)(hw:j.within 32)(hc:j.cost<=65536)(hT:STbl w):
  Calls prog 31 #[.agg cs.toArray] w λe w'=>SRdPost j w e w':=by
 have hmf:=Y37
 have hA2:=(ae w (.cells cs.toArray 85 (0,0))).trans (ae _ (.cells #[.pointer none] 53 (0,0)))
 have hb1:=((ae _ (.cells #[.pointer none] 53 (0,0))).old w.heap.size Km).trans (dD w (.cells cs.toArray 85 (0,0)))
 have hb2:=dD (w.alloc (.cells cs.toArray 85 (0,0))) (.cells #[.pointer none] 53 (0,0))
 have hs2:((w.alloc (.cells cs.toArray 85 (0,0))).alloc (.cells #[.pointer none] 53 (0,0))).heap.size=w.heap.size+2:=by rw [dE,dE]
 rw [dE] at hb2
 obtain ⟨n,t,a,na,l,c,nl,nc,m,rfl⟩:=J.lies_cells hl
 have HL:=bf hl
 unfold jc at hA2 hb1 hb2 hs2 ⊢
 clear hl
 go_enter func31,ntmps31
 go_upto_region 2 with fail
 generalize (w.alloc (.cells #[.int .i64 j.kindI,.int .i64 n,.string t,.slice a l c,.slice na nl nc,.map m] 85 (0,0))).alloc (.cells #[.pointer none] 53 (0,0))=w2 at *
 have hA3:=ae w2 (.cells #[.nilIface] 57)
 have hs3:=dE w2 (.cells #[.nilIface] 57)
 have hbe:=dD w2 (.cells #[.nilIface] 57)
 have hce:(w2.alloc (.cells #[.nilIface] 57)).cell? ⟨w2.heap.size,0,none⟩=some .nilIface:=by unfold World.cell?;rw [hbe];rfl
 have hfe:(w2.alloc (.cells #[.nilIface] 57)).frozen? ⟨w2.heap.size,0,none⟩=false:=by unfold World.frozen?;rw [hbe];simp
 have h1:=DT HL.out hw hc hT (hA2.trans hA3) ((hA3.old _ (Oh hb1).1).trans hb1) ((hA3.old _ (Oh hb2).1).trans hb2) Kc
 have hca:=tY (.pointer (some ⟨w.heap.size,0,none⟩)) (.pointer (some ⟨w.heap.size+1,0,none⟩)) w2 (λw'=>Upd (w.heap.size+1) (w2.alloc (.cells #[.nilIface] 57)) w'/\∀s E,rdS 33 j ByteArray.empty []=some (s,E)->¬ nF s) (λw'=>Upd (w.heap.size+1) (w2.alloc (.cells #[.nilIface] 57)) w'/\∃s b Bs,rdS 33 j ByteArray.empty []=some (s,dM s)/\(dM s).length<=16/\w'.cell? ⟨w.heap.size+1,0,none⟩=some (ptr b)/\s.at (λi=>(w2.alloc (.cells #[.nilIface] 57)).heap.size<=i) w w' (dM s) Bs b) (h1.mono λe w' h=>by
  obtain ⟨hu,h⟩:=h
  refine ⟨?_,by have:=hu.size;omega,hu.cell Kc hce,(Oa (a:=⟨w2.heap.size,0,none⟩) (hu.old w2.heap.size Kc Kc)).trans hfe⟩
  rcases h with ⟨h1,h2⟩|⟨h1,h2⟩
  ·exact .inl ⟨h1,hu,h2⟩
  exact .inr ⟨h1,hu,h2⟩)
 generalize w2.alloc (.cells #[.nilIface] 57)=w3 at hA3 hs3 hca
 have HA:=bf (hA2.trans hA3)
 have HS:Hid (w2.heap.size=w.heap.size+2/\w3.heap.size=w2.heap.size+1):=⟨hs2,hs3⟩
 have hadd:∀(w1:World) (_:Upd (w.heap.size+1) w3 w1) (o:Option Obj) (x:Value),Add w ((match o with|some o=>w1.alloc o|none=>w1).setCell ⟨w2.heap.size,0,none⟩ x):=by
  intro w1 hu o x
  have ha:=hu.add HA.out (Nat.le_succ _)
  have hz:=HS.out
  cases o with
  |none=>exact ⟨ha.os,ha.output,by simpa using ha.size,λi hi=>(NZ _ _ _ _ (by show i≠w2.heap.size;omega)).trans (ha.old i hi)⟩
  |some o=>
   have ha2:=ha.trans (ae w1 o)
   exact ⟨ha2.os,ha2.output,by simpa using ha2.size,λi hi=>(NZ _ _ _ _ (by show i≠w2.heap.size;omega)).trans (ha2.old i hi)⟩
 have HADD:=bf hadd
 clear hadd h1 hce hfe hbe hA2 hA3 hb1 hb2 hs2 hs3 hw hc hT
 go_wp2_with (go_at_call 45;refine hca.mono ?_;rintro e w5 (⟨T,v,w1,rfl,⟨hu,hnd⟩,hw5⟩|⟨rfl,w1,⟨hu,s,b,Bs,hrd,h16,hcb,hat⟩,hw5⟩);(have HU:=bf hu;have HND:=bf hnd;have HW5:=bf hw5;clear hu hnd hw5);rotate_left;(have c5:w5.cell? ⟨w.heap.size+1,0,none⟩=some (.pointer (some ⟨b,0,none⟩)):=(by rw [hw5];exact (NY (a:=⟨w.heap.size+1,0,none⟩) (NZ _ _ _ _ (by show w.heap.size+1≠w2.heap.size;have:=HS.out;omega))).trans hcb);have HW5:=bf hw5;clear hw5);rotate_right)
 ·go_ret2
  exact ⟨by rw [HW5.out];exact HADD.out _ HU.out (some _) _,.inl ⟨T,v,rfl,HND.out⟩⟩
 go_ret2
 have hw5:=HW5.out
 refine ⟨by rw [hw5];exact HADD.out _ hu none _,.inr ⟨s,b,Bs,rfl,hrd,h16,?_⟩⟩
 have hz:=HS.out
 rw [hw5]
 exact cO (ok':=λi=>w.heap.size<=i) ⟨by simp,λi hi _=>NZ _ _ _ _ (by show i≠w2.heap.size;have:w3.heap.size<=i:=hi;omega)⟩ (λi hi _=>by show w.heap.size<=i;have:w3.heap.size<=i:=hi;omega) (NN _) (NN _) s b hat
theorem tJ(a b c:Value)(w:World)(postS:TypeId->Value->World->Prop)(postO:World->Prop)
  (hread:Calls prog 58 #[a,b,c] (w.alloc (.cells #[.nilIface] 57)) λe w'=>((∃T v,e=.panicked (gF (.iface T v))/\postS T v w')\/(e=.returned (.tuple #[])/\postO w'))/\w.heap.size<w'.heap.size/\w'.cell? ⟨w.heap.size,0,none⟩=some .nilIface/\w'.frozen? ⟨w.heap.size,0,none⟩=false):
  Calls prog 45 #[.func (.func 58) #[] #[a,b,c]] w λe w'=>(∃T v w1,e=.returned (.iface T v)/\postS T v w1/\w'=(w1.alloc (.cells #[.iface T v] 153)).setCell ⟨w.heap.size,0,none⟩ (.iface T v))\/(e=.returned .nilIface/\∃w1,postO w1/\w'=w1.setCell ⟨w.heap.size,0,none⟩ .nilIface):=by
 have hmf:=Y37
 have HR:=bf hread
 clear hread
 go_enter_defers func45,ntmps45
 go_wp2_with (go_at_call 58;refine HR.out.mono ?_;rintro e w1 ⟨⟨T,v,rfl,hp⟩|⟨rfl,hp⟩,hs1,hc1,hz1⟩)
 ·unfold gF
  refine leaves_cons (f:=69) (args:=#[.pointer (some ⟨w.heap.size,0,none⟩)]) Kh MP ?_
  refine (rQ ⟨w.heap.size,0,none⟩ .nilIface T v [] w1 hc1 hz1 hs1).mono ?_
  rintro e u' w'' ⟨rfl,rfl,rfl⟩
  have hcell:((w1.alloc (.cells #[.iface T v] 153)).setCell ⟨w.heap.size,0,none⟩ (.iface T v)).cell? ⟨w.heap.size,0,none⟩=some (.iface T v):=
   Oe _ _ _ ((World.cell?_alloc_lt w1 _ ⟨w.heap.size,0,none⟩ hs1).trans hc1)
  have hd:(∃T' v' w1',Ending.returned (Value.iface T v)=.returned (.iface T' v')/\postS T' v' w1'/\(w1.alloc (.cells #[.iface T v] 153)).setCell ⟨w.heap.size,0,none⟩ (.iface T v)=(w1'.alloc (.cells #[.iface T' v'] 153)).setCell ⟨w.heap.size,0,none⟩ (.iface T' v')):=⟨T,v,w1,rfl,hp,rfl⟩
  have h:=Or.inl (b:=(Ending.returned (Value.iface T v)=.returned .nilIface/\∃w1',postO w1'/\(w1.alloc (.cells #[.iface T v] 153)).setCell ⟨w.heap.size,0,none⟩ (.iface T v)=w1'.setCell ⟨w.heap.size,0,none⟩ .nilIface)) hd
  simpa [Leaves,settle,results,results45,go_sem,hcell] using h
 exact Z39
def zf(s r d m x:Value):Prop:=x=s\/x=r\/x=d\/x=m
theorem WErr.iface{w:World}{s r d m x:Value}(h:WErr w s r d m)(hx:zf s r d m x):∃v,x=.iface 200 v:=by
 rcases hx with rfl|rfl|rfl|rfl
 ·exact ⟨_,h.short.choose_spec.1⟩
 ·exact ⟨_,h.range.choose_spec.1⟩
 ·exact ⟨_,h.deep.choose_spec.1⟩
 exact ⟨_,h.many.choose_spec.1⟩
def Dc1(t:ByteArray)(tab:List TNode)(pl:Nat->Nat)(W:World)(id rb db:Nat)(s r d m:Value)(w:World)(e:Ending)(w':World):Prop:=
 (∃x,zf s r d m x/\e=.panicked (gF x)/\Upd rb w w'/\jt t tab 64 id 0 0=none) \/
 (e=.returned (.tuple #[])/\∃x j l v0 v1 v2 v3 v4 v5 w2,jt t tab 64 id 0 0=some (x,j,l)/\Upd rb w w2/\x.liesO (λb=>w.heap.size<=b) w2 [v0,v1,v2,v3,v4,v5]/\Dcd W w2 tab pl rb t s r d m j l/\w'=dV w2 db v0 v1 v2 v3 v4 v5)
theorem Bp{W w:World}{tab:List TNode}{pl:Nat->Nat}{rb rv tx db:Nat}{t:ByteArray}{s r d m:Value}{id:Nat}(hid:id<tab.length)(hk:∀n∈tab,1<=n.kind/\n.kind<=14)(hD:Dcd W w tab pl rb t s r d m 0 0)
  (h1:w.cell? ⟨rv,0,none⟩=some (.pointer (some ⟨rb,0,none⟩))) (h2:w.cell? ⟨tx,0,none⟩=some (.pointer (some ⟨pl id,0,none⟩))) (h3:w.heap[db]?=some (.cells #[.int .i64 0,.int .i64 0,.int .u64 0,.string ⟨#[]⟩,.slice none 0 0,.slice none 0 0] 42 (0,0))) (hdb:db≠rb):
  Calls prog 58 #[.pointer (some ⟨rv,0,none⟩),.pointer (some ⟨tx,0,none⟩),.pointer (some ⟨db,0,none⟩)] w λe w'=>Dc1 t tab pl W id rb db s r d m w e w':=by
 have hc:Calls prog 59 #[.pointer (some ⟨rb,0,none⟩),.pointer (some ⟨pl id,0,none⟩),.int .i64 1] w λe w'=>DPost (jt t tab 64 id 0 0) W tab pl rb t s r d m w e w':=Ff t tab pl hk hD.sz 64 Ke id W w rb s r d m 0 0 hid hD
 have HE:=bf hD.werr
 have H3:=bf h3
 have HDB:=bf hdb
 have HLT:=bf (Oh h3).1
 clear hD hid hk h3 hdb
 go_enter func58,ntmps58
 go_wp2_with (go_at_call 59;refine hc.mono ?_;rintro e w2 ⟨hu2,⟨⟨x,hx,rfl⟩,hO⟩|⟨x,j5,l5,cs5,hO,rfl,hx,hD5⟩⟩;exact ⟨rfl,.inl ⟨x,hx,rfl,hu2,hO⟩⟩;obtain ⟨dk,dn,db',dt,dna,dka,dnl,dnc,dkl,dkc,rfl⟩:=aO hx;unfold dcs;have hb2:=(hu2.old db HLT.out HDB.out).trans H3.out;obtain ⟨q0,q1,q2,q3,q4,q5,qz⟩:=dF hb2;have y0:=qz 0;have y1:=qz 1;have y2:=qz 2;have y3:=qz 3;have y4:=qz 4;have y5:=qz 5;have HU:=bf hu2;have HO:=bf hO;have HX:=bf hx;have HD5:=bf hD5;clear hu2 hO hx hD5 hb2 qz)
 go_end0
 exact .inr ⟨rfl,x,j5,l5,_,_,_,_,_,_,w2,HO.out,HU.out,HX.out,HD5.out,rfl⟩
end
section
open Go.RowKit Go.Extern.Stop Go.Stop Go.Extern
def Z211(h:p:=by
 go_wp2
 go_ret
 exact ⟨by rw [HF.out];rfl,rfl⟩):p:=h
def gQ(S:Nat->ByteArray):Nat->Nat
 |0=>0
 |k+1=>gQ S k+(S k).size
theorem uf(S:Nat->ByteArray){a b:Nat}(h:a<=b):gQ S a<=gQ S b:=by
 induction h with
 |refl=>exact NL _
 |step _ ih=>exact NM ih (Nat.le_add_right _ _)
def ky(n:Nat)(S:Nat->ByteArray):Bool:=decide (n+gQ S n<=262144)
theorem EJ{k:IntKind}{a b:Int}(h:a=b):Ending.returned (.int k a)=.returned (.int k b):=by rw [h]
theorem Bh(c n:Int)(w:World)(hc : -9223372036854775808<=c)(hc2:c<=9223372036854775807)(h0:0<n)(h1:n<=1000000000):
  Calls prog 26 #[.int .i64 c,.int .i64 n] w λe w'=>e=.returned (.int .i64 ((if c<0 then -(c+1) else c) % n))/\w'=w:=by
 by_cases h:c<0
 ·go_enter func26,ntmps26
  go_wp2
  go_ret
  exact ⟨EJ (by rw [<-Int.neg_tmod,Int.tmod_eq_emod_of_nonneg Kc]),rfl⟩
 have h':0<=c:=Kc
 go_enter func26,ntmps26
 go_wp2
 go_ret
 exact ⟨EJ rfl,rfl⟩
theorem Gn(sb so n cap:Nat)(S:Nat->ByteArray)(w:World)(hn:n<=140737488355328)(hS:∀i:Nat,i<n->w.cell? ⟨sb,so+i*5+4,none⟩=some (.string (S i)))(hl:∀i,i<n->(S i).size<=140737488355328):
  Calls prog 14 #[.slice (some ⟨sb,so,none⟩) n cap] w λe w'=>e=.returned (.bool (ky n S))/\w'=w:=by
 by_cases hbig:262144<n
 ·have hf:ky n S=false:=by unfold ky;simp;omega
  rw [hf]
  go_enter func14,ntmps14
  go_wp2
  go_ret
  exact ⟨rfl,rfl⟩
 go_enter func14,ntmps14
 go_wp2
 go_loop [3,4] (λt i=>∃k:Nat,k<=n/\n+gQ S k<=262144/\i=.int .i64 k/\t=.int .i64 ((n+gQ S k:Nat):Int)) (λ_ i=>n-(intOf i).toNat)
 case atStart=>exact ⟨0,by omega,by simp [gQ];omega,rfl,by simp [gQ]⟩
 obtain ⟨k,hk,hle,rfl,rfl⟩:=hrel
 by_cases hlt:k<n
 ·have hcell:=hS k hlt
  have hlk:=hl k hlt
  have hm:=uf S (show k+1<=n by omega)
  have hs:gQ S (k+1)=gQ S k+(S k).size:=rfl
  by_cases hov:n+gQ S (k+1)<=262144
  ·have hov':¬ (262144<(n:Int)+(gQ S k:Int)+((S k).size:Int)):=Kc
   have HS:Hid (gQ S (k+1)=gQ S k+(S k).size):=hs
   clear hs hm hS hl
   go_wp2
   go_round
   case rel=>exact ⟨k+1,by omega,hov,by go_num,by rw [HS.out];go_num⟩
   simp [intOf];omega
  have hf:ky n S=false:=by unfold ky;simp;omega
  have hov':262144<(n:Int)+(gQ S k:Int)+((S k).size:Int):=Kc
  have HF:Hid (ky n S=false):=hf
  clear hs hm hS hl hf
  exact Z211
 obtain rfl:k=n:=Kc
 have HF:Hid (ky k S=true):=by show ky k S=true;unfold ky;simp;omega
 clear hS hl
 exact Z211
end
section
open Go Go.RowKit Go.Extern.Stop Go.Stop Go.Extern
def Y204(h:p:=by exact (h.base k2 ⟨rfl,rfl⟩ k1)):p:=h
def Z158(h:p:=by
 rcases g.at' with e'|⟨g',hg,e'⟩
 ·exact h (e' ▸ e)
 rw [e'] at e;cases e;omega):p:=h
def lN(kb:Nat)(vd va vb:Value)(b:Nat):Prop:=b≠kb/\blk vd≠some b/\blk va≠some b/\blk vb≠some b
structure KwV(W0 w:World)(kb:Nat)(vd va vb:Value)(text:ByteArray)(ds:List Dat)(cells:List Value)(na:Nat)(ac:List Value)(bs:List ByteArray)(left:Int):Prop where
 add:Add W0 w
 ge:W0.heap.size<=kb
 c0:w.cell? ⟨kb,0,none⟩=some (.pointer none)
 c1:w.cell? ⟨kb,1,none⟩=some (.string text)
 c2:w.cell? ⟨kb,2,none⟩=some vd
 c3:w.cell? ⟨kb,3,none⟩=some va
 c13:w.cell? ⟨kb,13,none⟩=some vb
 c14:w.cell? ⟨kb,14,none⟩=some (.int .i64 left)
 there:∀o,o<15->(w.cell? ⟨kb,o,none⟩).isSome=true/\w.frozen? ⟨kb,o,none⟩=false
 rd:Row w 6 vd ds.length cells
 lie:ai (lN kb vd va vb) w ds cells
 ra:Row w 7 va na ac
 rb:Row w 1 vb bs.length (bs.map Value.string)
 own:∀b,blk vd=some b\/blk va=some b\/blk vb=some b->W0.heap.size<=b/\b≠kb
 da:∀b,blk vd=some b->blk va≠some b
 db:∀b,blk vd=some b->blk vb≠some b
 ab:∀b,blk va=some b->blk vb≠some b
 sz:left+aY ds<=262144
 lo : -2000000<=left
 tz:text.size<=262144
 bz:∀t∈bs,t.size<=262144
section
variable {W0 w w':World} {kb:Nat} {vd va vb:Value} {text:ByteArray} {ds:List Dat} {cells:List Value} {na:Nat} {ac:List Value} {bs:List ByteArray} {left:Int}
theorem KwV.lt(h:KwV W0 w kb vd va vb text ds cells na ac bs left):kb<w.heap.size:=NW _ _ h.c0
theorem KwV.more(h:KwV W0 w kb vd va vb text ds cells na ac bs left)(a:Add w w'):KwV W0 w' kb vd va vb text ds cells na ac bs left:=
 ⟨h.add.trans a,h.ge,a.cell h.c0,a.cell h.c1,a.cell h.c2,a.cell h.c3,a.cell h.c13,a.cell h.c14,λo ho=>⟨by rw [NY (a:=⟨kb,o,none⟩) (a.old kb h.lt)];exact (h.there o ho).1,(Oa (a:=⟨kb,o,none⟩) (a.old kb h.lt)).trans (h.there o ho).2⟩,
  h.rd.carry λi hi=>a.old i (h.rd.blk_lt hi),aq ⟨a.size,λi _ hl=>a.old i hl⟩ _ _ h.lie,h.ra.carry λi hi=>a.old i (h.ra.blk_lt hi),h.rb.carry λi hi=>a.old i (h.rb.blk_lt hi),h.own,h.da,h.db,h.ab,h.sz,h.lo,h.tz,h.bz⟩
theorem CG(w:World)(kb o:Nat)(v:Value):(∀i,i≠kb->(w.setCell ⟨kb,o,none⟩ v).heap[i]?=w.heap[i]?)/\(w.setCell ⟨kb,o,none⟩ v).heap.size=w.heap.size/\(∀k,k≠o->(w.setCell ⟨kb,o,none⟩ v).cell? ⟨kb,k,none⟩=w.cell? ⟨kb,k,none⟩):=
 ⟨λi hi=>NZ _ _ _ _ NG,by simp,λk hk=>eU hk⟩
theorem KwV.base(h:KwV W0 w kb vd va vb text ds cells na ac bs left)(hs:w'.heap.size=w.heap.size)(ho:w'.os=w.os/\w'.output=w.output)(hk:∀i,i≠kb->w'.heap[i]?=w.heap[i]?):Add W0 w'/\Row w' 6 vd ds.length cells/\ai (lN kb vd va vb) w' ds cells/\Row w' 7 va na ac/\Row w' 1 vb bs.length (bs.map Value.string):=by
 have hg:=h.ge
 exact ⟨⟨ho.1.trans h.add.os,ho.2.trans h.add.output,by rw [hs];exact h.add.size,λi hi=>(hk i Kc).trans (h.add.old i hi)⟩,h.rd.carry λi hi=>hk i (h.own i (.inl hi)).2,aq ⟨by rw [hs];exact NL _,λi hi _=>hk i hi.1⟩ _ _ h.lie,h.ra.carry λi hi=>hk i (h.own i (.inr (.inl hi))).2,h.rb.carry λi hi=>hk i (h.own i (.inr (.inr hi))).2⟩
theorem zT{o:Nat}{v:Value}(h:∀o,o<15->(w.cell? ⟨kb,o,none⟩).isSome=true/\w.frozen? ⟨kb,o,none⟩=false):∀k,k<15->((w.setCell ⟨kb,o,none⟩ v).cell? ⟨kb,k,none⟩).isSome=true/\(w.setCell ⟨kb,o,none⟩ v).frozen? ⟨kb,k,none⟩=false:=
 λk hk=>⟨fG (h k hk).1,by rw [Od];exact (h k hk).2⟩
theorem Cn{o:Nat}{v:Value}(h:(w.cell? ⟨kb,o,none⟩).isSome=true):(w.setCell ⟨kb,o,none⟩ v).cell? ⟨kb,o,none⟩=some v:=rH h
theorem KwV.setText(h:KwV W0 w kb vd va vb text ds cells na ac bs left){t:ByteArray}(ht:t.size<=262144):KwV W0 (w.setCell ⟨kb,1,none⟩ (.string t)) kb vd va vb t ds cells na ac bs left:=by
 obtain ⟨k1,k2,k3⟩:=CG w kb 1 (.string t)
 obtain ⟨b1,b2,b3,b4,b5⟩:=Y204
 exact ⟨b1,h.ge,(k3 0 Ke).trans h.c0,Cn (h.there 1 Ke).1,(k3 2 Ke).trans h.c2,(k3 3 Ke).trans h.c3,(k3 13 Ke).trans h.c13,(k3 14 Ke).trans h.c14,zT h.there,b2,b3,b4,b5,h.own,h.da,h.db,h.ab,h.sz,h.lo,ht,h.bz⟩
theorem KwV.setLeft(h:KwV W0 w kb vd va vb text ds cells na ac bs left){l:Int}(hl:l+aY ds<=262144)(h2 : -2000000<=l):KwV W0 (w.setCell ⟨kb,14,none⟩ (.int .i64 l)) kb vd va vb text ds cells na ac bs l:=by
 obtain ⟨k1,k2,k3⟩:=CG w kb 14 (.int .i64 l)
 obtain ⟨b1,b2,b3,b4,b5⟩:=Y204
 exact ⟨b1,h.ge,(k3 0 Ke).trans h.c0,(k3 1 Ke).trans h.c1,(k3 2 Ke).trans h.c2,(k3 3 Ke).trans h.c3,(k3 13 Ke).trans h.c13,Cn (h.there 14 Ke).1,zT h.there,b2,b3,b4,b5,h.own,h.da,h.db,h.ab,hl,h2,h.tz,h.bz⟩
theorem KwV.num(h:KwV W0 w kb vd va vb text ds cells na ac bs left){o:Nat}(h4:4<=o)(h12:o<=12)(v:Value):KwV W0 (w.setCell ⟨kb,o,none⟩ v) kb vd va vb text ds cells na ac bs left:=by
 obtain ⟨k1,k2,k3⟩:=CG w kb o v
 obtain ⟨b1,b2,b3,b4,b5⟩:=Y204
 exact ⟨b1,h.ge,(k3 0 Kc).trans h.c0,(k3 1 Kc).trans h.c1,(k3 2 Kc).trans h.c2,(k3 3 Kc).trans h.c3,(k3 13 Kc).trans h.c13,(k3 14 Kc).trans h.c14,zT h.there,b2,b3,b4,b5,h.own,h.da,h.db,h.ab,h.sz,h.lo,h.tz,h.bz⟩
structure Kgrew(w w':World)(kb o:Nat)(v v':Value):Prop where
 os:w'.os=w.os
 output:w'.output=w.output
 size:w.heap.size<=w'.heap.size
 old:∀i,i<w.heap.size->i≠kb->blk v≠some i->w'.heap[i]?=w.heap[i]?
 c:w'.cell? ⟨kb,o,none⟩=some v'
 ck:∀k,k≠o->w'.cell? ⟨kb,k,none⟩=w.cell? ⟨kb,k,none⟩
 fk:∀k,w'.frozen? ⟨kb,k,none⟩=w.frozen? ⟨kb,k,none⟩
 at':blk v'=blk v\/∃g,w.heap.size<=g/\blk v'=some g
theorem Kgrew.of{w1 w8:World}{o:Nat}{v v':Value}(hkb:kb<w.heap.size)(hne:blk v≠some kb)(ho:(w.cell? ⟨kb,o,none⟩).isSome=true)(a:Add w w1)(g:Grew w1 v w8 v'):Kgrew w (w8.setCell ⟨kb,o,none⟩ v') kb o v v':=by
 have hz:=a.size
 have hb:w8.heap[kb]?=w.heap[kb]?:=(g.old kb Kc hne).trans (a.old kb hkb)
 have hcb:∀k,w8.cell? ⟨kb,k,none⟩=w.cell? ⟨kb,k,none⟩:=λk=>NY (a:=⟨kb,k,none⟩) hb
 obtain ⟨k1,k2,k3⟩:=CG w8 kb o v'
 refine ⟨g.os.trans a.os,g.output.trans a.output,by rw [k2];exact NM hz g.size,λi hi h1 h2=>(k1 i h1).trans ((g.old i Kc h2).trans (a.old i hi)),Cn (by rw [hcb];exact ho),λk hk=>(k3 k hk).trans (hcb k),λk=>by rw [Od];exact Oa (a:=⟨kb,k,none⟩) hb,?_⟩
 rcases g.at' with e|⟨g',hg,e⟩
 ·exact .inl e
 exact .inr ⟨g',by omega,e⟩
theorem Kgrew.new{o:Nat}{v v':Value}(g:Kgrew w w' kb o v v'){b:Nat}(hb:b<w.heap.size)(h:blk v≠some b):blk v'≠some b:=λe=>by
 exact Z158
theorem Kgrew.ge{B o:Nat}{v v':Value}(g:Kgrew w w' kb o v v')(hB:B<=w.heap.size)(hkb:kb<w.heap.size)(h:∀b,blk v=some b->B<=b/\b≠kb):∀b,blk v'=some b->B<=b/\b≠kb:=λb e=>by
 rcases g.at' with e'|⟨g',hg,e'⟩
 ·exact h b (e' ▸ e)
 rw [e'] at e;cases e;exact ⟨by omega,by omega⟩
theorem Ir{ok ok':Nat->Prop}(hm:∀b,ok b->b<w.heap.size->ok' b)(hk:Keep ok w w'):(∀(d:Dat) (cs:List Value),d.liesO ok w cs->d.liesO ok' w' cs)/\∀(l:List Dat) (cs:List Value),ai ok w l cs->ai ok' w' l cs:=
 ⟨λ_ _ h=>aP (λ_ hb _=>hb.2) _ _ (aN (ok:=λb=>ok b/\ok' b) ⟨hk.1,λi hi hl=>hk.2 i hi.1 hl⟩ _ _ (aP (λb hb hl=>⟨hb,hm b hb hl⟩) _ _ h)),λ_ _ h=>aw (λ_ hb _=>hb.2) _ _ (aq (ok:=λb=>ok b/\ok' b) ⟨hk.1,λi hi hl=>hk.2 i hi.1 hl⟩ _ _ (aw (λb hb hl=>⟨hb,hm b hb hl⟩) _ _ h))⟩
theorem CR(ds:List Dat)(d:Dat):aY (ds++[d])=aY ds+d.sz:=by
 induction ds with
 |nil=>simp [aY]
 |cons x r ih=>simp [aY,ih];omega
theorem Kgrew.cs{o:Nat}{v v':Value}(g:Kgrew w w' kb o v v')(h:∀o,o<15->(w.cell? ⟨kb,o,none⟩).isSome=true/\w.frozen? ⟨kb,o,none⟩=false):∀o,o<15->(w'.cell? ⟨kb,o,none⟩).isSome=true/\w'.frozen? ⟨kb,o,none⟩=false:=λk hk=>by
 refine ⟨?_,(g.fk k).trans (h k hk).2⟩
 by_cases e:k=o
 ·subst e;rw [g.c];rfl
 rw [g.ck k e];exact (h k hk).1
theorem Kgrew.add{o:Nat}{v v':Value}(g:Kgrew w w' kb o v v')(ha:Add W0 w)(hg:W0.heap.size<=kb)(hv:∀b,blk v=some b->W0.heap.size<=b):Add W0 w':=by
 have hz:=ha.size
 exact ⟨g.os.trans ha.os,g.output.trans ha.output,NM hz g.size,λi hi=>(g.old i Kc Kc (λe=>by have:=hv i e;omega)).trans (ha.old i hi)⟩
theorem KwV.data(h:KwV W0 w kb vd va vb text ds cells na ac bs left){vd':Value}(g:Kgrew w w' kb 2 vd vd'){d:Dat}{c6:List Value}(hr:Row w' 6 vd' (ds.length+1) (cells++c6))(h6:c6.length=6)(hd:d.liesO (lN kb vd va vb) w c6)(hz:left+aY ds+d.sz<=262144):KwV W0 w' kb vd' va vb text (ds++[d]) (cells++c6) na ac bs left:=by
 obtain ⟨m1,m2⟩:=Ir (ok:=lN kb vd va vb) (ok':=lN kb vd' va vb) (w:=w) (w':=w') (λb hb hl=>⟨hb.1,g.new hl hb.2.1,hb.2.2⟩) ⟨g.size,λi hi hl=>g.old i hl hi.1 hi.2.1⟩
 have hge:=g.ge h.add.size h.lt (λb hb=>h.own b (.inl hb))
 have hsn:=CR ds d
 exact ⟨g.add h.add h.ge (λb hb=>(h.own b (.inl hb)).1),h.ge,(g.ck 0 Ke).trans h.c0,(g.ck 1 Ke).trans h.c1,g.c,(g.ck 3 Ke).trans h.c3,(g.ck 13 Ke).trans h.c13,(g.ck 14 Ke).trans h.c14,g.cs h.there,by rw [List.length_append];exact hr,ax h6 (m1 _ _ hd) _ _ (m2 _ _ h.lie),
  h.ra.carry λi hi=>g.old i (h.ra.blk_lt hi) (h.own i (.inr (.inl hi))).2 (λe=>h.da i e hi),h.rb.carry λi hi=>g.old i (h.rb.blk_lt hi) (h.own i (.inr (.inr hi))).2 (λe=>h.db i e hi),λb hb=>hb.elim (hge b) λhb=>h.own b (.inr hb),λb hb e=>g.new (h.ra.blk_lt e) (λe'=>h.da b e' e) hb,λb hb e=>g.new (h.rb.blk_lt e) (λe'=>h.db b e' e) hb,h.ab,by omega,h.lo,h.tz,h.bz⟩
theorem KwV.acts(h:KwV W0 w kb vd va vb text ds cells na ac bs left){va':Value}(g:Kgrew w w' kb 3 va va'){c7:List Value}(hr:Row w' 7 va' (na+1) (ac++c7)):KwV W0 w' kb vd va' vb text ds cells (na+1) (ac++c7) bs left:=by
 obtain ⟨m1,m2⟩:=Ir (ok:=lN kb vd va vb) (ok':=lN kb vd va' vb) (w:=w) (w':=w') (λb hb hl=>⟨hb.1,hb.2.1,g.new hl hb.2.2.1,hb.2.2.2⟩) ⟨g.size,λi hi hl=>g.old i hl hi.1 hi.2.2.1⟩
 have hge:=g.ge h.add.size h.lt (λb hb=>h.own b (.inr (.inl hb)))
 exact ⟨g.add h.add h.ge (λb hb=>(h.own b (.inr (.inl hb))).1),h.ge,(g.ck 0 Ke).trans h.c0,(g.ck 1 Ke).trans h.c1,(g.ck 2 Ke).trans h.c2,g.c,(g.ck 13 Ke).trans h.c13,(g.ck 14 Ke).trans h.c14,g.cs h.there,h.rd.carry λi hi=>g.old i (h.rd.blk_lt hi) (h.own i (.inl hi)).2 (h.da i hi),m2 _ _ h.lie,
  hr,h.rb.carry λi hi=>g.old i (h.rb.blk_lt hi) (h.own i (.inr (.inr hi))).2 (λe=>h.ab i e hi),λb hb=>hb.elim (λhb=>h.own b (.inl hb)) λhb=>hb.elim (hge b) λhb=>h.own b (.inr (.inr hb)),λb hb=>g.new (h.rd.blk_lt hb) (h.da b hb),h.db,λb hb e=>g.new (h.rb.blk_lt e) (λe'=>h.ab b e' e) hb,h.sz,h.lo,h.tz,h.bz⟩
theorem KwV.bytes(h:KwV W0 w kb vd va vb text ds cells na ac bs left){vb':Value}(g:Kgrew w w' kb 13 vb vb'){t:ByteArray}(hr:Row w' 1 vb' (bs.length+1) (bs.map Value.string++[.string t]))(ht:t.size<=262144):KwV W0 w' kb vd va vb' text ds cells na ac (bs++[t]) left:=by
 obtain ⟨m1,m2⟩:=Ir (ok:=lN kb vd va vb) (ok':=lN kb vd va vb') (w:=w) (w':=w') (λb hb hl=>⟨hb.1,hb.2.1,hb.2.2.1,g.new hl hb.2.2.2⟩) ⟨g.size,λi hi hl=>g.old i hl hi.1 hi.2.2.2⟩
 have hge:=g.ge h.add.size h.lt (λb hb=>h.own b (.inr (.inr hb)))
 exact ⟨g.add h.add h.ge (λb hb=>(h.own b (.inr (.inr hb))).1),h.ge,(g.ck 0 Ke).trans h.c0,(g.ck 1 Ke).trans h.c1,(g.ck 2 Ke).trans h.c2,(g.ck 3 Ke).trans h.c3,g.c,(g.ck 14 Ke).trans h.c14,g.cs h.there,h.rd.carry λi hi=>g.old i (h.rd.blk_lt hi) (h.own i (.inl hi)).2 (h.db i hi),m2 _ _ h.lie,
  h.ra.carry λi hi=>g.old i (h.ra.blk_lt hi) (h.own i (.inr (.inl hi))).2 (h.ab i hi),by rw [List.length_append,List.map_append];exact hr,λb hb=>hb.elim (λhb=>h.own b (.inl hb)) λhb=>hb.elim (λhb=>h.own b (.inr (.inl hb))) (hge b),h.da,λb hb=>g.new (h.rd.blk_lt hb) (h.db b hb),λb hb=>g.new (h.ra.blk_lt hb) (h.ab b hb),h.sz,h.lo,h.tz,λx hx=>by
   rcases List.mem_append.1 hx with hx|hx
   ·exact h.bz x hx
   rw [List.mem_singleton.1 hx];exact ht⟩
end
def Kw(W0 w:World)(kb:Nat)(text:ByteArray)(ds:List Dat)(na:Nat)(bs:List ByteArray)(left:Int):Prop:=∃vd va vb cells ac,KwV W0 w kb vd va vb text ds cells na ac bs left
end
end Go.Proofs.YtjmlghgnbclmfaaGreatDoor
