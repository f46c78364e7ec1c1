import Derived.Test.YtjmlghgnbclmfaaGreatDoorS25
set_option linter.defProp false
open Go.Proofs.Tryz
set_option maxRecDepth 8000
set_option maxHeartbeats 4000000
open Go Go.RowKit Go.Extern.Stop Go.Stop Go.Extern
namespace Go.Proofs.YtjmlghgnbclmfaaGreatDoor
variable{p:Prop}
section
def Y96(h:p:=by exact (show wr.cell? ⟨fbk,fo+j*10,none⟩=some (.string fn) from hfc 0 Kc)):p:=h
def Y97(h:p:=by exact (show wr.cell? ⟨fbk,fo+j*10+1,none⟩=some (.slice aa al ac) from hfc 1 Kc)):p:=h
def Y98(h:p:=by exact (show wr.cell? ⟨fbk,fo+j*10+2,none⟩=some (.pointer (some ⟨pl it,0,none⟩)) from hfc 2 Kc)):p:=h
def Y99(h:p:=by exact (show wr.cell? ⟨fbk,fo+j*10+3,none⟩=some (.int .i64 k') from hfc 3 Kc)):p:=h
def Y100(h:p:=by exact (show wr.cell? ⟨fbk,fo+j*10+4,none⟩=some (.int .i64 i') from hfc 4 Kc)):p:=h
def Y101(h:p:=by exact (show wr.cell? ⟨fbk,fo+j*10+5,none⟩=some (.string tt) from hfc 5 Kc)):p:=h
def Y102(h:p:=by exact (show wr.cell? ⟨fbk,fo+j*10+6,none⟩=some (.slice a' l' c') from hfc 6 Kc)):p:=h
def Y103(h:p:=by exact (show wr.cell? ⟨fbk,fo+j*10+7,none⟩=some (.slice na' nl' nc') from hfc 7 Kc)):p:=h
def Y104(h:p:=by exact (show wr.cell? ⟨fbk,fo+j*10+8,none⟩=some (.map m') from hfc 8 Kc)):p:=h
def Z218(h:p:=by
 exfalso;rw [hf0] at hltF;simp at hltF):p:=h
theorem Old.add{w w':World}(h:Add w w'):Old w w':=⟨h.size,λi hi=>h.old i hi⟩
theorem Gh(g:Nat->Dat->Nat->Option Nat)(id:Nat)(ids:List Nat)(d:Dat)(ks:List Dat)(l:Nat):jM g (id::ids) (d::ks) l=match g id d l with
  |some l'=>jM g ids ks l'
  |none=>none:=by rw [jM];cases g id d l <;> rfl
theorem kids_9(tab:List TNode)(pl:Nat->Nat)(depth:Int)(g:Nat->Dat->Nat->Option Nat)(hg:qM tab pl depth g)(hgl:∀id d l l',g id d l=some l'->l'<=1000)(id:Nat)(hid:id<tab.length)
  (W w:World) (k i:Int) (b:Nat) (t:ByteArray) (ns:List ByteArray) (ks:List Dat) (na ka:Option Addr) (nc kc fb l:Nat) (hF:Fitting W w tab pl fb l) (hl:Dat.lieAll W ka 0 ks) (hsh:aV ks) (hk:tab[id].kind=9) (hfl:ks.length=tab[id].fields.length):
  Calls prog 62 #[.pointer (some ⟨fb,0,none⟩),.pointer (some ⟨pl id,0,none⟩),.agg #[.int .i64 k,.int .i64 i,.int .u64 b,.string t,.slice na ns.length nc,.slice ka ks.length kc],.int .i64 depth] w λe w'=>FitPost (jM g (tab[id].fields.map Prod.snd) ks l) fb w e w':=by
 have hT:=hF.lay.lies id hid
 have h0:=Y92
 have hlt:=Y93
 obtain ⟨fa,fc,h3W,hfs⟩:=hT.fields
 have h3:=(hF.old.cell hT.lt).trans h3W
 have hfid:=hF.lay.fields id hid
 have hszs:=(hF.lay.sizes id hid).2.2.2
 rw [hk] at h0
 have hpn:pl id≠w.heap.size:=Nat.ne_of_lt hlt
 generalize tab[id].fields=F at *
 obtain ⟨N,hN⟩:∃N,F.length=N:=⟨_,rfl⟩
 rw [hN] at h3 h3W hfl hszs
 have HN:Hid (F.length=N):=hN
 have HK:Hid (ks.length=N):=hfl
 have HF:=Y91
 have H12:Hid (N<=12):=hszs
 have hcB:=HF.out.cell
 have HFB:Hid (fb<w.heap.size):=NW _ _ hcB
 generalize hR:jM g (F.map Prod.snd) ks l=R
 have HR:Hid (jM g (F.map Prod.snd) ks l=R):=hR
 rw [hfl]
 clear hT hF hk hN hR hszs hfl
 go_enter func62,ntmps62
 go_wp2
 have halB:=ae w (.cells #[Value.int .i64 k,Value.int .i64 i,Value.int .u64 b,Value.string t,Value.slice na ns.length nc,Value.slice ka N kc] 42 (0,0))
 have hbB:=dD w (.cells #[Value.int .i64 k,Value.int .i64 i,Value.int .u64 b,Value.string t,Value.slice na ns.length nc,Value.slice ka N kc] 42 (0,0))
 have HAB:=bf halB
 have HBB:=bf hbB
 clear halB hbB
 go_loopw [22] (λcnt wr=>∃(j lj:Nat),j<=N/\cnt=.int .i64 j/\lj<=1000/\jM g ((F.map Prod.snd).drop j) (ks.drop j) lj=R/\Upd fb (w.alloc (.cells #[Value.int .i64 k,Value.int .i64 i,Value.int .u64 b,Value.string t,Value.slice na ns.length nc,Value.slice ka N kc] 42 (0,0))) wr/\wr.cell? ⟨fb,0,none⟩=some (.int .i64 (lj:Int))/\wr.frozen? ⟨fb,0,none⟩=false) (λcnt _=>N-(intOf cnt).toNat)
 case atStart=>exact ⟨0,l,NQ _,rfl,HF.out.bound,HR.out,Upd.refl _ _,HAB.out.cell hcB,(HAB.out.frozen HFB.out).trans HF.out.frozen⟩
 obtain ⟨j,lj,hj,rfl,hlj,hrec,hu,hcj,hzj⟩:=hrel
 have hwr:Upd fb w wr:=(HAB.out.upd fb).trans hu
 have howr:Old W wr:=HF.out.old.upd HF.out.new hwr
 have HU:=bf hu
 have HWR:=bf hwr
 by_cases hltj:j<N
 ·have hltF:j<F.length:=by rw [HN.out];exact hltj
  have hltK:j<ks.length:=by rw [HK.out];exact hltj
  have ji:=Y51
  have j0:=Y52
  have j1:=Y53
  have hj12:j<=12:=MI
  rcases hfs with hf0|⟨fbk,fo,rfl,hfbk,hfat⟩
  ·exact Z218
  obtain ⟨aa,al,ac,k',i',tt,a',na',l',c',nl',nc',m',d',hcells,_⟩:=hfat j hltF
  obtain ⟨kb,ko,cs,hka,hkb,h6,hcc,hd⟩:=Dat.lieAll_get ks 0 hl j hltK
  obtain ⟨nna,nnc,kka,kkc,hcs,-⟩:=Dat.lies_cells hd
  subst hka
  have g0:=(howr.cell hkb).trans (hcc 0 Kc)
  have g1:=(howr.cell hkb).trans (hcc 1 Kc)
  have g2:=(howr.cell hkb).trans (hcc 2 Kc)
  have g3:=(howr.cell hkb).trans (hcc 3 Kc)
  have g4:=(howr.cell hkb).trans (hcc 4 Kc)
  have g5:=(howr.cell hkb).trans (hcc 5 Kc)
  simp [hcs] at g0 g1 g2 g3 g4 g5
  have hfc:∀f,f<10->wr.cell? ⟨fbk,fo+j*10+f,none⟩=(fcs F[j].1 aa al ac (pl F[j].2) k' i' tt a' na' l' c' nl' nc' m' d'.isSome)[f]?:=λf hf=>(howr.cell hfbk).trans (hcells f hf)
  have hfit:F[j].2<tab.length:=hfid F[j] (NS hltF)
  rw [List.drop_eq_getElem_cons (by rw [List.length_map];exact hltF),List.drop_eq_getElem_cons hltK,Gh,List.getElem_map] at hrec
  generalize hFj:F[j].2=it at hfc hfit hrec
  generalize F[j].1=fn at hfc
  unfold fcs at hfc
  have c0:=Y96
  have c1:=Y97
  have c2:=Y98
  have c3:=Y99
  have c4:=Y100
  have c5:=Y101
  have c6:=Y102
  have c7:=Y103
  have c8:=Y104
  have c9:wr.cell? ⟨fbk,fo+j*10+9,none⟩=some (.bool d'.isSome):=hfc 9 Kc
  generalize d'.isSome=db at c9
  have hbx:=(hu.old w.heap.size (Oh HBB.out).1 (by have:=HFB.out;omega)).trans HBB.out
  obtain ⟨q0,q1,q2,q3,q4,q5,qz⟩:=dF hbx
  have hsj:=aX hsh (NS hltK)
  have hfbl:fb<wr.heap.size:=NW _ _ hcj
  clear hfc hcc hcells
  go_upto_region 6 with fail
  have hal3:=ae wr (.cells #[.string fn,.slice aa al ac,.pointer (some ⟨pl it,0,none⟩),.int .i64 k',.int .i64 i',.string tt,.slice a' l' c',.slice na' nl' nc',.map m',.bool db] 150 (0,0))
  have x2:=(dN (dD wr (.cells #[.string fn,.slice aa al ac,.pointer (some ⟨pl it,0,none⟩),.int .i64 k',.int .i64 i',.string tt,.slice a' l' c',.slice na' nl' nc',.map m',.bool db] 150 (0,0)))).2.2.1
  replace q5:=hal3.cell q5
  replace g0:=hal3.cell g0
  replace g1:=hal3.cell g1
  replace g2:=hal3.cell g2
  replace g3:=hal3.cell g3
  replace g4:=hal3.cell g4
  replace g5:=hal3.cell g5
  have HA3:=bf hal3
  have hcj3:=hal3.cell hcj
  have hzj3:=(hal3.frozen hfbl).trans hzj
  clear c0 c1 c2 c3 c4 c5 c6 c7 c8 c9 hal3 q0 q1 q2 q3 q4 qz hcj hzj h3 h3W hfat
  generalize hW3:wr.alloc (.cells #[.string fn,.slice aa al ac,.pointer (some ⟨pl it,0,none⟩),.int .i64 k',.int .i64 i',.string tt,.slice a' l' c',.slice na' nl' nc',.map m',.bool db] 150 (0,0))=w3 at *
  clear hW3
  have hFit:Fitting W w3.drew tab pl fb lj:=⟨HF.out.lay,HF.out.tabs,HF.out.many,(howr.trans (Old.add HA3.out)).trans (Old.drew _),HF.out.new,hcj3,hzj3,hlj⟩
  have hkid:=hg it ks[j] W _ cs fb lj hfit hFit hd hsj
  simp only [hcs] at hkid
  have hbd:=hgl it ks[j] lj
  have HNE:Hid (wr.heap.size≠fb/\w.heap.size≠fb/\kb≠fb):=⟨NR hfbl,NR HFB.out,by have:=HF.out.new;omega⟩
  have HW3:Hid (Upd fb w w3.drew):=(HWR.out.trans (HA3.out.upd fb)).trans ((af w3).upd fb)
  clear hd h6 hsj hcs hFit hl hsh hcj3 hzj3 hFj hbx howr hu hwr hg hgl
  generalize hgk:g it ks[j] lj=G at hkid hrec hbd
  have HREC:=bf hrec
  clear hrec hgk
  have HJ:Hid (j<N):=hltj
  generalize hkj:ks[j]=kj at *
  clear hkj
  cases G with
  |some l1=>
   go_region_held (λw'=>w'.cell? ⟨wr.heap.size,2,none⟩=some (.pointer (some ⟨pl it,0,none⟩))/\w'.cell? ⟨w.heap.size,5,none⟩=some (.slice (some ⟨kb,ko,none⟩) N kc)/\w'.cell? ⟨kb,ko+j*6,none⟩=some (.int .i64 kj.kind)/\w'.cell? ⟨kb,ko+j*6+1,none⟩=some (.int .i64 kj.int)/\w'.cell? ⟨kb,ko+j*6+2,none⟩=some (.int .u64 (kj.bits:Int))/\w'.cell? ⟨kb,ko+j*6+3,none⟩=some (.string kj.text)/\w'.cell? ⟨kb,ko+j*6+4,none⟩=some (.slice nna kj.names.length nnc)/\w'.cell? ⟨kb,ko+j*6+5,none⟩=some (.slice kka kj.kids.length kkc)) (first|(with_reducible exact ⟨z2,z5,y0,y1,y2,y3,y4,y5⟩)|(with_reducible exact ⟨x2,q5,g0,g1,g2,g3,g4,g5⟩)|go_keep)
    (first|(go_at_call 38;refine hkid.mono ?_;rintro e w4 ⟨rfl,hu4,hc4,hz4⟩;have z2:=hu4.cell HNE.out.1 x2;have z5:=hu4.cell HNE.out.2.1 q5;have y0:=hu4.cell HNE.out.2.2 g0;have y1:=hu4.cell HNE.out.2.2 g1;have y2:=hu4.cell HNE.out.2.2 g2;have y3:=hu4.cell HNE.out.2.2 g3;have y4:=hu4.cell HNE.out.2.2 g4;have y5:=hu4.cell HNE.out.2.2 g5))
   all_goals go_wp2
   all_goals exact ⟨⟨j+1,l1,HJ.out,rfl,hbd l1 rfl,HREC.out,((HU.out.trans (HA3.out.upd fb)).trans ((af w3).upd fb)).trans hu4,hc4 l1 rfl,hz4⟩,by have:=HJ.out;show N-((j:Int)+1).toNat<N-(j:Int).toNat;omega⟩
  |none=>
   have HRN:Hid (R=none):=HREC.out.symm
   go_region_held (λw'=>w'.cell? ⟨wr.heap.size,2,none⟩=some (.pointer (some ⟨pl it,0,none⟩))/\w'.cell? ⟨w.heap.size,5,none⟩=some (.slice (some ⟨kb,ko,none⟩) N kc)/\w'.cell? ⟨kb,ko+j*6,none⟩=some (.int .i64 kj.kind)/\w'.cell? ⟨kb,ko+j*6+1,none⟩=some (.int .i64 kj.int)/\w'.cell? ⟨kb,ko+j*6+2,none⟩=some (.int .u64 (kj.bits:Int))/\w'.cell? ⟨kb,ko+j*6+3,none⟩=some (.string kj.text)/\w'.cell? ⟨kb,ko+j*6+4,none⟩=some (.slice nna kj.names.length nnc)/\w'.cell? ⟨kb,ko+j*6+5,none⟩=some (.slice kka kj.kids.length kkc)) (first|(with_reducible exact ⟨z2,z5,y0,y1,y2,y3,y4,y5⟩)|(with_reducible exact ⟨x2,q5,g0,g1,g2,g3,g4,g5⟩)|go_keep)
    (first|(go_at_call 38;refine hkid.mono ?_;rintro e w4 ⟨rfl,hu4,hc4,hz4⟩;have z2:=hu4.cell HNE.out.1 x2;have z5:=hu4.cell HNE.out.2.1 q5;have y0:=hu4.cell HNE.out.2.2 g0;have y1:=hu4.cell HNE.out.2.2 g1;have y2:=hu4.cell HNE.out.2.2 g2;have y3:=hu4.cell HNE.out.2.2 g3;have y4:=hu4.cell HNE.out.2.2 g4;have y5:=hu4.cell HNE.out.2.2 g5))
   all_goals go_wp2
   all_goals go_ret
   all_goals exact ⟨by rw [HRN.out];rfl,HW3.out.trans hu4,λl' h=>by rw [HRN.out] at h;(cases h),hz4⟩
 have ji:=Y54
 rw [List.drop_eq_nil_of_le Ns,jM] at hrec
 have HRS:Hid (R=some lj):=hrec.symm
 clear hrec hltj hj
 go_wp2
 go_ret
 exact ⟨by rw [HRS.out];rfl,HWR.out,λl' h=>by rw [HRS.out] at h;(cases h;exact hcj),hzj⟩
end
section
variable{w wL:World}{mb:Nat}
def Z146(h:p:=by
 rcases hg.at' with e|⟨g3,hg3,e⟩
 ·exact h.own g (e ▸ hg')
 rw [e] at hg'
 cases hg'
 omega):p:=h
def mkB(n l:Int):Obj:=.cells #[.int .i64 n,.int .i64 l] 220 (0,0)
structure Mk(wL w:World)(mb:Nat):Prop where
 at':∃n l,w.heap[mb]?=some (mkB n l)
 old:Old wL w
 new:wL.heap.size<=mb
 pow:Pow wL
theorem Mk.powr(h:Mk wL w mb):Pow w:=h.pow.carry (h.old.old _ h.pow.lt)
def isDat(v:Value):Prop:=∃k n b t na ka nl nc kl kc,v=.agg (dcs k n b t na ka nl nc kl kc).toArray
def isSl(v:Value):Prop:=∃a l c,v=.slice a l c
def Ka(S:Value->Prop)(mb:Nat)(w:World)(e:Ending)(w':World):Prop:=(fV e\/((∃v,e=.returned v/\S v)/\∃n l,w'.heap[mb]?=some (mkB n l)))/\Upd mb w w'
def BP(wL:World)(tab:List TNode)(pl:Nat->Nat)(k:Nat):Prop:=∀(ok:Nat->Prop) (w:World) (mb i:Nat) (cs:List Value) (j:J) (d:Int),i<tab.length->j.lies ok wL cs->Mk wL w mb->d=33-(k:Int) ->
 Calls prog 127 #[.pointer (some ⟨mb,0,none⟩),.pointer (some ⟨pl i,0,none⟩),.agg cs.toArray,.int .i64 d] w λe w'=>Ka isDat mb w e w'
theorem Mk.upd{w':World}(h:Mk wL w mb)(u:Upd mb w w')(a:∃n l,w'.heap[mb]?=some (mkB n l)):Mk wL w' mb:=⟨a,h.old.upd h.new u,h.new,h.pow⟩
theorem Mk.lt(h:Mk wL w mb):mb<w.heap.size:=by
 obtain ⟨n,l,h⟩:=h.at'
 exact (Oh h).1
theorem Mk.add{w':World}(h:Mk wL w mb)(u:Add w w'):Mk wL w' mb:=by
 have hl:=h.lt
 obtain ⟨n,l,ha⟩:=h.at'
 exact ⟨⟨n,l,(u.old mb hl).trans ha⟩,h.old.trans (Old.add u),h.new,h.pow⟩
theorem nN{W:World}{B:Nat}{v0 v1:Value}{T:TypeId}(h:W.heap[B]?=some (.cells #[v0,v1] T (0,0))):
  W.cell? ⟨B,0,none⟩=some v0/\W.cell? ⟨B,1,none⟩=some v1/\∀k,W.frozen? ⟨B,k,none⟩=false:=by
 refine ⟨?_,?_,λk=>by unfold World.frozen?;rw [h];simp⟩
 all_goals (unfold World.cell?;rw [h];rfl)
theorem mk_set0{n l:Int}(h:w.heap[mb]?=some (mkB n l))(x:Int):(w.setCell ⟨mb,0,none⟩ (.int .i64 x)).heap[mb]?=some (mkB x l):=dG h 0 _
theorem mk_set1{n l:Int}(h:w.heap[mb]?=some (mkB n l))(x:Int):(w.setCell ⟨mb,1,none⟩ (.int .i64 x)).heap[mb]?=some (mkB n x):=dG h 1 _
theorem Tryz.infoD:(prog.info? 42).map (λi=>(i.zero.map (λz=>z.cells.size),i.size))=some (some 6,6):=Kf
theorem Tryz.infoDb:(prog.info? 42).map (λi=>decide (i.bytes<=1000))=some true:=Kf
theorem Tryz.infoD6:∃i z,prog.info? 42=some i/\i.zero=some z/\i.size=6/\z.cells.size=6/\i.bytes<=1000:=by
 obtain ⟨i,h1,h2⟩:=Option.map_eq_some_iff.1 Tryz.infoD
 obtain ⟨i',h1',h3⟩:=Option.map_eq_some_iff.1 Tryz.infoDb
 exact Z91
theorem Cc(k n:Int)(b:Nat)(t:ByteArray)(na ka:Option Addr)(nl nc kl kc:Nat):∀u∈dcs k n b t na ka nl nc kl kc,u.oneCell'=true:=by
 intro u hu
 simp only [dcs,List.mem_cons,List.not_mem_nil,or_false] at hu
 rcases hu with rfl|rfl|rfl|rfl|rfl|rfl <;> rfl
structure KidI(mb:Nat)(w wr:World)(v:Value)(j:Nat)(cs:List Value):Prop where
 row:Row wr 6 v j cs
 own:∀g,blk v=some g->w.heap.size<=g
 mkr:∃n l,wr.heap[mb]?=some (mkB n l)
 upd:Upd mb w wr
theorem KidI.push{mb:Nat}{w wr w5 w8:World}{v v8:Value}{j:Nat}{cs news:List Value}{o:Obj}(h:KidI mb w wr v j cs)(hmb:mb<w.heap.size)(hu:Upd mb wr w5)(hm:∃n l,w5.heap[mb]?=some (mkB n l))
  (hg:Grew (w5.alloc o) v w8 v8) (hr:Row w8 6 v8 (j+1) (cs++news)):KidI mb w w8 v8 (j+1) (cs++news):=by
 have h1:=h.upd.size
 have h2:=hu.size
 have h3:(w5.alloc o).heap.size=w5.heap.size+1:=dE _ _
 have h4:=hg.size
 obtain ⟨n,l,hm⟩:=hm
 refine ⟨hr,λg hg'=>?_,⟨n,l,?_⟩,hg.os.trans (hu.os.trans h.upd.os),hg.output.trans (hu.output.trans h.upd.output),by omega,λi hi hn=>?_⟩
 ·exact Z146
 ·rw [hg.old mb Kc (λe=>by have:=h.own _ e;omega),Oc _ _ _ Kc]
  exact hm
 rw [hg.old i Kc (λe=>by have:=h.own _ e;omega),Oc _ _ _ Kc,hu.old i Kc hn]
 exact h.upd.old i hi hn
end
section
variable{ok ok':Nat->Prop}{w w':World}{v:Value}
def Y105(h:p:=by exact (show f=0\/f=1\/f=2\/f=3\/f=4\/f=5 from by omega)):p:=h
def Y106(h:p:=by exact (show ∃y,cs[f]?=some y from ⟨_,NP (by rw [h6];exact hf)⟩)):p:=h
def Z72(h:p:=by
 obtain ⟨cs,h6,hc,hl⟩:=h
 exact ⟨cs,h6,λf hf=>by
  obtain ⟨y,hy⟩:=Y106
  have h1:=hc f hf
  rw [hy] at h1 ⊢
  exact a.cell h1,Dat.lies_carry (Old.add a) _ _ hl⟩):p:=h
mutual
def Dat.liesO(ok:Nat->Prop)(w:World):Dat->List Value->Prop
 |.mk k n b t ns ks,cs=>∃na nc ka kc,cs=dcs k n b t na ka ns.length nc ks.length kc /\
   (-9223372036854775808<=k/\k<=9223372036854775807)/\(-9223372036854775808<=n/\n<=9223372036854775807)/\b<18446744073709551616/\iK ok w na ns/\aJ ok w ka 0 ks
def aJ(ok:Nat->Prop)(w:World)(a:Option Addr):Nat->List Dat->Prop
 |_,[]=>True
 |i,d::r=>(∃b o cs,a=some ⟨b,o,none⟩/\ok b/\b<w.heap.size/\cs.length=6/\(∀f,f<6->w.cell? ⟨b,o+i*6+f,none⟩=cs[f]?)/\d.liesO ok w cs)/\aJ ok w a (i+1) r
end
theorem iK.strs{a:Option Addr}{ns:List ByteArray}(h:iK ok w a ns):jE w a ns:=by
 rcases h with h|⟨b,o,h1,_,h3⟩
 ·exact .inl h
 exact .inr ⟨b,o,h1,h3⟩
mutual
theorem aR : ∀(d:Dat) (cs:List Value),d.liesO ok w cs->d.lies w cs
 |.mk k n b t ns ks,cs,h=>by
  rw [Dat.liesO] at h
  rw [Dat.lies]
  obtain ⟨na,nc,ka,kc,h1,h2,h3,h4,h5,h6⟩:=h
  exact ⟨na,nc,ka,kc,h1,h2,h3,h4,h5.strs,aM ka 0 ks h6⟩
theorem aM(a:Option Addr):∀(i:Nat) (l:List Dat),aJ ok w a i l->Dat.lieAll w a i l
 |_,[],_=>by rw [Dat.lieAll];trivial
 |i,d::r,h=>by
  rw [aJ] at h
  rw [Dat.lieAll]
  obtain ⟨⟨b,o,cs,h1,_,h3,h4,h5,h6⟩,h7⟩:=h
  exact ⟨⟨b,o,cs,h1,h3,h4,h5,aR d cs h6⟩,aM a (i+1) r h7⟩
end
mutual
theorem aN(k:Keep ok w w'):∀(d:Dat) (cs:List Value),d.liesO ok w cs->d.liesO ok w' cs
 |.mk _ _ _ _ ns ks,cs,h=>by
  rw [Dat.liesO] at h ⊢
  obtain ⟨na,nc,ka,kc,h1,h2,h3,h4,h5,h6⟩:=h
  exact ⟨na,nc,ka,kc,h1,h2,h3,h4,h5.carry k,aK k ka 0 ks h6⟩
theorem aK(k:Keep ok w w')(a:Option Addr):∀(i:Nat) (l:List Dat),aJ ok w a i l->aJ ok w' a i l
 |_,[],_=>by rw [aJ];trivial
 |i,d::r,h=>by
  rw [aJ] at h ⊢
  obtain ⟨⟨b,o,cs,h1,h2,h3,h4,h5,h6⟩,h7⟩:=h
  exact ⟨⟨b,o,cs,h1,h2,NK h3 k.size,h4,λf hf=>(k.cell h2 h3).trans (h5 f hf),aN k d cs h6⟩,aK k a (i+1) r h7⟩
end
mutual
theorem aP(k:∀b,ok b->b<w.heap.size->ok' b):∀(d:Dat) (cs:List Value),d.liesO ok w cs->d.liesO ok' w cs
 |.mk _ _ _ _ ns ks,cs,h=>by
  rw [Dat.liesO] at h ⊢
  obtain ⟨na,nc,ka,kc,h1,h2,h3,h4,h5,h6⟩:=h
  exact ⟨na,nc,ka,kc,h1,h2,h3,h4,h5.mono k,aL k ka 0 ks h6⟩
theorem aL(k:∀b,ok b->b<w.heap.size->ok' b)(a:Option Addr):∀(i:Nat) (l:List Dat),aJ ok w a i l->aJ ok' w a i l
 |_,[],_=>by rw [aJ];trivial
 |i,d::r,h=>by
  rw [aJ] at h ⊢
  obtain ⟨⟨b,o,cs,h1,h2,h3,h4,h5,h6⟩,h7⟩:=h
  exact ⟨⟨b,o,cs,h1,k b h2 h3,h3,h4,h5,aP k d cs h6⟩,aL k a (i+1) r h7⟩
end
theorem aO{d:Dat}{cs:List Value}(h:d.liesO ok w cs):∃k n b t na ka nl nc kl kc,cs=dcs k n b t na ka nl nc kl kc:=by
 obtain ⟨k,n,b,t,ns,ks⟩:=d
 rw [Dat.liesO] at h
 obtain ⟨na,nc,ka,kc,h1,_⟩:=h
 exact ⟨_,_,_,_,_,_,_,_,_,_,h1⟩
def ai(ok:Nat->Prop)(w:World):List Dat->List Value->Prop
 |[],cs=>cs=[]
 |d::r,cs=>∃c rest,cs=c++rest/\c.length=6/\d.liesO ok w c/\ai ok w r rest
theorem aq(k:Keep ok w w'):∀(l:List Dat) (cs:List Value),ai ok w l cs->ai ok w' l cs
 |[],_,h=>h
 |d::r,_,⟨c,rest,h1,h2,h3,h4⟩=>⟨c,rest,h1,h2,aN k d c h3,aq k r rest h4⟩
theorem aw(k:∀b,ok b->b<w.heap.size->ok' b):∀(l:List Dat) (cs:List Value),ai ok w l cs->ai ok' w l cs
 |[],_,h=>h
 |d::r,_,⟨c,rest,h1,h2,h3,h4⟩=>⟨c,rest,h1,h2,aP k d c h3,aw k r rest h4⟩
theorem ax{j:Dat}{c:List Value}(hc:c.length=6)(hj:j.liesO ok w c):∀(l:List Dat) (cs:List Value),ai ok w l cs->ai ok w (l++[j]) (cs++c)
 |[],cs,h=>by
  exact Z191
 |d::r,_,⟨c',rest,h1,h2,h3,h4⟩=>⟨c',rest++c,by rw [h1,List.append_assoc],h2,h3,ax hc hj r rest h4⟩
theorem aj{g:Nat}(hg:ok g)(hl:g<w.heap.size):∀(l:List Dat) (cs:List Value) (i:Nat),ai ok w l cs->(∀j,j<cs.length->w.cell? ⟨g,i*6+j,none⟩=cs[j]?)->aJ ok w (some ⟨g,0,none⟩) i l
 |[],_,_,_,_=>by rw [aJ];trivial
 |d::r,cs,i,⟨c,rest,h1,h2,h3,h4⟩,hc=>by
  rw [aJ]
  subst h1
  refine ⟨⟨g,0,c,rfl,hg,hl,h2,λf hf=>?_,h3⟩,aj hg hl r rest (i+1) h4 (λj hj=>?_)⟩
  ·exact Z145
  exact Z90
theorem Dat.row_lieAll{l:List Dat}{cs:List Value}(hr:Row w 6 v l.length cs)(hl:ai ok w l cs)(hb:∀i,blk v=some i->ok i):∃a c,v=.slice a l.length c/\aJ ok w a 0 l:=by
 rcases hr with ⟨rfl,h0,_⟩|⟨g,c,rfl,h⟩
 ·obtain rfl:l=[]:=NT h0
  exact ⟨none,0,rfl,by rw [aJ];trivial⟩
 refine ⟨_,_,rfl,aj (hb g rfl) h.lt l cs 0 hl (λj hj=>?_)⟩
 exact Z167
structure KidD(B:Nat)(wr:World)(v:Value)(ds:List Dat)(cells:List Value):Prop where
 row:Row wr 6 v ds.length cells
 own:∀g,blk v=some g->B<=g
 lie:ai (λb=>B<=b/\blk v≠some b) wr ds cells
theorem KidD.nil(B:Nat)(w:World):KidD B w (.slice none 0 0) [] []:=⟨Row.nil _ _,λ_ h=>Lm,rfl⟩
theorem KidD.carry{B:Nat}{wr:World}{ds:List Dat}{cells:List Value}(h:KidD B wr v ds cells)(hs:wr.heap.size<=w'.heap.size)(k:∀i,B<=i->i<wr.heap.size->w'.heap[i]?=wr.heap[i]?):KidD B w' v ds cells:=
 ⟨h.row.carry λi hi=>k i (h.own i hi) (h.row.blk_lt hi),h.own,aq ⟨hs,λi hi hl=>k i hi.1 hl⟩ _ _ h.lie⟩
theorem KidD.push{B rb:Nat}{wr w5 w8:World}{v v8:Value}{ds:List Dat}{cells c6:List Value}{o:Obj}{x:Dat}(h:KidD B wr v ds cells)(hB:B<=wr.heap.size)(hu:Upd rb wr w5)(hrb:rb<B)(hx:x.liesO (λb=>wr.heap.size<=b) w5 c6)(hc:c6.length=6)
  (hg:Grew (w5.alloc o) v w8 v8) (hr:Row w8 6 v8 (ds.length+1) (cells++c6)):KidD B w8 v8 (ds++[x]) (cells++c6):=by
 have h2:=hu.size
 have h3:=dE w5 o
 have h4:=hg.size
 have hk1:Keep (λb=>B<=b/\blk v≠some b) wr w8:=⟨by omega,λi hi hl=>by
  rw [hg.old i Kc hi.2,Oc _ _ i Kc,hu.old i hl Kc]⟩
 have hk2:Keep (λb=>wr.heap.size<=b) w5 w8:=⟨by omega,λi hi hl=>by
  rw [hg.old i Kc (λe=>by have:=h.row.blk_lt e;omega),Oc _ _ i hl]⟩
 have hn8:∀b,b<w5.heap.size->blk v≠some b->blk v8≠some b:=by
  intro b hb hn e
  rcases hg.at' with e1|⟨g,hg,e1⟩
  ·exact hn NC
  rw [e] at e1
  cases e1
  omega
 have m1:ai (λb=>(B<=b/\blk v≠some b)/\b<wr.heap.size) w8 ds cells:=aq ⟨hk1.size,λi hi hl=>hk1.old i hi.1 hl⟩ _ _ (aw (λb hb hl=>⟨hb,hl⟩) _ _ h.lie)
 have m2:x.liesO (λb=>wr.heap.size<=b/\b<w5.heap.size) w8 c6:=aN ⟨hk2.size,λi hi hl=>hk2.old i hi.1 hl⟩ _ _ (aP (λb hb hl=>⟨hb,hl⟩) _ _ hx)
 refine ⟨by rw [List.length_append];exact hr,λg hg'=>?_,ax hc (aP (λb hb _=>⟨by omega,hn8 b hb.2 (λe=>by have:=h.row.blk_lt e;omega)⟩) _ _ m2) _ _ (aw (λb hb _=>⟨hb.1.1,hn8 b Kc hb.1.2⟩) _ _ m1)⟩
 exact Z146
theorem KidD.upd{B rb:Nat}{wr w5 w8:World}{v8:Value}{ds:List Dat}{cells:List Value}{o:Obj}(h:KidD B wr v ds cells)(hw:w.heap.size<=B)(hu0:Upd rb w wr)(hu:Upd rb wr w5)(hg:Grew (w5.alloc o) v w8 v8):Upd rb w w8:=by
 have h1:=hu0.size
 have h2:=hu.size
 have h3:=dE w5 o
 have h4:=hg.size
 exact ⟨hg.os.trans (hu.os.trans hu0.os),hg.output.trans (hu.output.trans hu0.output),by omega,λi hi hn=>by
  rw [hg.old i Kc (λe=>by have:=h.own _ e;omega),Oc _ _ i Kc,hu.old i Kc hn,hu0.old i hi hn]⟩
end
section
def xq(c:ByteArray)(j:Nat):Bool:=(c.data.toList.take j).any (· == 46)
theorem Gi(c:ByteArray):xq c 0=false:=by unfold xq;rw [List.take_zero];rfl
theorem u8dot(x:UInt8):(x==46)=(((x.toNat:Nat):Int)==46):=by
 rw [Bool.eq_iff_iff,beq_iff_eq,beq_iff_eq]
 constructor
 ·rintro rfl;rfl
 intro h
 exact UInt8.toNat_inj.1 (by have:(46:UInt8).toNat=46:=rfl;omega)
theorem GK(c:ByteArray)(j:Nat)(h:j<c.size):xq c (j+1)=(xq c j||((((c[j]'h).toNat:Nat):Int)==46)):=by
 rw [<-u8dot]
 unfold xq
 have h':j<c.data.toList.length:=Ky
 rw [List.take_succ_eq_append_getElem h',List.any_append]
 simp
 rfl
theorem JJ{l:List UInt8}(h:xq ⟨l.toArray⟩ l.length=false):(46:UInt8) ∉ l:=λhm=>by
 unfold xq at h
 rw [List.take_of_length_le Kh] at h
 have:=List.any_eq_false.1 h 46 (by simpa using hm)
 simp at this
theorem zU{w:World}{d:Dat}{b:Nat}{T:TypeId}{z:Nat × Nat}{dk dn:Int}{db:Nat}{dt:ByteArray}{dna dka:Option Addr}{dnl dnc dkl dkc:Nat}(h:w.heap[b]?=some (.cells #[.int .i64 dk,.int .i64 dn,.int .u64 (db:Int),.string dt,.slice dna dnl dnc,.slice dka dkl dkc] T z))(hl:d.lies w [.int .i64 dk,.int .i64 dn,.int .u64 (db:Int),.string dt,.slice dna dnl dnc,.slice dka dkl dkc]):d.atP w b 0:=by
 refine ⟨_,rfl,λf hf=>?_,hl⟩
 unfold World.cell?
 rw [h]
 have hf':=Y105
 rcases hf' with rfl|rfl|rfl|rfl|rfl|rfl <;> rfl
theorem dec_put{w1 w2:World}{b:Nat}(hb:w1.heap.size=b)(A:Add (w1.alloc (.cells #[.int .i64 0,.int .i64 0,.int .u64 0,.string ⟨#[]⟩,.slice none 0 0,.slice none 0 0] 42 (0,0))) w2)(dk dn:Int)(db:Nat)(dt:ByteArray)(dna dka:Option Addr)(dnl dnc dkl dkc:Nat):
  Add w1 (dV w2 b (.int .i64 dk) (.int .i64 dn) (.int .u64 (db:Int)) (.string dt) (.slice dna dnl dnc) (.slice dka dkl dkc))/\∀x:Dat,x.liesO (λi=>(w1.alloc (.cells #[.int .i64 0,.int .i64 0,.int .u64 0,.string ⟨#[]⟩,.slice none 0 0,.slice none 0 0] 42 (0,0))).heap.size<=i) w2 [.int .i64 dk,.int .i64 dn,.int .u64 (db:Int),.string dt,.slice dna dnl dnc,.slice dka dkl dkc]->x.atP (dV w2 b (.int .i64 dk) (.int .i64 dn) (.int .u64 (db:Int)) (.string dt) (.slice dna dnl dnc) (.slice dka dkl dkc)) b 0:=by
 have r1:=dD w1 (.cells #[.int .i64 0,.int .i64 0,.int .u64 0,.string ⟨#[]⟩,.slice none 0 0,.slice none 0 0] 42 (0,0))
 have z1:=dE w1 (.cells #[.int .i64 0,.int .i64 0,.int .u64 0,.string ⟨#[]⟩,.slice none 0 0,.slice none 0 0] 42 (0,0))
 have a1:=ae w1 (.cells #[.int .i64 0,.int .i64 0,.int .u64 0,.string ⟨#[]⟩,.slice none 0 0,.slice none 0 0] 42 (0,0))
 rw [hb] at r1 z1
 have hlt:b<(w1.alloc (.cells #[.int .i64 0,.int .i64 0,.int .u64 0,.string ⟨#[]⟩,.slice none 0 0,.slice none 0 0] 42 (0,0))).heap.size:=Kc
 have h6:Six w2 b:=Six.of_heap ((A.old b hlt).trans r1)
 have hA:=a1.trans A
 obtain ⟨c0,c1,c2,c3,c4,c5⟩:=fK h6 (.int .i64 dk) (.int .i64 dn) (.int .u64 (db:Int)) (.string dt) (.slice dna dnl dnc) (.slice dka dkl dkc)
 have hh:=dI w2 b (.int .i64 dk) (.int .i64 dn) (.int .u64 (db:Int)) (.string dt) (.slice dna dnl dnc) (.slice dka dkl dkc)
 have hz:=dP w2 b (.int .i64 dk) (.int .i64 dn) (.int .u64 (db:Int)) (.string dt) (.slice dna dnl dnc) (.slice dka dkl dkc)
 have ho:=iF w2 b (.int .i64 dk) (.int .i64 dn) (.int .u64 (db:Int)) (.string dt) (.slice dna dnl dnc) (.slice dka dkl dkc)
 have hp:=eX w2 b (.int .i64 dk) (.int .i64 dn) (.int .u64 (db:Int)) (.string dt) (.slice dna dnl dnc) (.slice dka dkl dkc)
 generalize dV w2 b (.int .i64 dk) (.int .i64 dn) (.int .u64 (db:Int)) (.string dt) (.slice dna dnl dnc) (.slice dka dkl dkc)=w3 at *
 refine ⟨⟨ho.trans hA.os,hp.trans hA.output,by rw [hz];exact hA.size,λi hi=>(hh i Kc).trans (hA.old i hi)⟩,λx hx=>?_⟩
 have hx3:=aR _ _ (aN (w':=w3) ⟨by omega,λi hi _=>hh i Kc⟩ _ _ hx)
 refine ⟨_,rfl,λf hf=>?_,hx3⟩
 have hf':=Y105
 rcases hf' with rfl|rfl|rfl|rfl|rfl|rfl
 ·exact c0
 ·exact c1
 ·exact c2
 ·exact c3
 ·exact c4
 exact c5
theorem dec_new{w1 w2:World}(A:Add w1 w2)(dk dn:Int)(db:Nat)(dt:ByteArray)(dna dka:Option Addr)(dnl dnc dkl dkc:Nat):
  Add w1 (w2.alloc (.cells #[.int .i64 dk,.int .i64 dn,.int .u64 (db:Int),.string dt,.slice dna dnl dnc,.slice dka dkl dkc] 42 (0,0)))/\∀(x:Dat) (ok:Nat->Prop),x.liesO ok w2 [.int .i64 dk,.int .i64 dn,.int .u64 (db:Int),.string dt,.slice dna dnl dnc,.slice dka dkl dkc]->x.atP (w2.alloc (.cells #[.int .i64 dk,.int .i64 dn,.int .u64 (db:Int),.string dt,.slice dna dnl dnc,.slice dka dkl dkc] 42 (0,0))) w2.heap.size 0:=by
 have a2:=ae w2 (.cells #[.int .i64 dk,.int .i64 dn,.int .u64 (db:Int),.string dt,.slice dna dnl dnc,.slice dka dkl dkc] 42 (0,0))
 refine ⟨A.trans a2,λx ok hx=>?_⟩
 exact zU (dD w2 (.cells #[.int .i64 dk,.int .i64 dn,.int .u64 (db:Int),.string dt,.slice dna dnl dnc,.slice dka dkl dkc] 42 (0,0))) (Dat.lies_carry (Old.add a2) _ _ (aR _ _ hx))
theorem ah{w w':World}{d:Dat}{b o:Nat}(h:d.atP w b o)(a:Add w w'):d.atP w' b o:=by
 exact Z72
structure BkC(Ok Fit:Dat->Prop)(Rd:World->Nat->Prop)(w:World)(kb sb:Nat)(c:ByteArray)(xa ya:Option Addr)(xc yc:Nat)(ds:List Dat)(bs:List ByteArray):Prop where
 c0:w.cell? ⟨kb,0,none⟩=some (.pointer (some ⟨sb,0,none⟩))
 c2:w.cell? ⟨kb,2,none⟩=some (.slice xa ds.length xc)
 c13:w.cell? ⟨kb,13,none⟩=some (.slice ya bs.length yc)
 data:Dat.lieAll w xa 0 ds
 bytes:jE w ya bs
 dok:∀d∈ds,Ok d
 dn:ds.length<=262144
 bz:∀t∈bs,t.size<=262144
 bn:bs.length<=300000
 cn:c.size<=10000000000000
 can:∀W,Add w W->Calls prog 6 #[.pointer (some ⟨sb,0,none⟩)] W λe w'=>e=.returned (.string c)/\Add W w'
 rd0:Rd w sb
 rda:∀W W' rb,Rd W rb->Add W W'->Rd W' rb
 par:xq c c.size=false->∀W,Add w W->Calls prog 7 #[.string c] W λe w'=>∃rb,e=.returned (.tuple #[.pointer (some ⟨rb,0,none⟩),.int .i64 0])/\Add W w'/\Rd w' rb/\(∀W',Add w' W'->Calls prog 6 #[.pointer (some ⟨rb,0,none⟩)] W' λe w''=>e=.returned (.string c)/\Add W' w'')/\(∀W',Add w' W'->Calls prog 8 #[.pointer (some ⟨sb,0,none⟩),.pointer (some ⟨rb,0,none⟩)] W' λe w''=>e=.returned (.bool true)/\Add W' w'')
 dec:∀W,Add w W->∀t,t.size<=262144->Calls prog 10 #[.pointer (some ⟨sb,0,none⟩),.string t] W λe w'=>Add W w'/\∃(k n:Int) (dk dn:Int) (db:Nat) (dt:ByteArray) (dna dka:Option Addr) (dnl dnc dkl dkc:Nat),e=.returned (.tuple #[.agg #[.int .i64 dk,.int .i64 dn,.int .u64 (db:Int),.string dt,.slice dna dnl dnc,.slice dka dkl dkc],.int .i64 k,.int .i64 n])/\(n=0->0<=k/\k<=t.size/\∃x:Dat,x.liesO (λb=>W.heap.size<=b) w' [.int .i64 dk,.int .i64 dn,.int .u64 (db:Int),.string dt,.slice dna dnl dnc,.slice dka dkl dkc]/\Ok x/\Fit x)
 fit:∀W,Add w W->∀(x:Dat) cs,x.lies W cs->Ok x->Fit x->Calls prog 11 #[.pointer (some ⟨sb,0,none⟩),.agg cs.toArray] W λe w'=>e=.returned (.bool true)/\Add W w'
 bck:∀W,Add w W->∀rb,Rd W rb->∀(d:Dat) b o,d.atP W b o->Ok d->Calls prog 9 #[.pointer (some ⟨kb,0,none⟩),.pointer (some ⟨b,o,none⟩),.pointer (some ⟨rb,0,none⟩)] W λe w'=>e=.returned (.bool true)/\Add W w'
end
end Go.Proofs.YtjmlghgnbclmfaaGreatDoor
