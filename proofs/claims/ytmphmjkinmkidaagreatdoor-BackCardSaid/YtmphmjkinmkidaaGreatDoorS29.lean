import Derived.Test.YtmphmjkinmkidaaGreatDoorS28
set_option linter.defProp false
open Go.Proofs.Tryz
set_option maxRecDepth 8000
set_option maxHeartbeats 4000000
namespace Go.Proofs.YtmphmjkinmkidaaGreatDoor
variable{p:Prop}
section
open Go Go.RowKit Go.Extern.Stop Go.Stop Go.Extern
variable{wL:World}{tab:List TNode}{pl:Nat->Nat}
def Y112(h:p:=by exact (show (0:Int)<=(q:Int) from by omega)):p:=h
def Y113(h:p:=by exact (show wr.cell? ⟨fbk,fo+q*10,none⟩=some (.string fn) from hfc 0 Kc)):p:=h
def Y114(h:p:=by exact (show wr.cell? ⟨fbk,fo+q*10+1,none⟩=some (.slice aa al ac) from hfc 1 Kc)):p:=h
def Y115(h:p:=by exact (show wr.cell? ⟨fbk,fo+q*10+2,none⟩=some (.pointer (some ⟨pl it,0,none⟩)) from hfc 2 Kc)):p:=h
def Y116(h:p:=by exact (show wr.cell? ⟨fbk,fo+q*10+3,none⟩=some (.int .i64 k') from hfc 3 Kc)):p:=h
def Y117(h:p:=by exact (show wr.cell? ⟨fbk,fo+q*10+4,none⟩=some (.int .i64 i') from hfc 4 Kc)):p:=h
def Y118(h:p:=by exact (show wr.cell? ⟨fbk,fo+q*10+5,none⟩=some (.string tt) from hfc 5 Kc)):p:=h
def Y119(h:p:=by exact (show wr.cell? ⟨fbk,fo+q*10+6,none⟩=some (.slice a' l' c') from hfc 6 Kc)):p:=h
def Y120(h:p:=by exact (show wr.cell? ⟨fbk,fo+q*10+7,none⟩=some (.slice na' nl' nc') from hfc 7 Kc)):p:=h
def Y121(h:p:=by exact (show wr.cell? ⟨fbk,fo+q*10+8,none⟩=some (.map m') from hfc 8 Kc)):p:=h
def Y122(h:p:=by exact (ae wr (.cells #[.string fn,.slice aa al ac,.pointer (some ⟨pl it,0,none⟩),.int .i64 k',.int .i64 i',.string tt,.slice a' l' c',.slice na' nl' nc',.map m',.bool ds] 150 (0,0)))):p:=h
theorem mk_zero(wL:World)(tab:List TNode)(pl:Nat->Nat):BP wL tab pl 0:=by
 intro ok w mb i cs j d hi hl hM hd
 obtain ⟨n,t,a,na,l,c,nl,nc,m,hcs⟩:=J.lies_cells hl
 subst hcs
 obtain ⟨mn,ml,hmb⟩:=hM.at'
 have hlt:=hM.lt
 have hp:=Y110
 have ha:=Y111
 obtain ⟨m0,m1,mz⟩:=nN ((ha.old mb hlt).trans hmb)
 have mz0:=mz 0
 have hd32:(32<d)=True:=eq_true Kc
 unfold jc
 clear hl hmb m1 mz ha hM hlt hd
 go_enter func127,ntmps127
 go_upto_region 2 with fail
 generalize wrap64 (mn+1)=mx at hp ⊢
 generalize ((w.alloc (.cells #[.int .i64 j.kindI,.int .i64 n,.string t,.slice a l c,.slice na nl nc,.map m] 85 (0,0))).alloc (.cells #[.int .i64 0,.int .i64 0,.int .u64 0,.string ⟨#[]⟩,.slice none 0 0,.slice none 0 0] 42 (0,0))).setCell ⟨mb,0,none⟩ (.int .i64 mx)=w2 at hp ⊢
 clear m0 mz0
 have HU2:=bf hp.2.2.2.1
 clear hp
 exact Z110
theorem JD(hL:Lay wL tab pl)(hNm:wE tab)(hBr:∀i (h:i<tab.length),tab[i].kind=13->tab[i].branches≠[]):∀k,k<=32->BP wL tab pl k
 |0,_=>mk_zero wL tab pl
 |k+1,h=>IU (JD hL hNm hBr k Kc) hL hNm hBr h
theorem Upd.add{mb:Nat}{w w':World}(h:Upd mb w w'){w0:World}(ha:Add w0 w)(hm:w0.heap.size<=mb):Add w0 w':=⟨h.os.trans ha.os,h.output.trans ha.output,NM ha.size h.size,λi hi=>(h.old i (NK hi ha.size) Kc).trans (ha.old i hi)⟩
theorem BB(hmk:BP wL tab pl 32)(hpw:Pow wL)(w:World)(hO:Old wL w)(ti:Nat)(hti:ti<tab.length)(fn:ByteArray)(aa:Option Addr)(al ac:Nat)(k i:Int)(t:ByteArray)(a na:Option Addr)(l c nl nc:Nat)(m:Option Nat)(d:Option J)(hdf:nJ wL d (jc k i t a na l c nl nc m)):
  Calls prog 82 #[.agg (fcs fn aa al ac (pl ti) k i t a na l c nl nc m d.isSome).toArray] w λe w'=>((fV e/\d.isSome=true)\/∃v,e=.returned v)/\Add w w':=by
 unfold fcs
 have hal:=(ae w (.cells #[.string fn,.slice aa al ac,.pointer (some ⟨pl ti,0,none⟩),.int .i64 k,.int .i64 i,.string t,.slice a l c,.slice na nl nc,.map m,.bool d.isSome] 150 (0,0))).trans (ae _ (.cells #[.int .i64 0,.int .i64 0,.int .u64 0,.string ⟨#[]⟩,.slice none 0 0,.slice none 0 0] 42 (0,0)))
 have hb1:=((ae _ (.cells #[.int .i64 0,.int .i64 0,.int .u64 0,.string ⟨#[]⟩,.slice none 0 0,.slice none 0 0] 42 (0,0))).old w.heap.size Km).trans (dD w (.cells #[.string fn,.slice aa al ac,.pointer (some ⟨pl ti,0,none⟩),.int .i64 k,.int .i64 i,.string t,.slice a l c,.slice na nl nc,.map m,.bool d.isSome] 150 (0,0)))
 have hb2:=dD (w.alloc (.cells #[.string fn,.slice aa al ac,.pointer (some ⟨pl ti,0,none⟩),.int .i64 k,.int .i64 i,.string t,.slice a l c,.slice na nl nc,.map m,.bool d.isSome] 150 (0,0))) (.cells #[.int .i64 0,.int .i64 0,.int .u64 0,.string ⟨#[]⟩,.slice none 0 0,.slice none 0 0] 42 (0,0))
 rw [dE] at hb2
 go_enter func82,ntmps82
 go_upto_region 1 with fail
 generalize (w.alloc (.cells #[.string fn,.slice aa al ac,.pointer (some ⟨pl ti,0,none⟩),.int .i64 k,.int .i64 i,.string t,.slice a l c,.slice na nl nc,.map m,.bool d.isSome] 150 (0,0))).alloc (.cells #[.int .i64 0,.int .i64 0,.int .u64 0,.string ⟨#[]⟩,.slice none 0 0,.slice none 0 0] 42 (0,0))=w1 at *
 obtain ⟨f0,f1,f2,f3,f4,f5,f6,f7,f8,f9,fz⟩:=dN hb1
 obtain ⟨y0,y1,y2,y3,y4,y5,yz⟩:=dF hb2
 have yz0:=yz 0
 have yz1:=yz 1
 have yz2:=yz 2
 have yz3:=yz 3
 have yz4:=yz 4
 have yz5:=yz 5
 have HAL:=bf hal
 have HB2:=bf hb2
 clear fz yz hal hb2 hb1
 cases d with
 |none=>
  go_wp2
  have hP:=And.intro (sP (HAL.out) (Nat.le_succ _) (.int .i64 0) (.int .i64 0) (.int .u64 0) (.string ⟨#[]⟩) (.slice none 0 0) (.slice none 0 0)) (fF (HB2.out) (.int .i64 0) (.int .i64 0) (.int .u64 0) (.string ⟨#[]⟩) (.slice none 0 0) (.slice none 0 0))
  unfold dV at hP
  generalize ((((((w1.setCell ⟨(w.heap.size+1),0,none⟩ (.int .i64 0)).setCell ⟨(w.heap.size+1),1,none⟩ (.int .i64 0)).setCell ⟨(w.heap.size+1),2,none⟩ (.int .u64 0)).setCell ⟨(w.heap.size+1),3,none⟩ (.string ⟨#[]⟩)).setCell ⟨(w.heap.size+1),4,none⟩ (.slice none 0 0)).setCell ⟨(w.heap.size+1),5,none⟩ (.slice none 0 0))=wz at hP ⊢
  obtain ⟨hu,hb⟩:=hP
  obtain ⟨r0,r1,r2,r3,r4,r5,rz⟩:=dF hb
  refine bodyPost_ret (v:=.tuple #[.agg #[.int .i64 0,.int .i64 0,.int .u64 0,.string ⟨#[]⟩,.slice none 0 0,.slice none 0 0],.bool false]) Mf rfl ?_
  exact ⟨.inr ⟨_,rfl⟩,hu⟩
 |some jd=>
  have hM:Mk wL (w1.alloc (.cells #[.int .i64 0,.int .i64 0] 220 (0,0))) w1.heap.size:=⟨⟨0,0,dD _ _⟩,(hO.trans (Old.add HAL.out)).trans (Old.add (ae _ _)),by have:=hO.size;have:=HAL.out.size;omega,hpw⟩
  have hdc:=hmk _ _ w1.heap.size ti _ jd 1 hti hdf hM Ke
  unfold jc at hdc
  clear hmk hM hdf
  go_upto_region 4 with fail
  have ha2:=ae w1 (.cells #[.int .i64 0,.int .i64 0] 220 (0,0))
  generalize w1.alloc (.cells #[.int .i64 0,.int .i64 0] 220 (0,0))=w2 at hdc ha2 ⊢
  have g2:=ha2.cell f2
  have g3:=ha2.cell f3
  have g4:=ha2.cell f4
  have g5:=ha2.cell f5
  have g6:=ha2.cell f6
  have g7:=ha2.cell f7
  have g8:=ha2.cell f8
  have HA2:=bf (HAL.out.trans ha2)
  have HL2:Hid (w.heap.size+1<w1.heap.size):=(Oh HB2.out).1
  have HB3:=bf ((ha2.old _ HL2.out).trans HB2.out)
  clear f0 f1 f2 f3 f4 f5 f6 f7 f8 f9 y0 y1 y2 y3 y4 y5 yz0 yz1 yz2 yz3 yz4 yz5 ha2
  go_wp2_with (go_at_call 127;refine hdc.mono ?_;rintro e w5 ⟨⟨T,v,rfl⟩|⟨⟨v,rfl,hv⟩,hat⟩,hu5⟩;exact ⟨rfl,.inl ⟨⟨_,_,rfl⟩,rfl⟩,hu5.add HA2.out HAL.out.size⟩;obtain ⟨dk,dn,db,dt,dna,dka,dnl,dnc,dkl,dkc,rfl⟩:=hv;unfold dcs;have hb5:=(hu5.old _ (Oh HB3.out).1 (by have:=HL2.out;omega)).trans HB3.out;obtain ⟨y0,y1,y2,y3,y4,y5,yz⟩:=dF hb5;have yz0:=yz 0;have yz1:=yz 1;have yz2:=yz 2;have yz3:=yz 3;have yz4:=yz 4;have yz5:=yz 5;have HB5:=bf hb5;have HA5:=bf (hu5.add HA2.out HAL.out.size);clear yz hb5 hu5 hat)
  have hP:=And.intro (sP (HA5.out) (Nat.le_succ _) (.int .i64 dk) (.int .i64 dn) (.int .u64 (db:Int)) (.string dt) (.slice dna dnl dnc) (.slice dka dkl dkc)) (fF (HB5.out) (.int .i64 dk) (.int .i64 dn) (.int .u64 (db:Int)) (.string dt) (.slice dna dnl dnc) (.slice dka dkl dkc))
  unfold dV at hP
  generalize ((((((w5.setCell ⟨(w.heap.size+1),0,none⟩ (.int .i64 dk)).setCell ⟨(w.heap.size+1),1,none⟩ (.int .i64 dn)).setCell ⟨(w.heap.size+1),2,none⟩ (.int .u64 (db:Int))).setCell ⟨(w.heap.size+1),3,none⟩ (.string dt)).setCell ⟨(w.heap.size+1),4,none⟩ (.slice dna dnl dnc)).setCell ⟨(w.heap.size+1),5,none⟩ (.slice dka dkl dkc))=wz at hP ⊢
  obtain ⟨hu,hb⟩:=hP
  obtain ⟨r0,r1,r2,r3,r4,r5,rz⟩:=dF hb
  refine bodyPost_ret (v:=.tuple #[.agg #[.int .i64 dk,.int .i64 dn,.int .u64 (db:Int),.string dt,.slice dna dnl dnc,.slice dka dkl dkc],.bool true]) Mf rfl ?_
  exact ⟨.inr ⟨_,rfl⟩,hu⟩
def Jf(w:World)(bs:List Nat):Prop:=∀b∈bs,∀fb fo n fc,w.cell? ⟨b,3,none⟩=some (.slice (some ⟨fb,fo,none⟩) n fc)->∀i,i<n->w.cell? ⟨fb,fo+i*10+9,none⟩=some (.bool false)
theorem Ab(hL:Lay wL tab pl)(hmk:BP wL tab pl 32)(hpw:Pow wL)(D:Bool)(rb:Nat)(va:Option Addr)(vc N:Nat)(hc:wL.cell? ⟨rb,0,none⟩=some (.slice va N vc))(hN:N<=16)(bs:List Nat)(hbs:bs.length=N)(hrow:Row wL 1 (.slice va N vc) N (bs.map ptr))(hpl:∀b∈bs,∃p,p<tab.length/\pl p=b)(hD:D=false->Jf wL bs):
  Calls prog 50 #[.pointer (some ⟨rb,0,none⟩)] wL λe w'=>((fV e/\D=true)\/e=.returned (.tuple #[]))/\Add wL w':=by
 have HL:=bf hL
 have HMK:=bf hmk
 have HD:=bf hD
 have HBS:=bf hbs
 have HROW:=bf hrow
 have HPL:=bf hpl
 have HN:=bf hN
 clear hL hmk hD hbs hrow hpl hN
 go_enter func50,ntmps50
 go_wp2
 go_loopw [11] (λcnt wr=>∃j:Nat,j<=N/\cnt=.int .i64 j/\Add wL wr) (λcnt _=>N-(intOf cnt).toNat)
 case atStart=>exact ⟨0,NQ _,rfl,Add.refl _⟩
 obtain ⟨j,hj,rfl,ha⟩:=hrel
 clear hc
 by_cases hlt:j<N
 ·have ji:=Y51
  have j0:=Y52
  have j1:=Y53
  have hjb:j<bs.length:=by rw [HBS.out];exact hlt
  obtain ⟨g,cp,he,hcell⟩:=HROW.out.cell j (ptr bs[j]) (by rw [List.getElem?_map,NP hjb];rfl) hlt
  cases he
  obtain ⟨p,hp,hpp⟩:=HPL.out bs[j] (NS hjb)
  have hcell':=ha.cell hcell
  unfold ptr at hcell'
  rw [<-hpp] at hcell'
  have hT:=HL.out.lies p hp
  obtain ⟨fa,fc,h3,hfs⟩:=hT.fields
  have h3r:=ha.cell h3
  have HD3:=bf (λ(h:D=false) fb fo (e:fa=some ⟨fb,fo,none⟩)=>HD.out h bs[j] (NS hjb) fb fo _ fc (by rw [<-hpp];exact e ▸ h3))
  have H12:=bf (HL.out.sizes p hp).2.2.2
  have HFI:=bf (HL.out.fields p hp)
  generalize tab[p].fields=F at *
  obtain ⟨NF,hNF⟩:∃NF,F.length=NF:=⟨_,rfl⟩
  rw [hNF] at h3 h3r
  have HNF:=bf hNF
  have HFS:=bf hfs
  have HA:=bf ha
  have HJ:=bf hlt
  clear hcell hpp hT h3 hfs hNF hj ha
  go_wp2
  go_loopw [20] (λcnt wr=>∃q:Nat,q<=NF/\cnt=.int .i64 q/\Add wL wr) (λcnt _=>NF-(intOf cnt).toNat)
  case atStart=>exact ⟨0,NQ _,rfl,HA.out⟩
  obtain ⟨q,hq,rfl,haq⟩:=hrel
  clear h3r hcell'
  by_cases hlq:q<NF
  ·have qi:((q:Int)<(NF:Int))=True:=eq_true Kc
   have q0:=Y112
   have q1:(q:Int)<(NF:Int):=Kc
   have hqF:q<F.length:=by rw [HNF.out];exact hlq
   have hq12:q<=12:=by have:=H12.out;rw [HNF.out] at this;omega
   rcases HFS.out with hf0|⟨fbk,fo,rfl,hfbk,hfat⟩
   ·exfalso;rw [hf0] at hqF;simp at hqF
   obtain ⟨aa,al,ac,k',i',tt,a',na',l',c',nl',nc',m',d9,hcells,hdef⟩:=hfat q hqF
   have hfit:F[q].2<tab.length:=HFI.out F[q] (NS hqF)
   have hfl:D=false->d9.isSome=false:=λh=>by
    have h1:=HD3.out h fbk fo rfl q hqF
    have h2:=hcells 9 Kc
    rw [h1] at h2
    simpa [fcs] using h2.symm
   have HFL:=bf hfl
   have hfc:∀f,f<10->wr.cell? ⟨fbk,fo+q*10+f,none⟩=(fcs F[q].1 aa al ac (pl F[q].2) k' i' tt a' na' l' c' nl' nc' m' d9.isSome)[f]?:=λf hf=>((Old.add haq).cell hfbk).trans (hcells f hf)
   have hdc:=λW (hW:Add wL W)=>BB HMK.out hpw W (Old.add hW) F[q].2 hfit F[q].1 aa al ac k' i' tt a' na' l' c' nl' nc' m' d9 hdef
   generalize F[q].2=it at hfc hdc
   generalize F[q].1=fn at hfc hdc
   unfold fcs at hfc hdc
   have c0:=Y113
   have c1:=Y114
   have c2:=Y115
   have c3:=Y116
   have c4:=Y117
   have c5:=Y118
   have c6:=Y119
   have c7:=Y120
   have c8:=Y121
   have c9:wr.cell? ⟨fbk,fo+q*10+9,none⟩=some (.bool d9.isSome):=hfc 9 Kc
   have HAQ:=bf haq
   clear hfc hcells hfat hdef hfl hfit
   generalize d9.isSome=ds at *
   go_upto_region 6 with fail
   have hal3:=Y122
   have hb3:=dD wr (.cells #[.string fn,.slice aa al ac,.pointer (some ⟨pl it,0,none⟩),.int .i64 k',.int .i64 i',.string tt,.slice a' l' c',.slice na' nl' nc',.map m',.bool ds] 150 (0,0))
   generalize wr.alloc (.cells #[.string fn,.slice aa al ac,.pointer (some ⟨pl it,0,none⟩),.int .i64 k',.int .i64 i',.string tt,.slice a' l' c',.slice na' nl' nc',.map m',.bool ds] 150 (0,0))=w3 at *
   obtain ⟨f0,f1,f2,f3,f4,f5,f6,f7,f8,f9,fz⟩:=dN hb3
   have HA3:=bf (haq.trans hal3)
   have hdc3:=hdc w3 (haq.trans hal3)
   clear c0 c1 c2 c3 c4 c5 c6 c7 c8 c9 hal3 hb3 fz hdc haq
   go_wp2_with (go_at_call 82;refine hdc3.mono ?_;rintro e w4 ⟨⟨⟨T,v,rfl⟩,hds⟩|⟨v,rfl⟩,ha4⟩;exact ⟨rfl,.inl ⟨⟨_,_,rfl⟩,by cases hDD:D with|true=>rfl|false=>have:=HFL.out hDD;rw [hds] at this;cases this⟩,HA3.out.trans ha4⟩)
   go_roundw
   case rel=>exact ⟨q+1,by omega,by go_num,HA3.out.trans ha4⟩
   simp only [intOf];exact oK hlq
  have qi:((q:Int)<(NF:Int))=False:=eq_false Kc
  have HAQ:=bf haq
  have hj16:j<=16:=by have h1:=HN.out;have h2:=HJ.out;omega
  clear haq
  go_wp2
  go_roundw
  case rel=>exact ⟨j+1,by have:=HJ.out;omega,by go_num,HAQ.out⟩
  simp only [intOf];exact oK HJ.out
 have ji:=Y54
 have HA:=bf ha
 clear ha
 go_wp2
 go_end0
 exact ⟨.inr rfl,HA.out⟩
end
end Go.Proofs.YtmphmjkinmkidaaGreatDoor
section
set_option maxRecDepth 100000
set_option maxHeartbeats 2000000
namespace Go.Proofs
open Go.RowKit Go.Shelf Go.Lib
namespace YtmphmjkinmkidaaGreatDoor
open Go Go.RowKit Go.Extern.Stop Go.Stop Go.Extern
theorem yO{w:World}{B b:Nat}{acc:List UInt8}(h:Bld w B b acc)(s:ByteArray)(hlen:acc.length<=10000000000000)(hs:s.size<=10000000000000):
  Calls prog 64 #[.pointer (some ⟨b,0,none⟩),.string s] w λe w'=>(∃v,e=.returned v)/\Bld w' B b (acc++s.data.toList)/\Bk B b w w':=by
 have hc:=qX h
 obtain ⟨i0,hi,hz0,hz1,hz2⟩:=info_parts (Tryz.extraAR).infoByte
 clear h
 go_enter func64,ntmps64
 go_wp2_with (first
  |(at_builtin;refine wpList_append_own_stringF _ rfl _ _ 76 9 rfl B 5 i0 underlying76 underlying9 hi hz0 hz1 hz2 (.slice a acc.length c) acc.length (Lib.byteCells acc) rfl c2 s rfl Ki Kc (Nat.le_of_lt (Nat.lt_of_le_of_lt hb1.ge hb1.lt)) ?_;intro v' w2 hrow hg hn;obtain ⟨a',c',rfl⟩:=yX hrow;obtain ⟨k1,k2,k3,k4⟩:=hb1.stored_str c1 hg hrow hn;clear hg hrow hn)
  |(go_at_call 106;refine hc.mono ?_;rintro e w1 ⟨rfl,hb1,hk1⟩;obtain ⟨v,c1,c2,c3⟩:=hb1.c1;obtain ⟨a,c,rfl⟩:=yX c2))
 go_ret2
 exact ⟨⟨_,rfl⟩,k1,hk1.trans k2⟩
theorem GH{w:World}{B b:Nat}{acc:List UInt8}(h:Bld w B b acc)(hlen:acc.length<=10000000000000):
  Calls prog 29 #[.pointer (some ⟨b,0,none⟩)] w λe w'=>e=.returned (.string ⟨acc.toArray⟩)/\w'.os=w.os/\w'.output=w.output/\w.heap.size<=w'.heap.size/\∀i,i<B->w'.heap[i]?=w.heap[i]?:=by
 exact Z14
end YtmphmjkinmkidaaGreatDoor
end Go.Proofs
end
namespace Go.Proofs.YtmphmjkinmkidaaGreatDoor
variable{p:Prop}
section
open Go
variable{M c k:Nat}{j:J}{K:ByteArray}
def Z92(h:p:=by
 exact ⟨by rw [rdy,if_pos Kc,jh];exact ⟨lH (jx hn).2.2.1,trivial⟩,by rw [lU,fP];exact ⟨nm_M hz hM,by simp,trivial⟩,by rw [jQ,ft];omega⟩):p:=h
def Z197(h:p:=by
 rw [jh]
 rw [hd1,List.map_append] at e2
 exact ⟨q1,e2⟩):p:=h
mutual
def rdy:Sch->List ByteArray->Prop
 |.ref _ n,A=>n∈A
 |.mk k n _ _ kids _,A=>if k=9\/k=10\/k=14 then n ∉ A/\jh kids (A++[n]) else jh kids A
def jh:List Sch->List ByteArray->Prop
 |[],_=>True
 |s::r,A=>rdy s A/\jh r (A++(dM s).map Prod.fst)
end
mutual
def lU(M:Nat):Sch->Prop
 |.ref _ n=>n.size<=M
 |.mk _ n ns _ kids _=>n.size<=M/\(∀x∈ns,x.size<=M)/\fP M kids
def fP(M:Nat):List Sch->Prop
 |[]=>True
 |s::r=>lU M s/\fP M r
end
mutual
def jQ:Sch->Nat
 |.ref _ _=>1
 |.mk _ _ _ _ kids _=>1+ft kids
def ft:List Sch->Nat
 |[]=>0
 |s::r=>jQ s+ft r
end
mutual
def J.strs(M:Nat):J->Prop
 |.null=>True
 |.bool _=>True
 |.num _=>True
 |.str s=>s.size<=M
 |.arr l=>bU M l
 |.obj _ vs=>bU M vs
def bU(M:Nat):List J->Prop
 |[]=>True
 |v::r=>v.strs M/\bU M r
end
theorem ui : ∀ {l:List J},bU M l↔∀v∈l,v.strs M
 |[]=>by rw [bU];simp
 |x::r=>by rw [bU,ui (l:=r)];simp
theorem mf{v:J}(h:j.named K=some v)(hs:j.strs M):v.strs M:=by
 obtain ⟨ns,vs,rfl,hf⟩:=mY h
 rw [J.strs] at hs
 exact ui.1 hs v (uK hf)
theorem uH{t:ByteArray}(h:j.textIn K=some t)(hs:j.strs M):t.size<=M:=by
 have:=mf (kX h) hs
 rwa [J.strs] at this
theorem Ia(n sp:ByteArray):(fI n sp).size<=sp.size+1+n.size:=by
 unfold fI
 split
 ·omega
 rw [ByteArray.size_append,ByteArray.size_append]
 have:gC.size=1:=rfl
 omega
theorem FV(n:ByteArray):(gi n).size<=n.size:=by
 unfold gi
 exact Z227
theorem DH{sp sp':ByteArray}(h:iG j sp=some sp')(hs:j.strs M):sp'.size<=max sp.size M:=by
 unfold iG at h
 cases hn:j.named kM with
 |none=>rw [hn] at h;cases h;omega
 |some v=>
  simp only [hn] at h
  cases hv:v.text with
  |none=>exact Z236
  |some t=>
   simp only [hv] at h
   split at h
   ·cases h
    have:=uH (K:=kM) (by unfold J.textIn;rw [hn];exact hv) hs
    omega
   cases h
theorem xG{sp:ByteArray}{E:Env}{n:ByteArray}(h:gp j sp E=some n)(hs:j.strs M):n.size<=max sp.size M+1+M:=by
 unfold gp at h
 cases h1:j.textIn gm with
 |none=>exact Z238
 |some n0=>
  simp only [h1] at h
  split at h
  ·cases h3:iG j sp with
   |none=>exact Z229
   |some sp'=>
    simp only [h3] at h
    cases h4:gK eY j with
    |none=>exact Z230
    |some al=>
     simp only [h4] at h
     split at h
     ·cases h
     split at h
     ·cases h
     split at h
     ·cases h
     cases h
     have e1:=Ia n0 sp'
     have e2:=DH h3 hs
     have e3:=uH h1 hs
     omega
  cases h
theorem ES{least:Nat}{l:List J}(h:j.listIn K least=some l):j.named K=some (.arr l):=by
 unfold J.listIn at h
 cases hn:j.named K with
 |none=>exact Z241
 |some v=>
  rw [hn] at h
  cases v <;> simp [J.list] at h
  rw [h.2]
mutual
theorem AA : ∀s:Sch,lU M s->∀p∈dM s,p.1.size<=M
 |.ref k n,_,p,hp=>by rw [dM] at hp;cases hp
 |.mk k n ns size kids defs,h,p,hp=>by
  rw [lU] at h
  rw [dM,List.mem_append] at hp
  rcases hp with hp|hp
  ·split at hp
   ·rw [List.mem_singleton] at hp;rw [hp];exact h.1
   cases hp
  exact wZ kids h.2.2 p hp
theorem wZ : ∀l:List Sch,fP M l->∀p∈dL l,p.1.size<=M
 |[],_,p,hp=>by rw [dL] at hp;cases hp
 |s::r,h,p,hp=>by
  rw [fP] at h
  rw [dL,List.mem_append] at hp
  rcases hp with hp|hp
  ·exact AA s h.1 p hp
  exact wZ r h.2 p hp
end
def Big(M:Nat)(j:J)(E:Env)(s:Sch):Prop:=rdy s (E.map Prod.fst)/\lU M s/\jQ s<=j.cost
def uV(M:Nat)(E:Env):Prop:=∀p∈E,p.1.size<=M
theorem uV.app{E E':Env}(h:uV M E)(k:∀p∈E',p.1.size<=M):uV M (E++E'):=λp hp=>(List.mem_append.1 hp).elim (h p) (k p)
theorem wY(M:Nat)(good:J->Prop)(rd:J->Env->Option (Sch × Env))(hd:∀j E s E',rd j E=some (s,E')->wW E s E')(hb:∀j E s E',rd j E=some (s,E')->good j->uV M E->Big M j E s):∀(l:List J) (acc:List Sch) (E:Env) (ss:List Sch) (E':Env),fD rd acc l E=some (ss,E')->(∀j∈l,good j)->uV M E->∃new,ss=acc++new/\jh new (E.map Prod.fst)/\fP M new/\ft new<=bC l
 |[],acc,E,ss,E',h,_,_=>by
  rw [fD] at h
  cases h
  exact ⟨[],by simp,by rw [jh];trivial,by rw [fP];trivial,by rw [ft];omega⟩
 |j::r,acc,E,ss,E',h,hg,hE=>by
  rw [fD] at h
  cases hj:rd j E with
  |none=>exact Z239
  |some p=>
   obtain ⟨s,E1⟩:=p
   simp only [hj] at h
   split at h
   ·cases h
   split at h
   ·cases h
   obtain ⟨q1,q2,q3⟩:=hb j E s E1 hj (hg j Kh) hE
   have hd1:=(hd j E s E1 hj).1
   obtain ⟨new,e1,e2,e3,e4⟩:=wY M good rd hd hb r _ E1 ss E' h (λx hx=>hg x Lg) (by rw [hd1];exact hE.app (AA s q2))
   refine ⟨s::new,by rw [e1];simp,?_,by rw [fP];exact ⟨q2,e3⟩,by rw [ft,bC];omega⟩
   exact Z197
theorem vI(M k:Nat)(rd:J->Env->Option (Sch × Env))(hM:65536<=M)(hd:∀j E s E',rd j E=some (s,E')->wW E s E')(hb:∀j E s E',rd j E=some (s,E')->j.within k->j.strs 65536->uV M E->Big M j E s):∀(l:List J) (ns:List ByteArray) (acc:List Sch) (ds:List (Option J)) (E:Env) (fs:List ByteArray) (ss:List Sch) (dd:List (Option J)) (E':Env),eG rd ns acc ds l E=some (fs,ss,dd,E')->(∀j∈l,j.within (k+1)/\j.strs 65536)->(∀x∈ns,x.size<=M)->uV M E->∃new,ss=acc++new/\jh new (E.map Prod.fst)/\fP M new/\ft new<=bC l/\∀x∈fs,x.size<=M
 |[],ns,acc,ds,E,fs,ss,dd,E',h,_,hn,_=>by
  rw [eG] at h
  cases h
  exact ⟨[],by simp,by rw [jh];trivial,by rw [fP];trivial,by rw [ft];omega,hn⟩
 |j::r,ns,acc,ds,E,fs,ss,dd,E',h,hg,hn,hE=>by
  rw [eG] at h
  cases h0:j.textIn gm with
  |none=>exact Z240
  |some n=>
   simp only [h0] at h
   cases h1:gK dJ j with
   |none=>exact Z231
   |some al=>
    simp only [h1] at h
    split at h
    ·cases h3:j.named eW with
     |none=>exact Z229
     |some t=>
      simp only [h3] at h
      cases hj:rd t E with
      |none=>exact Z232
      |some p=>
       obtain ⟨s,E1⟩:=p
       simp only [hj] at h
       split at h
       ·cases h
       have hg1:=hg j Kh
       obtain ⟨k',ek,hwt⟩:=fZ h3 hg1.1
       obtain rfl:k=k':=Kc
       obtain ⟨q1,q2,q3⟩:=hb t E s E1 hj hwt (mf h3 hg1.2) hE
       have hd1:=(hd t E s E1 hj).1
       have hc:=AV h3
       have hsz:=uH h0 hg1.2
       obtain ⟨new,e1,e2,e3,e4,e5⟩:=vI M k rd hM hd hb r _ _ _ E1 fs ss dd E' h (λx hx=>hg x Lg) (λx hx=>by
        rcases List.mem_append.1 hx with hx|hx
        ·exact hn x hx
        rw [List.mem_singleton.1 hx];omega) (by rw [hd1];exact hE.app (AA s q2))
       refine ⟨s::new,by rw [e1];simp,?_,by rw [fP];exact ⟨q2,e3⟩,by rw [ft,bC];omega,e5⟩
       exact Z197
    cases h
theorem vC(M:Nat)(ok:ByteArray->Bool):∀(l:List J) (acc ns:List ByteArray),dQ ok acc l=some ns->bU M l->(∀x∈acc,x.size<=M)->∀x∈ns,x.size<=M
 |[],acc,ns,h,_,ha=>by rw [dQ] at h;cases h;exact ha
 |.str t::r,acc,ns,h,hs,ha=>by
  rw [dQ] at h
  rw [bU,J.strs] at hs
  split at h
  ·exact vC M ok r _ ns h hs.2 (λx hx=>by
    rcases List.mem_append.1 hx with hx|hx
    ·exact ha x hx
    rw [List.mem_singleton.1 hx];exact hs.1)
  cases h
 |.null::r,acc,ns,h,_,_=>by rw [dQ] at h;cases h;simp
 |.bool _::r,acc,ns,h,_,_=>by rw [dQ] at h;cases h;simp
 |.num _::r,acc,ns,h,_,_=>by rw [dQ] at h;cases h;simp
 |.arr _::r,acc,ns,h,_,_=>by rw [dQ] at h;cases h;simp
 |.obj _ _::r,acc,ns,h,_,_=>by rw [dQ] at h;cases h;simp
theorem EN{k2:Nat}(e:k=k2+1)(h:max c 65536+65537*(k+1)<=M):max c 65536+65537*(k2+1)<=M:=by
 subst e
 exact NM (Nat.add_le_add_left (Nat.mul_le_mul_left _ Kc) _) h
theorem le_M(h:max c 65536+65537*(k+1)<=M):65536<=M:=NM (NM (Nat.le_max_right c 65536) (Nat.le_add_right _ _)) h
theorem nm_M{n:Nat}(h1:n<=max c 65536+1+65536)(h:max c 65536+65537*(k+1)<=M):n<=M:=by
 rw [Nat.mul_add] at h
 generalize 65537*k=X at h
 omega
theorem sp_fld{n s k4:Nat}(e:k=k4+1+1+1)(h1:n<=max c 65536+1+65536)(h2:s<=n)(h:max c 65536+65537*(k+1)<=M):max s 65536+65537*(k4+1)<=M:=by
 subst e
 rw [show k4+1+1+1+1=(k4+1)+3 from rfl,Nat.mul_add] at h
 generalize 65537*(k4+1)=X at h ⊢
 omega
theorem rdS_big(M:Nat):∀(f:Nat) (j:J) (sp:ByteArray) (E:Env) (s:Sch) (E':Env) (k:Nat),rdS f j sp E=some (s,E')->j.within k->j.strs 65536->uV M E->max sp.size 65536+65537*(k+1)<=M->Big M j E s:=by
 intro f
 induction f with
 |zero=>intro j sp E s E' k h;rw [rdS] at h;cases h
 |succ f ih=>
  intro j sp E s E' k h hw hs hE hM
  have hpr:∀t,eP t≠0->1<=j.cost->Big M j E (lQ (eP t)):=by
   intro t ht hc
   obtain ⟨h1,h2,_⟩:=iB ht
   unfold lQ
   exact ⟨by rw [rdy,if_neg Kc,jh];trivial,by rw [lU,fP];exact ⟨NQ _,by simp,trivial⟩,by rw [jQ,ft];omega⟩
  have hof:∀(k':Nat) (key:ByteArray),ofS (rdS f) k' key j sp E=some (s,E')->(k'=11\/k'=12)->Big M j E s:=by
   intro k' key h hk
   obtain ⟨v,x,hn,hr,rfl⟩:=mg h
   obtain ⟨k2,ek,hwv⟩:=fZ hn hw
   obtain ⟨q1,q2,q3⟩:=ih v sp E x E' k2 hr hwv (mf hn hs) hE (EN ek hM)
   have hc:=AV hn
   exact ⟨by rw [rdy,if_neg Kc,jh,jh];exact ⟨q1,trivial⟩,by rw [lU,fP,fP];exact ⟨NQ _,by simp,q2,trivial⟩,by rw [jQ,ft,ft];omega⟩
  cases j with
  |null=>exact Z219
  |bool b=>exact Z219
  |num n=>exact Z219
  |str t=>
   rw [lW] at h
   have hc:1<=(J.str t).cost:=by rw [J.cost];unfold kN;omega
   obtain ⟨rfl,⟨h1,rfl⟩|⟨h1,k',hk,rfl⟩⟩:=jO h
   ·exact hpr t h1 hc
   have hm:=lg hk
   exact ⟨by rw [rdy];exact List.mem_map_of_mem hm,by rw [lU];exact hE _ hm,by rw [jQ];exact hc⟩
  |arr l=>
   rw [nz] at h
   obtain ⟨ss,h1,h2,hu,rfl⟩:=jL h
   cases k with
   |zero=>exact Z224
   |succ k=>
    rw [J.within] at hw
    rw [J.strs] at hs
    obtain ⟨new,e1,e2,e3,e4⟩:=wY M (λj=>j.within k/\j.strs 65536) _ (λj E s E' h=>xY f j sp E s E' h) (λj E s E' h hg hE=>ih j sp E s E' k h hg.1 hg.2 hE (EN rfl hM)) l [] E ss E' hu (λj hj=>⟨jF.1 hw j hj,ui.1 hs j hj⟩) hE
    rw [List.nil_append] at e1
    subst e1
    exact ⟨by rw [rdy,if_neg Kc];exact e2,by rw [lU];exact ⟨NQ _,by simp,e3⟩,by rw [jQ,J.cost];omega⟩
  |obj ns vs=>
   rw [jZ] at h
   obtain ⟨w,hwt,h⟩:=lX h
   have hct:=AV (kX hwt)
   rcases h with ⟨h1,rfl,rfl⟩|⟨_,h⟩|⟨_,h⟩|⟨_,h⟩|⟨_,h⟩|⟨_,h⟩
   ·exact hpr w h1 Kc
   ·exact hof 11 jm h (.inl rfl)
   ·exact hof 12 ig h (.inr rfl)
   ·obtain ⟨n,l,fs,ss,ds,hn,hl,hf,rfl⟩:=jN h
    have hz:=xG hn hs
    have hln:=ES hl
    obtain ⟨k2,ek,hwl⟩:=fZ hln hw
    have hcl:=AV hln
    have hsl:=mf hln hs
    rw [J.strs] at hsl
    rw [J.cost] at hcl
    cases k2 with
    |zero=>rw [J.within] at hwl;exact hwl.elim
    |succ k3=>
     rw [J.within] at hwl
     cases k3 with
     |zero=>
      cases l with
      |nil=>
       rw [eG] at hf
       cases hf
       exact Z92
      |cons x r=>
       rw [eG] at hf
       have hx:=jF.1 hwl x Kh
       exfalso
       cases x with
       |obj a b=>rw [J.within] at hx;exact hx
       |_=>simp [J.textIn,J.named] at hf
     |succ k4=>
      have hsp:=FV n
      obtain ⟨new,e1,e2,e3,e4,e5⟩:=vI M k4 _ (le_M hM) (λj E s E' h=>xY f j (gi n) E s E' h) (λj E s E' h hg hg2 hE=>ih j (gi n) E s E' k4 h hg hg2 hE (sp_fld ek hz hsp hM)) l [] [] [] _ fs ss ds E' hf (λj hj=>⟨jF.1 hwl j hj,ui.1 hsl j hj⟩) Kh (hE.app (λp hp=>by rw [List.mem_singleton.1 hp];exact nm_M hz hM))
      rw [List.nil_append] at e1
      subst e1
      refine ⟨?_,by rw [lU];exact ⟨nm_M hz hM,e5,e3⟩,by rw [jQ];omega⟩
      rw [rdy,if_pos Kc]
      rw [List.map_append] at e2
      exact ⟨lH (jx hn).2.2.1,e2⟩
   ·obtain ⟨n,l,sy,hn,hl,hsy,rfl,rfl⟩:=kU h
    have hz:=xG hn hs
    have hsl:=mf (ES hl) hs
    rw [J.strs] at hsl
    have hle:=vC 65536 _ l [] sy hsy hsl Kh
    exact ⟨by rw [rdy,if_pos Kc,jh];exact ⟨lH (jx hn).2.2.1,trivial⟩,by rw [lU,fP];exact ⟨nm_M hz hM,λx hx=>NM (hle x hx) (le_M hM),trivial⟩,by rw [jQ,ft];omega⟩
   obtain ⟨n,z,hn,_,hz0,hz1,rfl,rfl⟩:=kF h
   have hz:=xG hn hs
   exact Z92
end
section
open Go
def Z157(h:p:=by
 simp only [List.length_append,uz,jo,List.length_cons,List.length_nil]
 omega):p:=h
def Z174(h:p:=by
 simp only [List.length_append,List.length_cons,List.length_nil]
 omega):p:=h
def jo:List UInt8:=[123,34,110,97,109,101,34,58]
def Cm:List UInt8:=[44,34,116,121,112,101,34,58]
theorem ma(l:List UInt8):(bs l).data.toList=l:=by unfold bs;simp
theorem CW(k:Nat)(n:ByteArray):jB (jOf (.ref k n))=qB n:=by rw [jOf,jB]
theorem jB_11(n:ByteArray)(ns:List ByteArray)(size:Nat)(x:Sch)(ds:List (Option J)):jB (jOf (.mk 11 n ns size [x] ds))=[123,34,116,121,112,101,34,58,34,97,114,114,97,121,34,44,34,105,116,101,109,115,34,58]++(jB (jOf x)++[125]):=by
 simp [jOf,jI,jB,jBo,qB,eW,jm,lK,ma]
theorem jB_12(n:ByteArray)(ns:List ByteArray)(size:Nat)(x:Sch)(ds:List (Option J)):jB (jOf (.mk 12 n ns size [x] ds))=[123,34,116,121,112,101,34,58,34,109,97,112,34,44,34,118,97,108,117,101,115,34,58]++(jB (jOf x)++[125]):=by
 simp [jOf,jI,jB,jBo,qB,eW,ig,wh,ma]
theorem jB_13(n:ByteArray)(ns:List ByteArray)(size:Nat)(kids:List Sch)(ds:List (Option J)):jB (jOf (.mk 13 n ns size kids ds))=[91]++(jBs true (jI kids)++[93]):=by
 simp [jOf,jB]
theorem GA(n:ByteArray)(ns:List ByteArray)(size:Nat)(kids:List Sch)(ds:List (Option J)):jB (jOf (.mk 9 n ns size kids ds))=jo++(qB n++([44,34,116,121,112,101,34,58,34,114,101,99,111,114,100,34,44,34,102,105,101,108,100,115,34,58,91]++(jBs true (dW ns kids)++[93,125]))):=by
 simp [jOf,jB,jBo,qB,eW,gm,kg,kI,ma,jo]
theorem zl(n:ByteArray)(ns:List ByteArray)(size:Nat)(kids:List Sch)(ds:List (Option J)):jB (jOf (.mk 10 n ns size kids ds))=jo++(qB n++([44,34,116,121,112,101,34,58,34,101,110,117,109,34,44,34,115,121,109,98,111,108,115,34,58,91]++(jBs true (ns.map .str)++[93,125]))):=by
 simp [jOf,jB,jBo,qB,eW,gm,iY,oU,ma,jo]
theorem El(n:ByteArray)(ns:List ByteArray)(size:Nat)(kids:List Sch)(ds:List (Option J)):jB (jOf (.mk 14 n ns size kids ds))=jo++(qB n++([44,34,116,121,112,101,34,58,34,102,105,120,101,100,34,44,34,115,105,122,101,34,58]++(Lib.itoa (size:Int)++[125]))):=by
 simp [jOf,jB,jBo,qB,eW,gm,oL,mQ,ma,jo]
theorem Fh(k:Nat)(n:ByteArray)(ns:List ByteArray)(size:Nat)(kids:List Sch)(ds:List (Option J))(h:k<=8):jB (jOf (.mk k n ns size kids ds))=qB (kC.getD (k-1) ByteArray.empty):=by
 rw [jOf,if_neg Kc,if_neg Kc,if_neg Kc,if_neg Kc,if_neg Kc,if_neg Kc,jB]
def fJ(n:ByteArray)(s:Sch):J:=.obj [gm,eW] [.str n,jOf s]
theorem xI(n:ByteArray)(s:Sch):jB (fJ n s)=jo++(qB n++(Cm++(jB (jOf s)++[125]))):=by
 simp [fJ,jB,jBo,qB,eW,gm,ma,jo,Cm]
theorem Et(b:Bool)(v:J):∀l:List J,jBs b (l++[v])=jBs b l++((if b=true/\l=[] then [] else [44])++jB v)
 |[]=>by cases b <;> simp [jBs]
 |x::r=>by
  rw [List.cons_append,jBs,Et false v r,jBs]
  simp
theorem sV(l:List J)(j:Nat)(h:j<l.length):jBs true (l.take (j+1))=jBs true (l.take j)++((if 0<j then [44] else [])++jB l[j]):=by
 rw [List.take_add_one,NP h,Option.toList_some,Et]
 by_cases hj:0<j
 ·rw [if_pos hj,if_neg]
  rintro ⟨_,e⟩
  have:=congrArg List.length e
  rw [List.length_take,List.length_nil] at this
  omega
 obtain rfl:j=0:=Kc
 simp
theorem uz(n:ByteArray):(qB n).length=n.size+2:=by
 unfold qB
 simp
theorem CO(l:List J):(jBs true l).length<=lJ l:=by
 have h:=wu l
 rw [jB] at h
 simp at h
 cases l with
 |nil=>rw [jBs];exact NQ _
 |cons v r=>rw [lJ] at h ⊢;omega
theorem zJ{M:Nat} : ∀ns:List ByteArray,(∀x∈ns,x.size<=M)->lJ (ns.map .str)<=ns.length*(M+3)
 |[],_=>by simp [lJ]
 |n::r,h=>by
  have:=zJ r λx hx=>h x Lg
  have h1:=h n Kh
  rw [List.map_cons,lJ,jB,uz,List.length_cons,Nat.add_mul]
  omega
mutual
theorem zZ{M:Nat} : ∀s:Sch,shp s->lU M s->(jB (jOf s)).length<=jQ s*(14*(M+64))
 |.ref k n,_,h=>by
  rw [lU] at h
  rw [CW,uz,jQ]
  omega
 |.mk k n ns size kids ds,hs,h=>by
  rw [lU] at h
  rw [shp] at hs
  obtain ⟨hn,hns,hk⟩:=h
  obtain ⟨hsk,hs⟩:=hs
  rw [jQ,Nat.add_mul,Nat.one_mul]
  rcases hs with ⟨h1,h2,_⟩|⟨rfl,h⟩|⟨rfl,h⟩|⟨rfl,h⟩|⟨h11,h⟩|⟨rfl,h⟩
  ·rw [Fh k n ns size kids ds h2,uz]
   have:∀k,k<=8->(kC.getD (k-1) ByteArray.empty).size<=7:=Ke
   have:=this k h2
   omega
  ·have h9:=Fj kids ns hsk hk hns
   have h8:=CO (dW ns kids)
   have h7:kids.length*(M+40)<=12*(M+40):=Nat.mul_le_mul_right _ Kc
   rw [GA]
   exact Z157
  ·have h9:=zJ ns hns
   have h8:=CO (ns.map .str)
   have h7:ns.length*(M+3)<=12*(M+3):=Nat.mul_le_mul_right _ Kc
   rw [zl]
   exact Z157
  ·have h9:=Cy size h.2.2.2.1
   rw [El]
   simp only [List.length_append,uz,jo,List.length_cons,List.length_nil]
   split at h9 <;> omega
  ·obtain ⟨x,rfl⟩:∃x,kids=[x]:=by
    match kids,h.1 with
    |[x],_=>exact ⟨x,rfl⟩
   rw [gH] at hsk
   rw [fP] at hk
   have h9:=zZ x hsk.1 hk.1
   simp only [ft,Nat.add_zero]
   rcases h11 with rfl|rfl
   ·rw [jB_11]
    exact Z174
   rw [jB_12]
   exact Z174
  have h9:=zt kids hsk hk
  have h8:=CO (jI kids)
  rw [jB_13]
  exact Z174
theorem zt{M:Nat} : ∀l:List Sch,gH l->fP M l->lJ (jI l)<=l.length+ft l*(14*(M+64))
 |[],_,_=>by rw [jI,lJ];omega
 |s::r,hs,h=>by
  rw [gH] at hs
  rw [fP] at h
  have h1:=zZ s hs.1 h.1
  have h2:=zt r hs.2 h.2
  rw [jI,lJ,ft,Nat.add_mul,List.length_cons]
  omega
theorem Fj{M:Nat} : ∀(l:List Sch) (ns:List ByteArray),gH l->fP M l->(∀x∈ns,x.size<=M)->lJ (dW ns l)<=l.length*(M+40)+ft l*(14*(M+64))
 |[],ns,_,_,_=>by rw [dW,lJ];omega
 |s::r,ns,hs,h,hn=>by
  rw [gH] at hs
  rw [fP] at h
  have h1:=zZ s hs.1 h.1
  have h2:=Fj r ns.tail hs.2 h.2 (λx hx=>hn x (List.mem_of_mem_tail hx))
  have h3:(ns.headD ByteArray.empty).size<=M:=by
   cases ns with
   |nil=>exact NQ _
   |cons x t=>exact hn x Kh
  have e:(jB (.obj [gm,eW] [.str (ns.headD ByteArray.empty),jOf s])).length=(qB (ns.headD ByteArray.empty)).length+(jB (jOf s)).length+17:=by
   have:=xI (ns.headD ByteArray.empty) s
   unfold fJ at this
   rw [this]
   simp [jo,Cm]
   omega
  rw [dW,lJ,e,uz,ft,Nat.add_mul,List.length_cons,Nat.add_mul]
  omega
end
end
end Go.Proofs.YtmphmjkinmkidaaGreatDoor
