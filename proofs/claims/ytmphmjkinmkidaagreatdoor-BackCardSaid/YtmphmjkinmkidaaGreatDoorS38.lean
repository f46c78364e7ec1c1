import Derived.Test.YtmphmjkinmkidaaGreatDoorS37
set_option linter.defProp false
open Go.Proofs.Tryz
set_option maxRecDepth 8000
set_option maxHeartbeats 16000000
open Go Go.RowKit Go.Extern.Stop Go.Stop Go.Extern
namespace Go.Proofs.YtmphmjkinmkidaaGreatDoor
variable{p:Prop}
section
def Y190(h:p:=by exact (ae w (.cells #[.int .i64 0,.int .i64 0,.int .u64 0,.string ⟨#[]⟩,.slice none 0 0,.slice none 0 0] 42 (0,0)))):p:=h
def Y191(h:p:=by exact (hD5.at8 (jw _ (w.heap.size+1) 2 (.int .u64 (gG u.data.toList:Int))) Kz)):p:=h
def Y192(h:p:=by exact (hD5.at8 (jw _ (w.heap.size+1) 3 (.string u)) Kz)):p:=h
def Y193(h:p:=by exact (HDD5.out.at8 (jw _ (w.heap.size+1) 5 (.slice ka5 xs.length kc5)) Kz)):p:=h
def Y194(h:p:=by exact (λwz (h:(∀i,i≠w.heap.size->wz.heap[i]?=(w5.setCell ⟨w.heap.size+1,5,none⟩ (.slice ka5 xs.length kc5)).heap[i]?)/\wz.heap.size=(w5.setCell ⟨w.heap.size+1,5,none⟩ (.slice ka5 xs.length kc5)).heap.size)=>aP (ok':=λb=>w.heap.size<=b) (λb (hb:w4.heap.size<=b) _=>LJ) _ _ (aN (w:=w5) (w':=wz) ⟨(by rw [h.2];simp),λi (hi:w4.heap.size<=i) _=>(h.1 i LJ).trans (NZ _ _ _ _ (by show i≠w.heap.size+1;have:=HS4.out;omega))⟩ _ _ HL5.out))):p:=h
def Z23(h:p:=by
 clear x0 x1 x2 x3 x4 x5 xz1 xz2 xz3 xz4 xz5 h0
 clear hz
 generalize gG u.data.toList=ub at *
 exact Z249):p:=h
def Z24(h:p:=by
 clear x0 x1 x2 x3 x4 x5 xz1 xz2 xz3 xz4 xz5 h0
 exact Z249):p:=h
def Z26(h:p:=by
 have hG4:=gen4 hDI HL9
 exact Z270):p:=h
def Z159(h:p:=by
 exact ⟨hu,.inr ⟨_,_,_,_,HO9.out,rfl,HL9.out wz hke,HD9.out.at8 hke HRB.out⟩⟩):p:=h
def Z249(h:p:=by
 have hG4:=gen4 hDI HL9
 exact Z270):p:=h
def Z270(h:p:=by
 clear hDI HL9
 obtain ⟨k9,n9,b9,t9,hDI,HL9⟩:=hG4
 obtain ⟨x0,x1,x2,x3,x4,x5,xz⟩:=dF hDI.d9
 obtain ⟨y0,y1,y2,y3,y4,y5,yz⟩:=dF hDI.d8
 have yz0:=yz 0
 have yz1:=yz 1
 have yz2:=yz 2
 have yz3:=yz 3
 have yz4:=yz 4
 have yz5:=yz 5
 have HDI:=bf hDI
 clear hDI xz yz
 go_wp2
 have hP:=HDI.out.done (v0:=(.int .i64 k9)) (v1:=(.int .i64 n9)) (v2:=(.int .u64 (b9:Int))) (v3:=(.string t9)) (v4:=(.slice none 0 0)) (v5:=(.slice none 0 0))
 unfold dV at hP
 generalize ((((((wx.setCell ⟨w.heap.size,0,none⟩ (.int .i64 k9)).setCell ⟨w.heap.size,1,none⟩ (.int .i64 n9)).setCell ⟨w.heap.size,2,none⟩ (.int .u64 (b9:Int))).setCell ⟨w.heap.size,3,none⟩ (.string t9)).setCell ⟨w.heap.size,4,none⟩ (.slice none 0 0)).setCell ⟨w.heap.size,5,none⟩ (.slice none 0 0))=wz at hP ⊢
 obtain ⟨hu,hb,hke⟩:=hP
 obtain ⟨r0,r1,r2,r3,r4,r5,rz⟩:=dF hb
 refine bodyPost_ret (v:=.agg #[.int .i64 k9,.int .i64 n9,.int .u64 (b9:Int),.string t9,.slice none 0 0,.slice none 0 0]) KA rfl ?_
 exact ⟨hu,.inr ⟨_,_,_,_,HO9.out,rfl,HL9.out wz hke,HD9.out.at8 hke HRB.out⟩⟩):p:=h
structure DatJ(rb:Nat)(w wx:World)(B8 B9:Nat)(k n:Int)(b:Nat)(t:ByteArray)(na ka:Option Addr)(nl nc kl kc:Nat):Prop where
 d9:wx.heap[B9]?=some (.cells (dcs k n b t na ka nl nc kl kc).toArray 42 (0,0))
 d8:wx.heap[B8]?=some (.cells #[.int .i64 0,.int .i64 0,.int .u64 0,.string ⟨#[]⟩,.slice none 0 0,.slice none 0 0] 42 (0,0))
 upd:Upd rb w wx
 lt:rb<w.heap.size
 l8:w.heap.size<=B8
 l9:w.heap.size<=B9
 ne:B8≠B9
section
variable {rb:Nat} {w wx:World} {B8 B9:Nat} {k n:Int} {b:Nat} {t:ByteArray} {na ka:Option Addr} {nl nc kl kc:Nat}
theorem DatJ.up(h:DatJ rb w wx B8 B9 k n b t na ka nl nc kl kc){w':World}(u:Upd rb wx w'):DatJ rb w w' B8 B9 k n b t na ka nl nc kl kc:=by
 have h1:=h.lt;have h2:=h.l8;have h3:=h.l9
 exact ⟨(u.old _ (Oh h.d9).1 Kc).trans h.d9,(u.old _ (Oh h.d8).1 Kc).trans h.d8,h.upd.trans u,h1,h2,h3,h.ne⟩
theorem DatJ.set(h:DatJ rb w wx B8 B9 k n b t na ka nl nc kl kc)(o:Nat)(v:Value){k' n':Int}{b':Nat}{t':ByteArray}{na' ka':Option Addr}{nl' nc' kl' kc':Nat}(e:(wx.setCell ⟨B9,o,none⟩ v).heap[B9]?=some (.cells (dcs k' n' b' t' na' ka' nl' nc' kl' kc').toArray 42 (0,0))):DatJ rb w (wx.setCell ⟨B9,o,none⟩ v) B8 B9 k' n' b' t' na' ka' nl' nc' kl' kc':=by
 have h1:=h.lt;have h2:=h.l8;have h3:=h.l9
 exact ⟨e,(NZ _ _ _ _ (by exact h.ne)).trans h.d8,⟨h.upd.os,h.upd.output,by simpa using h.upd.size,λi hi hn=>(NZ _ _ _ _ (by show i≠B9;omega)).trans (h.upd.old i hi hn)⟩,h1,h2,h3,h.ne⟩
theorem DatJ.set1(h:DatJ rb w wx B8 B9 k n b t na ka nl nc kl kc)(x:Int):DatJ rb w (wx.setCell ⟨B9,1,none⟩ (.int .i64 x)) B8 B9 k x b t na ka nl nc kl kc:=h.set 1 _ (dG h.d9 1 _)
theorem DatJ.set2(h:DatJ rb w wx B8 B9 k n b t na ka nl nc kl kc)(x:Nat):DatJ rb w (wx.setCell ⟨B9,2,none⟩ (.int .u64 (x:Int))) B8 B9 k n x t na ka nl nc kl kc:=h.set 2 _ (dG h.d9 2 _)
theorem DatJ.set3(h:DatJ rb w wx B8 B9 k n b t na ka nl nc kl kc)(x:ByteArray):DatJ rb w (wx.setCell ⟨B9,3,none⟩ (.string x)) B8 B9 k n b x na ka nl nc kl kc:=h.set 3 _ (dG h.d9 3 _)
theorem DatJ.set4(h:DatJ rb w wx B8 B9 k n b t na ka nl nc kl kc)(x:Option Addr)(y z:Nat):DatJ rb w (wx.setCell ⟨B9,4,none⟩ (.slice x y z)) B8 B9 k n b t x ka y z kl kc:=h.set 4 _ (dG h.d9 4 _)
theorem DatJ.set5(h:DatJ rb w wx B8 B9 k n b t na ka nl nc kl kc)(x:Option Addr)(y z:Nat):DatJ rb w (wx.setCell ⟨B9,5,none⟩ (.slice x y z)) B8 B9 k n b t na x nl nc y z:=h.set 5 _ (dG h.d9 5 _)
theorem DatJ.done(h:DatJ rb w wx B8 B9 k n b t na ka nl nc kl kc){v0 v1 v2 v3 v4 v5:Value} : Upd rb w (dV wx B8 v0 v1 v2 v3 v4 v5)/\(dV wx B8 v0 v1 v2 v3 v4 v5).heap[B8]?=some (.cells #[v0,v1,v2,v3,v4,v5] 42 (0,0))/\(∀i,i≠B8->(dV wx B8 v0 v1 v2 v3 v4 v5).heap[i]?=wx.heap[i]?)/\(dV wx B8 v0 v1 v2 v3 v4 v5).heap.size=wx.heap.size:=
 ⟨iH h.upd h.l8 _ _ _ _ _ _,fF h.d8 _ _ _ _ _ _,λi hi=>dI wx B8 v0 v1 v2 v3 v4 v5 i hi,dP wx B8 v0 v1 v2 v3 v4 v5⟩
end
theorem gen4{rb:Nat}{w wx:World}{B8 B9:Nat}{k n:Int}{b:Nat}{t:ByteArray}{x:Dat}{ok:Nat->Prop}(h:DatJ rb w wx B8 B9 k n b t none none 0 0 0 0)(g:Hid (∀wz:World,(∀i,i≠B8->wz.heap[i]?=wx.heap[i]?)/\wz.heap.size=wx.heap.size->x.liesO ok wz (dcs k n b t none none 0 0 0 0))):∃(k9 n9:Int) (b9:Nat) (t9:ByteArray),DatJ rb w wx B8 B9 k9 n9 b9 t9 none none 0 0 0 0/\Hid (∀wz:World,(∀i,i≠B8->wz.heap[i]?=wx.heap[i]?)/\wz.heap.size=wx.heap.size->x.liesO ok wz (dcs k9 n9 b9 t9 none none 0 0 0 0)):=⟨_,_,_,_,h,g⟩
theorem Dcd.at8{W wx wz:World}{tab:List TNode}{pl:Nat->Nat}{rb B8:Nat}{t:ByteArray}{s r d m:Value}{i l:Nat}(h:Dcd W wx tab pl rb t s r d m i l)(hke:(∀i,i≠B8->wz.heap[i]?=wx.heap[i]?)/\wz.heap.size=wx.heap.size)(h8:rb<B8):Dcd W wz tab pl rb t s r d m i l:=by
 have hn:=h.new
 exact ⟨h.lay,h.err,h.tabs,h.ng,⟨by rw [hke.2];exact h.old.size,λi hi=>(hke.1 i Kc).trans (h.old.old i hi)⟩,h.new,h.rdr.carry (hke.1 rb Kc),h.le,h.sz,h.lb⟩
theorem jw(wx:World)(B o:Nat)(v:Value):(∀i,i≠B->(wx.setCell ⟨B,o,none⟩ v).heap[i]?=wx.heap[i]?)/\(wx.setCell ⟨B,o,none⟩ v).heap.size=wx.heap.size:=⟨λi hi=>NZ _ _ _ _ NG,by simp⟩
theorem jg(ok:Nat->Prop)(w:World)(k n:Int)(b:Nat)(t:ByteArray)(hk:1<=k/\k<=14)(hn : -9223372036854775808<=n/\n<=9223372036854775807)(hb:b<18446744073709551616):(Dat.mk k n b t [] []).liesO ok w (dcs k n b t none none 0 0 0 0):=by
 rw [Dat.liesO]
 exact ⟨none,0,none,0,rfl,by omega,hn,hb,.inl rfl,by rw [aJ];trivial⟩
theorem zK{B:Nat}{ok:Nat->Prop}{wx:World}{v:Value}{ds:List Dat}{cells:List Value}(h:KidD B wx v ds cells)(k n:Int)(b:Nat)(t:ByteArray)(hk:1<=k/\k<=14)(hn : -9223372036854775808<=n/\n<=9223372036854775807)(hb:b<18446744073709551616)(hok:∀b,B<=b->ok b):∃a c,v=.slice a ds.length c/\(Dat.mk k n b t [] ds).liesO ok wx (dcs k n b t none a 0 0 ds.length c):=by
 obtain ⟨a,c,e,hl⟩:=Dat.row_lieAll (ok:=ok) h.row (aw (λb hb _=>hok b hb.1) _ _ h.lie) (λi hi=>hok i (h.own i hi))
 refine ⟨a,c,e,?_⟩
 rw [Dat.liesO]
 exact ⟨none,0,a,c,rfl,by omega,hn,hb,.inl rfl,hl⟩
theorem Il{t u:ByteArray}{i j:Nat}(h:lrd t i=.ok u j)(hi:i<=t.size):j<=t.size:=by
 unfold lrd at h
 cases hv:vrd t 10 0 i 0 with
 |ok z k=>
  rw [hv] at h
  have hb:=Ad t 10 0 i 0 z k hv hi
  simp only at h
  split at h
  ·cases h
  split at h
  ·cases h
  cases h
  omega
 |short=>exact Z242
 |range=>exact Z242
theorem CS{t u:ByteArray}{i j:Nat}(h:urd t i=.ok u j)(hi:i<=t.size):j<=t.size:=by
 unfold urd at h
 cases hv:lrd t i with
 |ok v k=>
  rw [hv] at h
  simp only at h
  split at h
  ·cases h
   exact Il hv hi
  cases h
 |short=>exact Z242
 |range=>exact Z242
theorem IE{u:ByteArray}(h:u.size=1):∃b,u=⟨#[b]⟩:=by
 obtain ⟨⟨l⟩⟩:=u
 match l,h with
 |[b],_=>exact ⟨b,rfl⟩
theorem bool_no{n:Nat}(h:gq (n:Int) 2=false):¬ n<2:=by
 unfold gq at h
 simp at h
 omega
theorem Hw{n:Nat}(h:gq (n:Int) 2=true):n<2:=by
 unfold gq at h
 simp at h
 omega
def MapOk(tab:List TNode)(pl:Nat->Nat)(t:ByteArray)(dep:Int)(g:Nat->Nat->Nat->DR):Prop:=∀(id:Nat) (hid:id<tab.length) (W w:World) (rb:Nat) (s r d m:Value) (i l:Nat),tab[id].kind=12->Dcd W w tab pl rb t s r d m i l ->
 Calls prog 97 #[.pointer (some ⟨rb,0,none⟩),.pointer (some ⟨pl id,0,none⟩),.int .i64 dep] w λe w'=>Upd rb w w'/\((pg s r d m e/\eB t (jS t g tab[id].item) 1001 ([],[]) i l=none)\/∃ns ks j l2 na nc ka kc,eB t (jS t g tab[id].item) 1001 ([],[]) i l=some ((ns,ks),j,l2)/\e=.returned (.tuple #[.slice na ns.length nc,.slice ka ks.length kc])/\iK (λb=>w.heap.size<=b) w' na ns/\aJ (λb=>w.heap.size<=b) w' ka 0 ks/\Dcd W w' tab pl rb t s r d m j l2)
theorem FD{tab:List TNode}{pl:Nat->Nat}{t:ByteArray}{dep:Nat}{g:Nat->Nat->Nat->DR}(hdep:dep<=64)(hg:uj tab pl t ((dep:Int)+1) g)(hgl:∀id i l x j l',l<=1000->i<=t.size->g id i l=some (x,j,l')->l<=l')(hmp:MapOk tab pl t ((dep:Int)+1) g):uj tab pl t (dep:Int) (λid i l=>match tab[id]? with|none=>none|some n=>iZ t g n i l):=by
 intro id W w rb s r d m i l hid hD
 have hT:=hD.lay.lies id hid
 have hkr:=hD.lay.kinds id hid
 simp only [List.getElem?_eq_getElem hid]
 generalize hR:iZ t g tab[id] i l=R
 have HR:=bf hR
 have HT:=bf hT
 have HSZ:=bf (hD.lay.sizes id hid)
 have HBL:=bf (hD.lay.branches id hid)
 have HG:=bf hg
 have HGL:=bf hgl
 have HMP:=bf hmp
 have h0L:=hT.kind
 obtain ⟨kd,hkd⟩:∃kd,tab[id].kind=kd:=⟨_,rfl⟩
 rw [hkd] at h0L hkr
 have HKD:=bf hkd
 have HRB:=bf hD.rdr.lt
 have HD:=bf hD
 obtain ⟨dT,hdT,hdc⟩:=hD.werr.deep
 obtain ⟨rT,hrT,-⟩:=hD.werr.range
 have hdt:∀W',Calls prog 86 #[.bool true,d] W' λe w'=>e=.returned (.tuple #[])/\w'=W':=λW'=>by rw [hdT];exact gN _ _ W'
 have hrt:∀W',Calls prog 86 #[.bool true,r] W' λe w'=>e=.returned (.tuple #[])/\w'=W':=λW'=>by rw [hrT];exact gN _ _ W'
 have hrf:∀W',Calls prog 86 #[.bool false,r] W' λe w'=>e=.panicked (gF r)/\w'=W':=λW'=>by rw [hrT];exact gV _ _ W'
 have hdl:((dep:Int)<=64)=True:=eq_true Kc
 have hd1:=Ca dep hdep
 have hdw:wrap64 ((dep:Int)+1)=(dep:Int)+1:=Kn
 have hal:=Y190
 have hb8:=dD w (.cells #[.int .i64 0,.int .i64 0,.int .u64 0,.string ⟨#[]⟩,.slice none 0 0,.slice none 0 0] 42 (0,0))
 have hs8:=dE w (.cells #[.int .i64 0,.int .i64 0,.int .u64 0,.string ⟨#[]⟩,.slice none 0 0,.slice none 0 0] 42 (0,0))
 have hdc1:=hal.cell hdc
 have h0:=hal.cell ((hD.old.cell hT.lt).trans h0L)
 clear hT hg hgl hmp hD hR hkd hdT hrT hdc h0L
 go_enter func59,ntmps59
 go_upto_region 1 with fail
 generalize w.alloc (.cells #[.int .i64 0,.int .i64 0,.int .u64 0,.string ⟨#[]⟩,.slice none 0 0,.slice none 0 0] 42 (0,0))=w1 at hal hb8 hs8 hdc1 h0 ⊢
 go_upto_region 2 with (go_at_call 86;refine (hdt _).mono ?_;rintro e w2 ⟨rfl,hw2⟩;obtain rfl:w1=w2:=hw2.symm;clear hw2)
 clear hdc1 hdt
 go_upto_region 3 with fail
 have ha9:=ae w1 (.cells #[.int .i64 kd,.int .i64 0,.int .u64 0,.string ⟨#[]⟩,.slice none 0 0,.slice none 0 0] 42 (0,0))
 have hb9:=dD w1 (.cells #[.int .i64 kd,.int .i64 0,.int .u64 0,.string ⟨#[]⟩,.slice none 0 0,.slice none 0 0] 42 (0,0))
 rw [hs8] at hb9
 generalize w1.alloc (.cells #[.int .i64 kd,.int .i64 0,.int .u64 0,.string ⟨#[]⟩,.slice none 0 0,.slice none 0 0] 42 (0,0))=w4 at ha9 hb9 ⊢
 have hD4:=HD.out.add (hal.trans ha9)
 have HJ4:Hid (DatJ rb w w4 w.heap.size (w.heap.size+1) kd 0 0 ⟨#[]⟩ none none 0 0 0 0):=⟨hb9,(ha9.old _ Kc).trans hb8,(hal.trans ha9).upd rb,HRB.out,NL _,Nat.le_succ _,by omega⟩
 have h0':=ha9.cell h0
 have HS4:Hid (w.heap.size+1<w4.heap.size):=(Oh hb9).1
 have HD4:=bf hD4
 clear h0 hb8 hs8 hal ha9 hb9 hdl
 have h0:=h0'
 clear h0'
 rcases (by omega:kd=1\/kd=2\/kd=3\/kd=4\/kd=5\/kd=6\/kd=7\/kd=8\/kd=9\/kd=10\/kd=11\/kd=12\/kd=13\/kd=14) with rfl|rfl|rfl|rfl|rfl|rfl|rfl|rfl|rfl|rfl|rfl|rfl|rfl|rfl
 ·go_upto_region 32 with fail
  have hDI:=HJ4.out
  have HD9x:=HD4.out
  generalize w4=wx at hDI HD9x ⊢
  have HD9:=bf HD9x
  have HO9:Hid (R=some (Dat.mk 1 0 0 ByteArray.empty [] [],i,l)):=(by show _=_;rw [<-HR.out];unfold iZ;simp only [HKD.out];rfl)
  have HL9:Hid (∀wz:World,(∀i,i≠w.heap.size->wz.heap[i]?=wx.heap[i]?)/\wz.heap.size=wx.heap.size->(Dat.mk 1 0 0 ByteArray.empty [] []).liesO (λb=>w.heap.size<=b) wz _):=λwz _=>jg _ wz _ _ _ _ Kc Kc Kc
  clear h0
  exact Z26
 ·have hv:=Aq HD4.out 1
  go_upto_region 32 with (first|(go_at_call 88;refine hv.mono ?_;rintro e w5 ⟨hu5,⟨⟨x,hx,rfl⟩,hz⟩|⟨u,hz,rfl,hu1,hD5⟩⟩;exact ⟨rfl,HJ4.out.upd.trans hu5,.inl ⟨⟨x,hx,rfl⟩,by rw [<-HR.out];unfold iZ;simp only [HKD.out];rw [hz];rfl⟩⟩;obtain ⟨b0,hub⟩:=IE hu1;have hget:∀h,u[0]'h=b0:=(by rw [hub];intro h;rfl);have hx256:b0.toNat<256:=b0.toNat_lt;have hwb:wrap64 (b0.toNat:Int)=(b0.toNat:Int):=Kn;have hpl:=Av hD5 2 (b0.toNat:Int);rw [hub] at hz;have HZ5:=bf hz;clear hub;have HDD5:=bf hD5;have HU5:=bf hu5;obtain ⟨x0,x1,x2,x3,x4,x5,xz⟩:=dF (HJ4.out.up hu5).d9;have xz1:=xz 1;have xz2:=xz 2;have xz3:=xz 3;have xz4:=xz 4;have xz5:=xz 5;have HJ5:=bf (HJ4.out.up hu5);clear xz;clear hz hD5 hu5 hx256)|(go_at_call 87;refine hpl.mono ?_;rintro e w6 ⟨hw6,⟨⟨x,hx,rfl⟩,hpb⟩|⟨hpb,rfl⟩⟩;exact ⟨rfl,by rw [hw6];exact HJ4.out.upd.trans HU5.out,.inl ⟨⟨x,hx,rfl⟩,by rw [<-HR.out];unfold iZ;simp only [HKD.out];rw [HZ5.out];exact if_neg (bool_no hpb)⟩⟩;obtain rfl:w5=w6:=hw6.symm;clear hw6))
  have hb2:b0.toNat<2:=Hw hpb
  have hDI:=HJ5.out.set1 (b0.toNat:Int)
  have HD9x:=HDD5.out.at8 (jw _ (w.heap.size+1) 1 (.int .i64 (b0.toNat:Int))) Kz
  generalize w5.setCell ⟨w.heap.size+1,1,none⟩ (.int .i64 (b0.toNat:Int))=wx at hDI HD9x ⊢
  have HD9:=bf HD9x
  have HO9:Hid (R=some (Dat.mk 2 (b0.toNat:Int) 0 ByteArray.empty [] [],i+1,l)):=(by show _=_;rw [<-HR.out];unfold iZ;simp only [HKD.out];rw [HZ5.out];exact if_pos hb2)
  have HL9:Hid (∀wz:World,(∀i,i≠w.heap.size->wz.heap[i]?=wx.heap[i]?)/\wz.heap.size=wx.heap.size->(Dat.mk 2 (b0.toNat:Int) 0 ByteArray.empty [] []).liesO (λb=>w.heap.size<=b) wz _):=λwz _=>jg _ wz _ _ _ _ Kc Kc Kc
  clear x0 x1 x2 x3 x4 x5 xz1 xz2 xz3 xz4 xz5 h0
  clear hpb hb2
  generalize (b0.toNat:Int)=nb at *
  exact Z26
 ·have hv:=nY HD4.out
  go_upto_region 8 with (go_at_call 89;refine hv.mono ?_;rintro e w5 ⟨hu5,⟨⟨x,hx,rfl⟩,hz⟩|⟨z,j,hz,rfl,hD5,-⟩⟩;exact ⟨rfl,HJ4.out.upd.trans hu5,.inl ⟨⟨x,hx,rfl⟩,by rw [<-HR.out];unfold iZ;simp only [HKD.out];rw [hz];rfl⟩⟩;obtain ⟨x0,x1,x2,x3,x4,x5,xz⟩:=dF (HJ4.out.up hu5).d9;have xz1:=xz 1;have xz2:=xz 2;have xz3:=xz 3;have xz4:=xz 4;have xz5:=xz 5;have HJ5:=bf (HJ4.out.up hu5);clear xz)
  have HVO:=bf (iX hz)
  have hDI:=HJ5.out.set1 z
  have hD6:=hD5.at8 (jw _ (w.heap.size+1) 1 (.int .i64 z)) Kz
  generalize w5.setCell ⟨w.heap.size+1,1,none⟩ (.int .i64 z)=w6 at hDI hD6 ⊢
  clear x0 x1 x2 x3 x4 x5 xz1 xz2 xz3 xz4 xz5 h0
  have c1:=(dF hDI.d9).2.1
  have cr:=hD6.werr.range.choose_spec.2
  have HJ6:=bf hDI
  have HD6:=bf hD6
  have HZ:=bf hz
  clear hDI hD6 hD5 hz hv
  cases hi:Ak z with
  |true=>
   have HIB:=bf hi
   have hint:=λW'=>qo z W'
   rw [hi] at hint
   clear hi
   go_quiet ((first|(go_at_call 90;exact Calls.quiet_of_same (hint _))|(go_at_call 86;exact Calls.quiet_of_same (hrt _))))
   have hA6:Add w6 (w6.drewN nq):=Add.drewN w6 nq
   have hDI:=HJ6.out.up (hA6.upd rb)
   have HD9x:=HD6.out.add hA6
   generalize w6.drewN nq=wx at hDI HD9x ⊢
   have HD9:=bf HD9x
   have HO9:Hid (R=some (Dat.mk 3 z 0 ByteArray.empty [] [],j,l)):=(by show _=_;rw [<-HR.out];unfold iZ;simp only [HKD.out];rw [HZ.out];exact if_pos HIB.out)
   have HL9:Hid (∀wz:World,(∀i,i≠w.heap.size->wz.heap[i]?=wx.heap[i]?)/\wz.heap.size=wx.heap.size->(Dat.mk 3 z 0 ByteArray.empty [] []).liesO (λb=>w.heap.size<=b) wz _):=λwz _=>jg _ wz _ _ _ _ Kc HVO.out.1 Kc
   clear c1 cr hint
   exact Z26
  |false=>
   have HIB:=bf hi
   have hint:=λW'=>qo z W'
   rw [hi] at hint
   clear hi
   refine wp_region_held_drew (S:=(λw'=>w'.cell? ⟨w.heap.size+1,1,none⟩=some (.int .i64 z)/\w'.cell? ⟨21,0,none⟩=some r)) Kf ?_ (λhH=>?_)
   ·exact ⟨c1,cr⟩
   apply tk 0
   apply tk 1
   apply tk 3
   apply rd 2
   intro K hK
   go_simp
   go_wp2_with (go_at_call 90;refine (hint _).mono ?_;rintro e w7 ⟨rfl,rfl⟩)
   refine hK.out _ _ ⟨c1,cr⟩ (λhH=>?_)
   clear hK K
   apply rd 4
   intro K hK
   go_simp
   go_wp2_with (go_at_call 86;refine (hrf _).mono ?_;rintro e w8 ⟨rfl,rfl⟩)
   exact ⟨rfl,HJ6.out.upd.trans ((af w6).upd rb),.inl ⟨⟨_,.inr (.inl rfl),rfl⟩,by rw [<-HR.out];unfold iZ;simp only [HKD.out];rw [HZ.out];simp only [HIB.out];rfl⟩⟩
 ·have hv:=nY HD4.out
  go_upto_region 32 with (go_at_call 89;refine hv.mono ?_;rintro e w5 ⟨hu5,⟨⟨x,hx,rfl⟩,hz⟩|⟨z,j,hz,rfl,hD5,-⟩⟩;exact ⟨rfl,HJ4.out.upd.trans hu5,.inl ⟨⟨x,hx,rfl⟩,by rw [<-HR.out];unfold iZ;simp only [HKD.out];rw [hz];rfl⟩⟩;obtain ⟨x0,x1,x2,x3,x4,x5,xz⟩:=dF (HJ4.out.up hu5).d9;have xz1:=xz 1;have xz2:=xz 2;have xz3:=xz 3;have xz4:=xz 4;have xz5:=xz 5;have HJ5:=bf (HJ4.out.up hu5);clear xz)
  have HVO:=bf (iX hz)
  have hDI:=HJ5.out.set1 z
  have HD9x:=hD5.at8 (jw _ (w.heap.size+1) 1 (.int .i64 z)) Kz
  generalize w5.setCell ⟨w.heap.size+1,1,none⟩ (.int .i64 z)=wx at hDI HD9x ⊢
  have HD9:=bf HD9x
  have HO9:Hid (R=some (Dat.mk 4 z 0 ByteArray.empty [] [],j,l)):=Ku
  have HL9:Hid (∀wz:World,(∀i,i≠w.heap.size->wz.heap[i]?=wx.heap[i]?)/\wz.heap.size=wx.heap.size->(Dat.mk 4 z 0 ByteArray.empty [] []).liesO (λb=>w.heap.size<=b) wz _):=λwz _=>jg _ wz _ _ _ _ Kc HVO.out.1 Kc
  exact Z24
 ·have hv:=low_d HD4.out 4 Ke
  go_upto_region 32 with (go_at_call 91;refine hv.mono ?_;rintro e w5 ⟨hu5,⟨⟨x,hx,rfl⟩,hz⟩|⟨u,hz,rfl,hub,hD5⟩⟩;exact ⟨rfl,HJ4.out.upd.trans hu5,.inl ⟨⟨x,hx,rfl⟩,by rw [<-HR.out];unfold iZ;simp only [HKD.out];rw [hz];rfl⟩⟩;obtain ⟨x0,x1,x2,x3,x4,x5,xz⟩:=dF (HJ4.out.up hu5).d9;have xz1:=xz 1;have xz2:=xz 2;have xz3:=xz 3;have xz4:=xz 4;have xz5:=xz 5;have HJ5:=bf (HJ4.out.up hu5);clear xz)
  have hDI:=HJ5.out.set2 (gG u.data.toList)
  have HD9x:=Y191
  generalize w5.setCell ⟨w.heap.size+1,2,none⟩ (.int .u64 (gG u.data.toList:Int))=wx at hDI HD9x ⊢
  have HD9:=bf HD9x
  have HO9:Hid (R=some (Dat.mk 5 0 (gG u.data.toList) ByteArray.empty [] [],i+4,l)):=Ku
  have HL9:Hid (∀wz:World,(∀i,i≠w.heap.size->wz.heap[i]?=wx.heap[i]?)/\wz.heap.size=wx.heap.size->(Dat.mk 5 0 (gG u.data.toList) ByteArray.empty [] []).liesO (λb=>w.heap.size<=b) wz _):=λwz _=>jg _ wz _ _ _ _ Kc Kc hub
  exact Z23
 ·have hv:=low_d HD4.out 8 Ke
  go_upto_region 32 with (go_at_call 91;refine hv.mono ?_;rintro e w5 ⟨hu5,⟨⟨x,hx,rfl⟩,hz⟩|⟨u,hz,rfl,hub,hD5⟩⟩;exact ⟨rfl,HJ4.out.upd.trans hu5,.inl ⟨⟨x,hx,rfl⟩,by rw [<-HR.out];unfold iZ;simp only [HKD.out];rw [hz];rfl⟩⟩;obtain ⟨x0,x1,x2,x3,x4,x5,xz⟩:=dF (HJ4.out.up hu5).d9;have xz1:=xz 1;have xz2:=xz 2;have xz3:=xz 3;have xz4:=xz 4;have xz5:=xz 5;have HJ5:=bf (HJ4.out.up hu5);clear xz)
  have hDI:=HJ5.out.set2 (gG u.data.toList)
  have HD9x:=Y191
  generalize w5.setCell ⟨w.heap.size+1,2,none⟩ (.int .u64 (gG u.data.toList:Int))=wx at hDI HD9x ⊢
  have HD9:=bf HD9x
  have HO9:Hid (R=some (Dat.mk 6 0 (gG u.data.toList) ByteArray.empty [] [],i+8,l)):=Ku
  have HL9:Hid (∀wz:World,(∀i,i≠w.heap.size->wz.heap[i]?=wx.heap[i]?)/\wz.heap.size=wx.heap.size->(Dat.mk 6 0 (gG u.data.toList) ByteArray.empty [] []).liesO (λb=>w.heap.size<=b) wz _):=λwz _=>jg _ wz _ _ _ _ Kc Kc hub
  exact Z23
 ·have hv:=vP rb HD4.out.rbn t i l s r d m w4 HD4.out.werr HD4.out.rdr HD4.out.le HD4.out.sz
  go_upto_region 32 with (go_at_call 92;refine hv.mono ?_;intro e w5 hv5;obtain ⟨hu5,⟨⟨x,hx,rfl⟩,hz⟩|⟨u,j,hz,rfl,hD5⟩⟩:=Ac HD4.out (λu j h=>(Il h HD4.out.le)) hv5;exact ⟨rfl,HJ4.out.upd.trans hu5,.inl ⟨⟨x,hx,rfl⟩,by rw [<-HR.out];unfold iZ;simp only [HKD.out];rw [hz];rfl⟩⟩;obtain ⟨x0,x1,x2,x3,x4,x5,xz⟩:=dF (HJ4.out.up hu5).d9;have xz1:=xz 1;have xz2:=xz 2;have xz3:=xz 3;have xz4:=xz 4;have xz5:=xz 5;have HJ5:=bf (HJ4.out.up hu5);clear xz;clear hv5)
  have hDI:=HJ5.out.set3 u
  have HD9x:=Y192
  generalize w5.setCell ⟨w.heap.size+1,3,none⟩ (.string u)=wx at hDI HD9x ⊢
  have HD9:=bf HD9x
  have HO9:Hid (R=some (Dat.mk 7 0 0 u [] [],j,l)):=Ku
  have HL9:Hid (∀wz:World,(∀i,i≠w.heap.size->wz.heap[i]?=wx.heap[i]?)/\wz.heap.size=wx.heap.size->(Dat.mk 7 0 0 u [] []).liesO (λb=>w.heap.size<=b) wz _):=λwz _=>jg _ wz _ _ _ _ Kc Kc Kc
  exact Z24
 ·have hv:=vL rb HD4.out.rbn t i l s r d m w4 HD4.out.werr HD4.out.wtabs HD4.out.rdr HD4.out.le HD4.out.sz
  go_upto_region 32 with (go_at_call 93;refine hv.mono ?_;intro e w5 hv5;obtain ⟨hu5,⟨⟨x,hx,rfl⟩,hz⟩|⟨u,j,hz,rfl,hD5⟩⟩:=Ac HD4.out (λu j h=>(CS h HD4.out.le)) hv5;exact ⟨rfl,HJ4.out.upd.trans hu5,.inl ⟨⟨x,hx,rfl⟩,by rw [<-HR.out];unfold iZ;simp only [HKD.out];rw [hz];rfl⟩⟩;obtain ⟨x0,x1,x2,x3,x4,x5,xz⟩:=dF (HJ4.out.up hu5).d9;have xz1:=xz 1;have xz2:=xz 2;have xz3:=xz 3;have xz4:=xz 4;have xz5:=xz 5;have HJ5:=bf (HJ4.out.up hu5);clear xz;clear hv5)
  have hDI:=HJ5.out.set3 u
  have HD9x:=Y192
  generalize w5.setCell ⟨w.heap.size+1,3,none⟩ (.string u)=wx at hDI HD9x ⊢
  have HD9:=bf HD9x
  have HO9:Hid (R=some (Dat.mk 8 0 0 u [] [],j,l)):=Ku
  have HL9:Hid (∀wz:World,(∀i,i≠w.heap.size->wz.heap[i]?=wx.heap[i]?)/\wz.heap.size=wx.heap.size->(Dat.mk 8 0 0 u [] []).liesO (λb=>w.heap.size<=b) wz _):=λwz _=>jg _ wz _ _ _ _ Kc Kc Kc
  exact Z24
 ·have hv:=Dt HG.out id hid HD4.out
  go_upto_region 32 with (go_at_call 95;refine hv.mono ?_;rintro e w5 ⟨hu5,⟨⟨x,hx,rfl⟩,hz⟩|⟨xs,j,l5,v5,cells5,hz,rfl,hK5,hD5⟩⟩;exact ⟨rfl,HJ4.out.upd.trans hu5,.inl ⟨⟨x,hx,rfl⟩,by rw [<-HR.out];unfold iZ;simp only [HKD.out];rw [hz];rfl⟩⟩;obtain ⟨ka5,kc5,rfl,hL5⟩:=zK (ok:=λb=>w4.heap.size<=b) hK5 9 0 0 ByteArray.empty Kc Kc Kc (λb hb=>hb);obtain ⟨x0,x1,x2,x3,x4,x5,xz⟩:=dF (HJ4.out.up hu5).d9;have xz1:=xz 1;have xz2:=xz 2;have xz3:=xz 3;have xz4:=xz 4;have xz5:=xz 5;have HJ5:=bf (HJ4.out.up hu5);clear xz;have HL5:=bf hL5;have HDD5:=bf hD5;have HZ5:=bf hz;clear hL5 hD5 hz hK5)
  have hDI:=HJ5.out.set5 ka5 xs.length kc5
  have HD9x:=Y193
  have hL9:=Y194
  generalize w5.setCell ⟨w.heap.size+1,5,none⟩ (.slice ka5 xs.length kc5)=wx at hDI HD9x hL9 ⊢
  have HD9:=bf HD9x
  have HL9:=bf hL9
  have HO9:Hid (R=some (Dat.mk 9 0 0 ByteArray.empty [] xs,j,l5)):=KL
  clear x0 x1 x2 x3 x4 x5 xz1 xz2 xz3 xz4 xz5 h0 hL9
  obtain ⟨x0,x1,x2,x3,x4,x5,xz⟩:=dF hDI.d9
  obtain ⟨y0,y1,y2,y3,y4,y5,yz⟩:=dF hDI.d8
  have yz0:=yz 0
  have yz1:=yz 1
  have yz2:=yz 2
  have yz3:=yz 3
  have yz4:=yz 4
  have yz5:=yz 5
  have HDI:=bf hDI
  clear hDI xz yz
  go_wp2
  have hP:=HDI.out.done (v0:=(.int .i64 9)) (v1:=(.int .i64 0)) (v2:=(.int .u64 0)) (v3:=(.string ⟨#[]⟩)) (v4:=(.slice none 0 0)) (v5:=(.slice ka5 xs.length kc5))
  unfold dV at hP
  generalize ((((((wx.setCell ⟨w.heap.size,0,none⟩ (.int .i64 9)).setCell ⟨w.heap.size,1,none⟩ (.int .i64 0)).setCell ⟨w.heap.size,2,none⟩ (.int .u64 0)).setCell ⟨w.heap.size,3,none⟩ (.string ⟨#[]⟩)).setCell ⟨w.heap.size,4,none⟩ (.slice none 0 0)).setCell ⟨w.heap.size,5,none⟩ (.slice ka5 xs.length kc5))=wz at hP ⊢
  obtain ⟨hu,hb,hke⟩:=hP
  obtain ⟨r0,r1,r2,r3,r4,r5,rz⟩:=dF hb
  refine bodyPost_ret (v:=.agg #[.int .i64 9,.int .i64 0,.int .u64 0,.string ⟨#[]⟩,.slice none 0 0,.slice ka5 xs.length kc5]) KA rfl ?_
  exact Z159
 ·obtain ⟨sa,sc,hs4,-⟩:=HT.out.symbols
  have q4:=(HD4.out.old.cell HT.out.lt).trans hs4
  obtain ⟨N,hN⟩:∃N,tab[id].symbols.length=N:=⟨_,rfl⟩
  rw [hN] at q4
  have HN:=bf hN
  have hv:=nY (HD4.out.add (af w4))
  have HPR:Hid (pl id≠rb):=LM
  have hne9:pl id≠w.heap.size+1:=Mg
  clear hN hs4
  go_upto_region 22 with fail
  go_region_held_law (λw'=>w'.cell? ⟨pl id,4,none⟩=some (.slice sa N sc)) (first|(with_reducible exact k4)|(with_reducible exact s4)|(with_reducible exact q4)|go_keep) (first|(go_at_call 89;refine hv.mono ?_;rintro e w5 ⟨hu5',⟨⟨x,hx,rfl⟩,hz⟩|⟨z,j,hz,rfl,hD5,-⟩⟩;exact ⟨rfl,HJ4.out.upd.trans (((af w4).upd rb).trans hu5'),.inl ⟨⟨x,hx,rfl⟩,by rw [<-HR.out];unfold iZ;simp only [HKD.out];rw [hz];rfl⟩⟩;have hu5:=((af w4).upd rb).trans hu5';have k4:=hu5.cell HPR.out q4;have hpl:=Av hD5 (N:Int) z;obtain ⟨x0,x1,x2,x3,x4,x5,xz⟩:=dF (HJ4.out.up hu5).d9;have xz1:=xz 1;have xz2:=xz 2;have xz3:=xz 3;have xz4:=xz 4;have xz5:=xz 5;have HJ5:=bf (HJ4.out.up hu5);clear xz;have s4:(w5.setCell ⟨w.heap.size+1,1,none⟩ (.int .i64 z)).cell? ⟨pl id,4,none⟩=some (.slice sa N sc):=(NY (a:=⟨pl id,4,none⟩) (NZ _ _ _ _ (by exact hne9))).trans k4;have HZ5:=bf hz;have HDD5:=bf hD5;have HU5:=bf hu5;clear hz hD5 hu5 hu5')|(go_at_call 87;refine hpl.mono ?_;rintro e w6 ⟨hw6,⟨⟨x,hx,rfl⟩,hpb⟩|⟨hpb,rfl⟩⟩;exact ⟨rfl,by rw [hw6];exact HJ4.out.upd.trans HU5.out,.inl ⟨⟨x,hx,rfl⟩,by rw [<-HR.out];unfold iZ;simp only [HKD.out];rw [HZ5.out];simp only [HN.out,hpb];rfl⟩⟩;obtain rfl:w5=w6:=hw6.symm;have HPB:=bf hpb;clear hw6 hpb))
  have HVO:=bf (iX HZ5.out)
  have hDI:=HJ5.out.set1 z
  have HD9x:=HDD5.out.at8 (jw _ (w.heap.size+1) 1 (.int .i64 z)) Kz
  generalize w5.setCell ⟨w.heap.size+1,1,none⟩ (.int .i64 z)=wx at hDI HD9x ⊢
  have HD9:=bf HD9x
  have HO9:Hid (R=some (Dat.mk 10 z 0 ByteArray.empty [] [],j,l)):=(by show _=_;rw [<-HR.out];unfold iZ;simp only [HKD.out];rw [HZ5.out];simp only [HN.out,HPB.out];rfl)
  have HL9:Hid (∀wz:World,(∀i,i≠w.heap.size->wz.heap[i]?=wx.heap[i]?)/\wz.heap.size=wx.heap.size->(Dat.mk 10 z 0 ByteArray.empty [] []).liesO (λb=>w.heap.size<=b) wz _):=λwz _=>jg _ wz _ _ _ _ Kc HVO.out.1 Kc
  clear x0 x1 x2 x3 x4 x5 xz1 xz2 xz3 xz4 xz5 h0 q4 k4 s4
  exact Z26
 ·have hv:=GG HG.out HGL.out id hid (.inl HKD.out) HD4.out
  go_upto_region 32 with (go_at_call 96;refine hv.mono ?_;rintro e w5 ⟨hu5,⟨⟨x,hx,rfl⟩,hz⟩|⟨xs,j,l5,v5,cells5,hz,rfl,hK5,hD5⟩⟩;exact ⟨rfl,HJ4.out.upd.trans hu5,.inl ⟨⟨x,hx,rfl⟩,by rw [<-HR.out];unfold iZ;simp only [HKD.out];rw [hz];rfl⟩⟩;obtain ⟨ka5,kc5,rfl,hL5⟩:=zK (ok:=λb=>w4.heap.size<=b) hK5 11 0 0 ByteArray.empty Kc Kc Kc (λb hb=>hb);obtain ⟨x0,x1,x2,x3,x4,x5,xz⟩:=dF (HJ4.out.up hu5).d9;have xz1:=xz 1;have xz2:=xz 2;have xz3:=xz 3;have xz4:=xz 4;have xz5:=xz 5;have HJ5:=bf (HJ4.out.up hu5);clear xz;have HL5:=bf hL5;have HDD5:=bf hD5;have HZ5:=bf hz;clear hL5 hD5 hz hK5)
  have hDI:=HJ5.out.set5 ka5 xs.length kc5
  have HD9x:=Y193
  have hL9:=Y194
  generalize w5.setCell ⟨w.heap.size+1,5,none⟩ (.slice ka5 xs.length kc5)=wx at hDI HD9x hL9 ⊢
  have HD9:=bf HD9x
  have HL9:=bf hL9
  have HO9:Hid (R=some (Dat.mk 11 0 0 ByteArray.empty [] xs,j,l5)):=KL
  clear x0 x1 x2 x3 x4 x5 xz1 xz2 xz3 xz4 xz5 h0 hL9
  obtain ⟨x0,x1,x2,x3,x4,x5,xz⟩:=dF hDI.d9
  obtain ⟨y0,y1,y2,y3,y4,y5,yz⟩:=dF hDI.d8
  have yz0:=yz 0
  have yz1:=yz 1
  have yz2:=yz 2
  have yz3:=yz 3
  have yz4:=yz 4
  have yz5:=yz 5
  have HDI:=bf hDI
  clear hDI xz yz
  go_wp2
  have hP:=HDI.out.done (v0:=(.int .i64 11)) (v1:=(.int .i64 0)) (v2:=(.int .u64 0)) (v3:=(.string ⟨#[]⟩)) (v4:=(.slice none 0 0)) (v5:=(.slice ka5 xs.length kc5))
  unfold dV at hP
  generalize ((((((wx.setCell ⟨w.heap.size,0,none⟩ (.int .i64 11)).setCell ⟨w.heap.size,1,none⟩ (.int .i64 0)).setCell ⟨w.heap.size,2,none⟩ (.int .u64 0)).setCell ⟨w.heap.size,3,none⟩ (.string ⟨#[]⟩)).setCell ⟨w.heap.size,4,none⟩ (.slice none 0 0)).setCell ⟨w.heap.size,5,none⟩ (.slice ka5 xs.length kc5))=wz at hP ⊢
  obtain ⟨hu,hb,hke⟩:=hP
  obtain ⟨r0,r1,r2,r3,r4,r5,rz⟩:=dF hb
  refine bodyPost_ret (v:=.agg #[.int .i64 11,.int .i64 0,.int .u64 0,.string ⟨#[]⟩,.slice none 0 0,.slice ka5 xs.length kc5]) KA rfl ?_
  exact Z159
 ·have hv:=HMP.out id hid W w4 rb s r d m i l HKD.out HD4.out
  go_upto_region 32 with (go_at_call 97;refine hv.mono ?_;rintro e w5 ⟨hu5,⟨⟨x,hx,rfl⟩,hz⟩|⟨ns,ks,j,l5,na5,nc5,ka5,kc5,hz,rfl,hN5,hK5,hD5⟩⟩;exact ⟨rfl,HJ4.out.upd.trans hu5,.inl ⟨⟨x,hx,rfl⟩,by rw [<-HR.out];unfold iZ;simp only [HKD.out];rw [hz];rfl⟩⟩;obtain ⟨x0,x1,x2,x3,x4,x5,xz⟩:=dF (HJ4.out.up hu5).d9;have xz1:=xz 1;have xz2:=xz 2;have xz3:=xz 3;have xz4:=xz 4;have xz5:=xz 5;have HJ5:=bf (HJ4.out.up hu5);clear xz;have HN5:=bf hN5;have HK5:=bf hK5;have HDD5:=bf hD5;have HZ5:=bf hz;clear hN5 hK5 hD5 hz)
  have hDI:=(HJ5.out.set4 na5 ns.length nc5).set5 ka5 ks.length kc5
  have HD9x:=(HDD5.out.at8 (jw _ (w.heap.size+1) 4 (.slice na5 ns.length nc5)) Kz).at8 (jw _ (w.heap.size+1) 5 (.slice ka5 ks.length kc5)) Kz
  have hke5:(∀i,i≠w.heap.size+1->((w5.setCell ⟨w.heap.size+1,4,none⟩ (.slice na5 ns.length nc5)).setCell ⟨w.heap.size+1,5,none⟩ (.slice ka5 ks.length kc5)).heap[i]?=w5.heap[i]?)/\((w5.setCell ⟨w.heap.size+1,4,none⟩ (.slice na5 ns.length nc5)).setCell ⟨w.heap.size+1,5,none⟩ (.slice ka5 ks.length kc5)).heap.size=w5.heap.size:=⟨λi hi=>((jw _ _ 5 _).1 i hi).trans ((jw _ _ 4 _).1 i hi),((jw _ _ 5 _).2).trans (jw _ _ 4 _).2⟩
  generalize (w5.setCell ⟨w.heap.size+1,4,none⟩ (.slice na5 ns.length nc5)).setCell ⟨w.heap.size+1,5,none⟩ (.slice ka5 ks.length kc5)=wx at hDI HD9x hke5 ⊢
  have HD9:=bf HD9x
  have HKE:=bf hke5
  have HL9:Hid (∀wz:World,(∀i,i≠w.heap.size->wz.heap[i]?=wx.heap[i]?)/\wz.heap.size=wx.heap.size->(Dat.mk 12 0 0 ByteArray.empty ns ks).liesO (λb=>w.heap.size<=b) wz (dcs 12 0 0 ⟨#[]⟩ na5 ka5 ns.length nc5 ks.length kc5)):=λwz h=>(by have hkp:Keep (λb=>w4.heap.size<=b) w5 wz:=⟨by rw [h.2,HKE.out.2];exact NL _,λi (hi:w4.heap.size<=i) _=>(h.1 i LJ).trans (HKE.out.1 i LJ)⟩;refine aP (ok:=λb=>w4.heap.size<=b) (λb (hb:w4.heap.size<=b) _=>LJ) _ _ ?_;rw [Dat.liesO];exact ⟨na5,nc5,ka5,kc5,rfl,by omega,by omega,by omega,HN5.out.carry hkp,aK hkp _ _ _ HK5.out⟩)
  have HO9:Hid (R=some (Dat.mk 12 0 0 ByteArray.empty ns ks,j,l5)):=KL
  clear x0 x1 x2 x3 x4 x5 xz1 xz2 xz3 xz4 xz5 h0 hke5
  obtain ⟨x0,x1,x2,x3,x4,x5,xz⟩:=dF hDI.d9
  obtain ⟨y0,y1,y2,y3,y4,y5,yz⟩:=dF hDI.d8
  have yz0:=yz 0
  have yz1:=yz 1
  have yz2:=yz 2
  have yz3:=yz 3
  have yz4:=yz 4
  have yz5:=yz 5
  have HDI:=bf hDI
  clear hDI xz yz
  go_wp2
  have hP:=HDI.out.done (v0:=(.int .i64 12)) (v1:=(.int .i64 0)) (v2:=(.int .u64 0)) (v3:=(.string ⟨#[]⟩)) (v4:=(.slice na5 ns.length nc5)) (v5:=(.slice ka5 ks.length kc5))
  unfold dV at hP
  generalize ((((((wx.setCell ⟨w.heap.size,0,none⟩ (.int .i64 12)).setCell ⟨w.heap.size,1,none⟩ (.int .i64 0)).setCell ⟨w.heap.size,2,none⟩ (.int .u64 0)).setCell ⟨w.heap.size,3,none⟩ (.string ⟨#[]⟩)).setCell ⟨w.heap.size,4,none⟩ (.slice na5 ns.length nc5)).setCell ⟨w.heap.size,5,none⟩ (.slice ka5 ks.length kc5))=wz at hP ⊢
  obtain ⟨hu,hb,hke⟩:=hP
  obtain ⟨r0,r1,r2,r3,r4,r5,rz⟩:=dF hb
  refine bodyPost_ret (v:=.agg #[.int .i64 12,.int .i64 0,.int .u64 0,.string ⟨#[]⟩,.slice na5 ns.length nc5,.slice ka5 ks.length kc5]) KA rfl ?_
  exact Z159
 ·obtain ⟨ba,bc,hs8,hbs⟩:=HT.out.branches
  have q4:=(HD4.out.old.cell HT.out.lt).trans hs8
  obtain ⟨N,hN⟩:∃N,tab[id].branches.length=N:=⟨_,rfl⟩
  rw [hN] at q4
  have HN:=bf hN
  have HBS:=bf hbs
  have H8:=bf q4
  have hv:=nY (HD4.out.add (af w4))
  have HPR:Hid (pl id≠rb):=LM
  have hne9:pl id≠w.heap.size+1:=Mg
  clear hN hs8 hbs
  go_upto_region 30 with fail
  go_cut [] (λwx=>∃(z:Int) (j:Nat),lT t i=some (z,j)/\gq z N=true/\DatJ rb w wx w.heap.size (w.heap.size+1) 13 z 0 ⟨#[]⟩ none none 0 0 0 0/\Dcd W wx tab pl rb t s r d m j l/\wx.cell? ⟨pl id,8,none⟩=some (.slice ba N bc))
  case first=>
   go_region_held_law (λw'=>w'.cell? ⟨pl id,8,none⟩=some (.slice ba N bc)) (first|(with_reducible exact k4)|(with_reducible exact s4)|(with_reducible exact q4)|go_keep) (first|(go_at_call 89;refine hv.mono ?_;rintro e w5 ⟨hu5',⟨⟨x,hx,rfl⟩,hz⟩|⟨z,j,hz,rfl,hD5,-⟩⟩;exact ⟨rfl,HJ4.out.upd.trans (((af w4).upd rb).trans hu5'),.inl ⟨⟨x,hx,rfl⟩,by rw [<-HR.out];unfold iZ;simp only [HKD.out];rw [hz];rfl⟩⟩;have hu5:=((af w4).upd rb).trans hu5';have k4:=hu5.cell HPR.out q4;have hpl:=Av hD5 (N:Int) z;obtain ⟨x0,x1,x2,x3,x4,x5,xz⟩:=dF (HJ4.out.up hu5).d9;have xz1:=xz 1;have xz2:=xz 2;have xz3:=xz 3;have xz4:=xz 4;have xz5:=xz 5;have HJ5:=bf (HJ4.out.up hu5);clear xz;have s4:(w5.setCell ⟨w.heap.size+1,1,none⟩ (.int .i64 z)).cell? ⟨pl id,8,none⟩=some (.slice ba N bc):=(NY (a:=⟨pl id,8,none⟩) (NZ _ _ _ _ (by exact hne9))).trans k4;have HZ5:=bf hz;have HDD5:=bf hD5;have HU5:=bf hu5;clear hz hD5 hu5 hu5')|(go_at_call 87;refine hpl.mono ?_;rintro e w6 ⟨hw6,⟨⟨x,hx,rfl⟩,hpb⟩|⟨hpb,rfl⟩⟩;exact ⟨rfl,by rw [hw6];exact HJ4.out.upd.trans HU5.out,.inl ⟨⟨x,hx,rfl⟩,by rw [<-HR.out];unfold iZ;simp only [HKD.out];rw [HZ5.out];simp only [HN.out,hpb];rfl⟩⟩;obtain rfl:w5=w6:=hw6.symm;have HPB:=bf hpb;clear hw6 hpb))
   all_goals (go_wp2;go_meet;exact ⟨z,j,HZ5.out,HPB.out,HJ5.out.set1 z,HDD5.out.at8 (jw _ (w.heap.size+1) 1 (.int .i64 z)) Kz,s4⟩)
  case rest=>
  obtain ⟨z,j,hz,hpb,hJ6,hD6,q8⟩:=hcut
  generalize wc=w6 at *
  obtain ⟨q,rfl⟩:∃q:Nat,z=q:=⟨z.toNat,by unfold gq at hpb;simp at hpb;omega⟩
  have hqN:q<N:=by unfold gq at hpb;simp at hpb;omega
  rcases HBS.out with hb0|⟨bb,bo,rfl,hbb,hbc⟩
  ·exfalso;have h:=HN.out;rw [hb0] at h;simp at h;omega
  have hq':q<tab[id].branches.length:=by rw [HN.out];exact hqN
  have cb:=(hD6.old.cell hbb).trans (hbc q hq')
  have hbt:=HBL.out _ (NS hq')
  have HGD:Hid (tab[id].branches.getD ((q:Int)).toNat 0=tab[id].branches[q]):=by show _=_;rw [Int.toNat_natCast,List.getD_eq_getElem?_getD,NP hq'];rfl
  generalize tab[id].branches[q]=b0 at cb hbt HGD
  have hdc:=HG.out b0 W w6.drew rb s r d m j l hbt (hD6.add (af w6))
  have c1:=(dF hJ6.d9).2.1
  have q0:=Y112
  have q1:(q:Int)<(N:Int):=Kc
  have HNE:Hid (bb≠rb/\w.heap.size+1≠rb):=⟨by have h2:=HD.out.new;omega,by have h2:=HRB.out;omega⟩
  have hne8:bb≠w.heap.size+1:=by have h2:=HD.out.old.size;omega
  have HJ6:=bf hJ6
  have HD6:=bf hD6
  have HZ6:=bf hz
  have HPB:=bf hpb
  clear hbc hbb hq' hqN hbt hJ6 hD6 hz hpb hv q4
  go_upto_region 31 with fail
  go_region_held_law (λw'=>w'.cell? ⟨pl id,8,none⟩=some (.slice (some ⟨bb,bo,none⟩) N bc)/\w'.cell? ⟨bb,bo+q,none⟩=some (.pointer (some ⟨pl b0,0,none⟩))/\w'.cell? ⟨w.heap.size+1,1,none⟩=some (.int .i64 (q:Int))) (first|(with_reducible exact ⟨k8,kb,k1⟩)|(with_reducible exact ⟨a8,ab,a1⟩)|(with_reducible exact ⟨s8,sb,s1⟩)|(with_reducible exact ⟨q8,cb,c1⟩)|go_keep)
   (first
   |(go_at_call 59;refine hdc.mono ?_;rintro e w7 ⟨hu7',⟨⟨x,hx,rfl⟩,hO⟩|⟨x,j7,l7,cs7,hO,rfl,hx,hD7⟩⟩;exact ⟨rfl,HJ6.out.upd.trans (((af w6).upd rb).trans hu7'),.inl ⟨⟨x,hx,rfl⟩,by rw [<-HR.out];unfold iZ;simp only [HKD.out];rw [HZ6.out];simp only [HN.out,HPB.out,HGD.out,hO];rfl⟩⟩;obtain ⟨dk,dn,db,dt,dna,dka,dnl,dnc,dkl,dkc,rfl⟩:=aO hx;unfold dcs;have hu7:=((af w6).upd rb).trans hu7';have k8:=hu7.cell HPR.out q8;have kb:=hu7.cell HNE.out.1 cb;have k1:=hu7.cell HNE.out.2 c1;have a8:=(ae w7 (.cells #[.int .i64 dk,.int .i64 dn,.int .u64 (db:Int),.string dt,.slice dna dnl dnc,.slice dka dkl dkc] 42 (0,0))).cell k8;have ab:=(ae w7 (.cells #[.int .i64 dk,.int .i64 dn,.int .u64 (db:Int),.string dt,.slice dna dnl dnc,.slice dka dkl dkc] 42 (0,0))).cell kb;have a1:=(ae w7 (.cells #[.int .i64 dk,.int .i64 dn,.int .u64 (db:Int),.string dt,.slice dna dnl dnc,.slice dka dkl dkc] 42 (0,0))).cell k1;have hJ7:=HJ6.out.up hu7;have hJ7a:=hJ7.up ((ae w7 (.cells #[.int .i64 dk,.int .i64 dn,.int .u64 (db:Int),.string dt,.slice dna dnl dnc,.slice dka dkl dkc] 42 (0,0))).upd rb);have x5:=(dF hJ7a.d9).2.2.2.2.2.1;have xz5:=(dF hJ7a.d9).2.2.2.2.2.2 5;have s8:((w7.alloc (.cells #[.int .i64 dk,.int .i64 dn,.int .u64 (db:Int),.string dt,.slice dna dnl dnc,.slice dka dkl dkc] 42 (0,0))).setCell ⟨w.heap.size+1,5,none⟩ (.slice (some ⟨w7.heap.size,0,none⟩) 1 1)).cell? ⟨pl id,8,none⟩=some (.slice (some ⟨bb,bo,none⟩) N bc):=(NY (a:=⟨pl id,8,none⟩) (NZ _ _ _ _ (by exact hne9))).trans a8;have sb:((w7.alloc (.cells #[.int .i64 dk,.int .i64 dn,.int .u64 (db:Int),.string dt,.slice dna dnl dnc,.slice dka dkl dkc] 42 (0,0))).setCell ⟨w.heap.size+1,5,none⟩ (.slice (some ⟨w7.heap.size,0,none⟩) 1 1)).cell? ⟨bb,bo+q,none⟩=some (.pointer (some ⟨pl b0,0,none⟩)):=(NY (a:=⟨bb,bo+q,none⟩) (NZ _ _ _ _ (by exact hne8))).trans ab;have s1:((w7.alloc (.cells #[.int .i64 dk,.int .i64 dn,.int .u64 (db:Int),.string dt,.slice dna dnl dnc,.slice dka dkl dkc] 42 (0,0))).setCell ⟨w.heap.size+1,5,none⟩ (.slice (some ⟨w7.heap.size,0,none⟩) 1 1)).cell? ⟨w.heap.size+1,1,none⟩=some (.int .i64 (q:Int)):=(Ob _ _ _ _ Kh).trans a1;have HJ7:=bf hJ7a;have HX7:=bf hx;have HO7:=bf hO;have HDD7:=bf hD7;have HU7:=bf hu7;clear hu7' hu7 hx hO hD7 hJ7 hJ7a))
  have hDI:=HJ7.out.set5 (some ⟨w7.heap.size,0,none⟩) 1 1
  have HD9x:=(HDD7.out.add (ae w7 (.cells #[.int .i64 dk,.int .i64 dn,.int .u64 (db:Int),.string dt,.slice dna dnl dnc,.slice dka dkl dkc] 42 (0,0)))).at8 (jw _ (w.heap.size+1) 5 (.slice (some ⟨w7.heap.size,0,none⟩) 1 1)) Kz
  have hke7:=jw (w7.alloc (.cells #[.int .i64 dk,.int .i64 dn,.int .u64 (db:Int),.string dt,.slice dna dnl dnc,.slice dka dkl dkc] 42 (0,0))) (w.heap.size+1) 5 (.slice (some ⟨w7.heap.size,0,none⟩) 1 1)
  generalize (w7.alloc (.cells #[.int .i64 dk,.int .i64 dn,.int .u64 (db:Int),.string dt,.slice dna dnl dnc,.slice dka dkl dkc] 42 (0,0))).setCell ⟨w.heap.size+1,5,none⟩ (.slice (some ⟨w7.heap.size,0,none⟩) 1 1)=wx at hDI HD9x hke7 ⊢
  have HD9:=bf HD9x
  have HKE:=bf hke7
  have HS6:Hid (w.heap.size+1<w6.heap.size):=(Oh HJ6.out.d9).1
  have HO9:Hid (R=some (Dat.mk 13 (q:Int) 0 ByteArray.empty [] [x],j7,l7)):=(by show _=_;rw [<-HR.out];unfold iZ;simp only [HKD.out];rw [HZ6.out];simp only [HN.out,HPB.out,HGD.out,HO7.out];rfl)
  have HL9:Hid (∀wz:World,(∀i,i≠w.heap.size->wz.heap[i]?=wx.heap[i]?)/\wz.heap.size=wx.heap.size->(Dat.mk 13 (q:Int) 0 ByteArray.empty [] [x]).liesO (λb=>w.heap.size<=b) wz (dcs 13 (q:Int) 0 ⟨#[]⟩ none (some ⟨w7.heap.size,0,none⟩) 0 0 1 1)):=λwz h=>by
   have h67:=HU7.out.size
   have hs6:=HS6.out
   have hzs:wz.heap.size=w7.heap.size+1:=by rw [h.2,HKE.out.2,dE]
   have hcell:∀i,w6.heap.size<=i->wz.heap[i]?=(w7.alloc (.cells #[.int .i64 dk,.int .i64 dn,.int .u64 (db:Int),.string dt,.slice dna dnl dnc,.slice dka dkl dkc] 42 (0,0))).heap[i]?:=λi hi=>(h.1 i Kc).trans (HKE.out.1 i Kc)
   have hkp:Keep (λb=>w6.heap.size<=b) w7 wz:=⟨by omega,λi (hi:w6.heap.size<=i) hl=>(hcell i hi).trans (Oc _ _ i hl)⟩
   have hbk:wz.heap[w7.heap.size]?=some (.cells #[.int .i64 dk,.int .i64 dn,.int .u64 (db:Int),.string dt,.slice dna dnl dnc,.slice dka dkl dkc] 42 (0,0)):=(hcell _ h67).trans (dD _ _)
   refine aP (ok:=λb=>w6.heap.size<=b) (λb (hb:w6.heap.size<=b) _=>Kc) _ _ ?_
   rw [Dat.liesO]
   have hvo:=iX HZ6.out
   refine ⟨none,0,some ⟨w7.heap.size,0,none⟩,1,rfl,by omega,hvo.1,by omega,.inl rfl,?_⟩
   rw [aJ,aJ]
   refine ⟨⟨w7.heap.size,0,_,rfl,h67,by omega,rfl,λf hf=>?_,aN hkp _ _ HX7.out⟩,trivial⟩
   unfold World.cell?
   rw [hbk]
   simp [dcs]
  clear k8 kb k1 a8 ab a1 s8 sb s1 x5 xz5 q8 cb c1 hke7 h0
  obtain ⟨x0,x1,x2,x3,x4,x5,xz⟩:=dF hDI.d9
  obtain ⟨y0,y1,y2,y3,y4,y5,yz⟩:=dF hDI.d8
  have yz0:=yz 0
  have yz1:=yz 1
  have yz2:=yz 2
  have yz3:=yz 3
  have yz4:=yz 4
  have yz5:=yz 5
  have HDI:=bf hDI
  clear hDI xz yz
  go_wp2
  have hP:=HDI.out.done (v0:=(.int .i64 13)) (v1:=(.int .i64 (q:Int))) (v2:=(.int .u64 0)) (v3:=(.string ⟨#[]⟩)) (v4:=(.slice none 0 0)) (v5:=(.slice (some ⟨w7.heap.size,0,none⟩) 1 1))
  unfold dV at hP
  generalize ((((((wx.setCell ⟨w.heap.size,0,none⟩ (.int .i64 13)).setCell ⟨w.heap.size,1,none⟩ (.int .i64 (q:Int))).setCell ⟨w.heap.size,2,none⟩ (.int .u64 0)).setCell ⟨w.heap.size,3,none⟩ (.string ⟨#[]⟩)).setCell ⟨w.heap.size,4,none⟩ (.slice none 0 0)).setCell ⟨w.heap.size,5,none⟩ (.slice (some ⟨w7.heap.size,0,none⟩) 1 1))=wz at hP ⊢
  obtain ⟨hu,hb,hke⟩:=hP
  obtain ⟨r0,r1,r2,r3,r4,r5,rz⟩:=dF hb
  refine bodyPost_ret (v:=.agg #[.int .i64 13,.int .i64 (q:Int),.int .u64 0,.string ⟨#[]⟩,.slice none 0 0,.slice (some ⟨w7.heap.size,0,none⟩) 1 1]) KA rfl ?_
  exact Z159
 have q6:=(HD4.out.old.cell HT.out.lt).trans HT.out.size
 have hv:=Aq HD4.out tab[id].size
 generalize hsz:tab[id].size=sz at hv q6
 have HSZE:=bf hsz
 clear hsz
 go_upto_region 32 with (first|(go_at_call 88;refine hv.mono ?_;rintro e w5 ⟨hu5,⟨⟨x,hx,rfl⟩,hz⟩|⟨u,hz,rfl,hu1,hD5⟩⟩;exact ⟨rfl,HJ4.out.upd.trans hu5,.inl ⟨⟨x,hx,rfl⟩,by rw [<-HR.out];unfold iZ;simp only [HKD.out];rw [HSZE.out,hz];rfl⟩⟩;have hcl:=zj u w5 (by have h1:=HSZ.out.1;rw [HSZE.out] at h1;omega);have HZ5:=bf hz;have HDD5:=bf hD5;have HU5:=bf hu5;clear hz hD5 hu5)|(go_at_call 94;refine hcl.mono ?_;rintro e w6 ⟨rfl,hb6⟩;have ha6:=kD hb6;have hu5:=HU5.out.trans (ha6.upd rb);obtain ⟨x0,x1,x2,x3,x4,x5,xz⟩:=dF (HJ4.out.up hu5).d9;have xz1:=xz 1;have xz2:=xz 2;have xz3:=xz 3;have xz4:=xz 4;have xz5:=xz 5;have HJ5:=bf (HJ4.out.up hu5);clear xz))
 have hDI:=HJ5.out.set3 u
 have HD9x:=(HDD5.out.add ha6).at8 (jw _ (w.heap.size+1) 3 (.string u)) Kz
 generalize w6.setCell ⟨w.heap.size+1,3,none⟩ (.string u)=wx at hDI HD9x ⊢
 have HD9:=bf HD9x
 have HO9:Hid (R=some (Dat.mk 14 0 0 u [] [],i+tab[id].size,l)):=(by show _=_;rw [<-HR.out];unfold iZ;simp only [HKD.out];rw [HSZE.out,HZ5.out];rfl)
 have HL9:Hid (∀wz:World,(∀i,i≠w.heap.size->wz.heap[i]?=wx.heap[i]?)/\wz.heap.size=wx.heap.size->(Dat.mk 14 0 0 u [] []).liesO (λb=>w.heap.size<=b) wz _):=λwz _=>jg _ wz _ _ _ _ Kc Kc Kc
 rw [HSZE.out] at HO9
 clear x0 x1 x2 x3 x4 x5 xz1 xz2 xz3 xz4 xz5 h0 q6
 exact Z26
end
end Go.Proofs.YtmphmjkinmkidaaGreatDoor
