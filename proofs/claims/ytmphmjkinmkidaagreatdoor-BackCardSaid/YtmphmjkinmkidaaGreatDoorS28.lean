import Derived.Test.YtmphmjkinmkidaaGreatDoorS27
set_option linter.defProp false
open Go.Proofs.Tryz
set_option maxRecDepth 8000
set_option maxHeartbeats 16000000
open Go Go.RowKit Go.Extern.Stop Go.Stop Go.Extern
namespace Go.Proofs.YtmphmjkinmkidaaGreatDoor
variable{p:Prop}
section
def Y110(h:p:=by exact (Hm hmb (.cells #[.int .i64 j.kindI,.int .i64 n,.string t,.slice a l c,.slice na nl nc,.map m] 85 (0,0)) (.cells #[.int .i64 0,.int .i64 0,.int .u64 0,.string ⟨#[]⟩,.slice none 0 0,.slice none 0 0] 42 (0,0)) (wrap64 (mn+1)))):p:=h
def Y111(h:p:=by exact ((ae w (.cells #[.int .i64 j.kindI,.int .i64 n,.string t,.slice a l c,.slice na nl nc,.map m] 85 (0,0))).trans (ae _ (.cells #[.int .i64 0,.int .i64 0,.int .u64 0,.string ⟨#[]⟩,.slice none 0 0,.slice none 0 0] 42 (0,0))))):p:=h
def Y244(h:p:=by exact (show ∃k n b t na ka nl nc kl kc,DatI mb w wx (w.heap.size+1) w2.heap.size k n b t na ka nl nc kl kc from ⟨_,_,_,_,_,_,_,_,_,_,hDI⟩)):p:=h
def Z16(h:p:=by
 have hby:=Cf HLW.out h0 ((HM4.out.old.cell HT.out.lt).trans HT.out.size)
 go_upto_region 32 with (first
  |(go_at_call 159;refine hby.mono ?_;rintro e w5 ⟨⟨T,v,rfl⟩|⟨s5,rfl⟩,ha5⟩;exact ⟨rfl,.inl ⟨_,_,rfl⟩,HD4.out.upd.trans (ha5.upd mb)⟩;have hD5:=HD4.out.add ha5;obtain ⟨x0,x1,x2,x3,x4,x5,xz⟩:=dF hD5.d9;have xz1:=xz 1;have xz3:=xz 3;have xz4:=xz 4;have xz5:=xz 5;clear xz;have HD5:=bf hD5;clear hD5))
 have hDI:=HD5.out.set3 s5
 generalize w5.setCell ⟨w2.heap.size,3,none⟩ (.string s5)=wx at hDI ⊢
 exact Z247):p:=h
def Z17(h:p:=by
 have hnu:=Ao HLW.out h0
 go_upto_region 32 with (first
  |(go_at_call 157;refine hnu.mono ?_;rintro e w5 ⟨⟨T,v,rfl⟩|⟨n5,rfl,hn5⟩,ha5⟩;exact ⟨rfl,.inl ⟨_,_,rfl⟩,HD4.out.upd.trans (ha5.upd mb)⟩;have hD5:=HD4.out.add ha5;obtain ⟨x0,x1,x2,x3,x4,x5,xz⟩:=dF hD5.d9;have xz1:=xz 1;have xz3:=xz 3;have xz4:=xz 4;have xz5:=xz 5;clear xz;have HD5:=bf hD5;clear hD5))
 have hDI:=HD5.out.set1 n5
 generalize w5.setCell ⟨w2.heap.size,1,none⟩ (.int .i64 n5)=wx at hDI ⊢
 exact Z247):p:=h
def Z18(h:p:=by
 have hDI:=(HD4.out.add HA6.out).all k6 n6 b6 t6 na6 ka6 nl6 nc6 kl6 kc6
 unfold dV at hDI
 generalize ((((((w6.setCell ⟨w2.heap.size,0,none⟩ (.int .i64 k6)).setCell ⟨w2.heap.size,1,none⟩ (.int .i64 n6)).setCell ⟨w2.heap.size,2,none⟩ (.int .u64 (b6:Int))).setCell ⟨w2.heap.size,3,none⟩ (.string t6)).setCell ⟨w2.heap.size,4,none⟩ (.slice na6 nl6 nc6)).setCell ⟨w2.heap.size,5,none⟩ (.slice ka6 kl6 kc6))=wx at hDI ⊢
 clear x0 x1 x2 x3 x4 x5 xz0 xz1 xz2 xz3 xz4 xz5 g7 g0 g1 g2 g3 g4 g5 e7 e0 e1 e2 e3 e4 e5 k7 k0 k1 k2 k3 k4 k5 q0 q1 q2 q3 q4 q5 h0
 exact Z248):p:=h
def Z19(h:p:=by
 clear x0 x1 x2 x3 x4 x5 xz1 xz3 xz4 xz5 q0 q1 q2 q3 q4 q5 h0
 exact Z248):p:=h
def Z22(h:p:=by
 obtain ⟨k9,n9,b9,t9,na9,ka9,nl9,nc9,kl9,kc9,hDI⟩:=Y244
 exact Z271):p:=h
def Z78(h:p:=by
 have HNO:=bf hno
 clear hno
 go_upto_region 32 with (go_at_call 156;refine (hck _).mono ?_;rintro e w5 ⟨⟨T,v,rfl⟩|⟨rfl,hkj⟩,ha5⟩;exact ⟨rfl,.inl ⟨_,_,rfl⟩,HD4.out.upd.trans (ha5.upd mb)⟩;exact absurd hkj HNO.out)):p:=h
def Z110(h:p:=by
 go_wp2_with (go_at_call 81;refine (dR _ _).mono ?_;rintro e w3 ⟨⟨T,v,rfl⟩,hb3⟩)
 exact ⟨rfl,.inl ⟨_,_,rfl⟩,HU2.out.trans (hb3.upd mb)⟩):p:=h
def Z247(h:p:=by
 clear x0 x1 x2 x3 x4 x5 xz1 xz3 xz4 xz5 q0 q1 q2 q3 q4 q5 h0
 obtain ⟨k9,n9,b9,t9,na9,ka9,nl9,nc9,kl9,kc9,hDI⟩:=Y244
 exact Z271):p:=h
def Z248(h:p:=by
 obtain ⟨k9,n9,b9,t9,na9,ka9,nl9,nc9,kl9,kc9,hDI⟩:=Y244
 exact Z271):p:=h
def Z271(h:p:=by
 obtain ⟨x0,x1,x2,x3,x4,x5,xz⟩:=dF hDI.d9
 obtain ⟨y0,y1,y2,y3,y4,y5,yz⟩:=dF hDI.d8
 have yz0:=yz 0
 have yz1:=yz 1
 have yz2:=yz 2
 have yz3:=yz 3
 have yz4:=yz 4
 have yz5:=yz 5
 have HDI:=bf hDI
 clear hDI xz yz
 go_wp2
 have hP:=HDI.out.done (.int .i64 k9) (.int .i64 n9) (.int .u64 (b9:Int)) (.string t9) (.slice na9 nl9 nc9) (.slice ka9 kl9 kc9)
 unfold dV at hP
 generalize ((((((wx.setCell ⟨(w.heap.size+1),0,none⟩ (.int .i64 k9)).setCell ⟨(w.heap.size+1),1,none⟩ (.int .i64 n9)).setCell ⟨(w.heap.size+1),2,none⟩ (.int .u64 (b9:Int))).setCell ⟨(w.heap.size+1),3,none⟩ (.string t9)).setCell ⟨(w.heap.size+1),4,none⟩ (.slice na9 nl9 nc9)).setCell ⟨(w.heap.size+1),5,none⟩ (.slice ka9 kl9 kc9))=wz at hP ⊢
 obtain ⟨hu,hat,hb⟩:=hP
 obtain ⟨r0,r1,r2,r3,r4,r5,rz⟩:=dF hb
 refine bodyPost_ret (v:=.agg #[.int .i64 k9,.int .i64 n9,.int .u64 (b9:Int),.string t9,.slice na9 nl9 nc9,.slice ka9 kl9 kc9]) (by simp [results,results127,go_sem,r0,r1,r2,r3,r4,r5]) rfl ?_
 exact ⟨.inr ⟨⟨_,rfl,⟨_,_,_,_,_,_,_,_,_,_,rfl⟩⟩,hat⟩,hu⟩):p:=h
structure DatI(mb:Nat)(w wx:World)(B8 B9:Nat)(k n:Int)(b:Nat)(t:ByteArray)(na ka:Option Addr)(nl nc kl kc:Nat):Prop where
 d9:wx.heap[B9]?=some (.cells (dcs k n b t na ka nl nc kl kc).toArray 42 (0,0))
 d8:wx.heap[B8]?=some (.cells #[.int .i64 0,.int .i64 0,.int .u64 0,.string ⟨#[]⟩,.slice none 0 0,.slice none 0 0] 42 (0,0))
 upd:Upd mb w wx
 mkr:∃n l,wx.heap[mb]?=some (mkB n l)
 lt:mb<w.heap.size
 l8:w.heap.size<=B8
 l9:w.heap.size<=B9
 ne:B8≠B9
section
variable {mb:Nat} {w wx:World} {B8 B9:Nat} {k n:Int} {b:Nat} {t:ByteArray} {na ka:Option Addr} {nl nc kl kc:Nat}
theorem DatI.up(h:DatI mb w wx B8 B9 k n b t na ka nl nc kl kc){w':World}(u:Upd mb wx w')(a:∃n l,w'.heap[mb]?=some (mkB n l)):DatI mb w w' B8 B9 k n b t na ka nl nc kl kc:=by
 have h1:=h.lt;have h2:=h.l8;have h3:=h.l9
 exact ⟨(u.old _ (Oh h.d9).1 Kc).trans h.d9,(u.old _ (Oh h.d8).1 Kc).trans h.d8,h.upd.trans u,a,h1,h2,h3,h.ne⟩
theorem DatI.add(h:DatI mb w wx B8 B9 k n b t na ka nl nc kl kc){w':World}(a:Add wx w'):DatI mb w w' B8 B9 k n b t na ka nl nc kl kc:=by
 obtain ⟨n,l,hm⟩:=h.mkr
 exact h.up (a.upd mb) ⟨n,l,(a.old mb (Oh hm).1).trans hm⟩
theorem DatI.set(h:DatI mb w wx B8 B9 k n b t na ka nl nc kl kc)(o:Nat)(v:Value){k' n':Int}{b':Nat}{t':ByteArray}{na' ka':Option Addr}{nl' nc' kl' kc':Nat}(e:(wx.setCell ⟨B9,o,none⟩ v).heap[B9]?=some (.cells (dcs k' n' b' t' na' ka' nl' nc' kl' kc').toArray 42 (0,0))):DatI mb w (wx.setCell ⟨B9,o,none⟩ v) B8 B9 k' n' b' t' na' ka' nl' nc' kl' kc':=by
 have h1:=h.lt;have h2:=h.l8;have h3:=h.l9
 obtain ⟨mn,ml,hm⟩:=h.mkr
 exact ⟨e,(NZ _ _ _ _ (by exact h.ne)).trans h.d8,⟨h.upd.os,h.upd.output,by simpa using h.upd.size,λi hi hn=>(NZ _ _ _ _ (by show i≠B9;omega)).trans (h.upd.old i hi hn)⟩,⟨mn,ml,(NZ _ _ _ _ (by show mb≠B9;omega)).trans hm⟩,h1,h2,h3,h.ne⟩
theorem DatI.set1(h:DatI mb w wx B8 B9 k n b t na ka nl nc kl kc)(x:Int):DatI mb w (wx.setCell ⟨B9,1,none⟩ (.int .i64 x)) B8 B9 k x b t na ka nl nc kl kc:=h.set 1 _ (dG h.d9 1 _)
theorem DatI.set3(h:DatI mb w wx B8 B9 k n b t na ka nl nc kl kc)(x:ByteArray):DatI mb w (wx.setCell ⟨B9,3,none⟩ (.string x)) B8 B9 k n b x na ka nl nc kl kc:=h.set 3 _ (dG h.d9 3 _)
theorem DatI.set4(h:DatI mb w wx B8 B9 k n b t na ka nl nc kl kc)(x:Option Addr)(y z:Nat):DatI mb w (wx.setCell ⟨B9,4,none⟩ (.slice x y z)) B8 B9 k n b t x ka y z kl kc:=h.set 4 _ (dG h.d9 4 _)
theorem DatI.set5(h:DatI mb w wx B8 B9 k n b t na ka nl nc kl kc)(x:Option Addr)(y z:Nat):DatI mb w (wx.setCell ⟨B9,5,none⟩ (.slice x y z)) B8 B9 k n b t na x nl nc y z:=h.set 5 _ (dG h.d9 5 _)
theorem DatI.all(h:DatI mb w wx B8 B9 k n b t na ka nl nc kl kc)(k' n':Int)(b':Nat)(t':ByteArray)(na' ka':Option Addr)(nl' nc' kl' kc':Nat):DatI mb w (dV wx B9 (.int .i64 k') (.int .i64 n') (.int .u64 (b':Int)) (.string t') (.slice na' nl' nc') (.slice ka' kl' kc')) B8 B9 k' n' b' t' na' ka' nl' nc' kl' kc':=by
 have h1:=h.lt;have h2:=h.l8;have h3:=h.l9
 obtain ⟨mn,ml,hm⟩:=h.mkr
 have e:=fF h.d9 (.int .i64 k') (.int .i64 n') (.int .u64 (b':Int)) (.string t') (.slice na' nl' nc') (.slice ka' kl' kc')
 have e2:=iH h.upd h3 (.int .i64 k') (.int .i64 n') (.int .u64 (b':Int)) (.string t') (.slice na' nl' nc') (.slice ka' kl' kc')
 have e3:=λi hi=>dI wx B9 (.int .i64 k') (.int .i64 n') (.int .u64 (b':Int)) (.string t') (.slice na' nl' nc') (.slice ka' kl' kc') i hi
 generalize dV wx B9 (.int .i64 k') (.int .i64 n') (.int .u64 (b':Int)) (.string t') (.slice na' nl' nc') (.slice ka' kl' kc')=G at *
 exact ⟨e,(e3 _ h.ne).trans h.d8,e2,⟨mn,ml,(e3 _ Kc).trans hm⟩,h1,h2,h3,h.ne⟩
theorem DatI.done(h:DatI mb w wx B8 B9 k n b t na ka nl nc kl kc)(v0 v1 v2 v3 v4 v5:Value):Upd mb w (dV wx B8 v0 v1 v2 v3 v4 v5)/\(∃n l,(dV wx B8 v0 v1 v2 v3 v4 v5).heap[mb]?=some (mkB n l))/\(dV wx B8 v0 v1 v2 v3 v4 v5).heap[B8]?=some (.cells #[v0,v1,v2,v3,v4,v5] 42 (0,0)):=by
 have h1:=h.lt;have h2:=h.l8
 obtain ⟨mn,ml,hm⟩:=h.mkr
 exact ⟨iH h.upd h2 _ _ _ _ _ _,⟨mn,ml,(dI wx B8 v0 v1 v2 v3 v4 v5 mb Kc).trans hm⟩,fF h.d8 _ _ _ _ _ _⟩
end
theorem Hm{w:World}{mb:Nat}{mn ml:Int}(hmb:w.heap[mb]?=some (mkB mn ml))(V Z:Obj)(x:Int):(((w.alloc V).alloc Z).setCell ⟨mb,0,none⟩ (.int .i64 x)).heap[w.heap.size]?=some V/\(((w.alloc V).alloc Z).setCell ⟨mb,0,none⟩ (.int .i64 x)).heap[w.heap.size+1]?=some Z/\(((w.alloc V).alloc Z).setCell ⟨mb,0,none⟩ (.int .i64 x)).heap[mb]?=some (mkB x ml)/\Upd mb w (((w.alloc V).alloc Z).setCell ⟨mb,0,none⟩ (.int .i64 x))/\(((w.alloc V).alloc Z).setCell ⟨mb,0,none⟩ (.int .i64 x)).heap.size=w.heap.size+1+1:=by
 have hl:=(Oh hmb).1
 have h1:=ae w V
 have h2:=ae (w.alloc V) Z
 have s1:=dE w V
 have s2:=dE (w.alloc V) Z
 have b1:=dD w V
 have b2:=dD (w.alloc V) Z
 rw [s1] at b2 s2
 have b3:=(h2.old w.heap.size Kc).trans b1
 have b4:=((h1.trans h2).old mb hl).trans hmb
 have u:=(h1.trans h2).upd mb
 generalize (w.alloc V).alloc Z=G at *
 exact ⟨(NZ _ _ _ _ (by show w.heap.size≠mb;omega)).trans b3,(NZ _ _ _ _ (by show w.heap.size+1≠mb;omega)).trans b2,mk_set0 b4 x,u.trans (Upd.set mb 0 G _),by simpa using s2⟩
theorem s6o{W:World}{B b o:Nat}{v0 v1 v2 v3 v4 v5:Value}(h:b≠B):(dV W B v0 v1 v2 v3 v4 v5).cell? ⟨b,o,none⟩=W.cell? ⟨b,o,none⟩:=NY (a:=⟨b,o,none⟩) (dI W B v0 v1 v2 v3 v4 v5 b h)
theorem sco{W:World}{B b o k:Nat}{v:Value}(h:b≠B):(W.setCell ⟨B,o,none⟩ v).cell? ⟨b,k,none⟩=W.cell? ⟨b,k,none⟩:=NY (a:=⟨b,k,none⟩) (NZ _ _ _ _ KV)
theorem arr_or(j:J):(∃l,j=.arr l)\/j.kindI≠5:=by
 cases j
 case arr l=>exact .inl ⟨l,rfl⟩
 all_goals exact .inr (by simp [J.kindI])
theorem obj_or(j:J):(∃ns vs,j=.obj ns vs)\/j.kindI≠6:=by
 cases j
 case obj ns vs=>exact .inl ⟨ns,vs,rfl⟩
 all_goals exact .inr (by simp [J.kindI])
theorem IU{wL:World}{tab:List TNode}{pl:Nat->Nat}{k:Nat}(hm:BP wL tab pl k)(hL:Lay wL tab pl)(hNm:wE tab)(hBr:∀i (h:i<tab.length),tab[i].kind=13->tab[i].branches≠[])(hk32:k+1<=32):BP wL tab pl (k+1):=by
 intro ok w mb i cs j d hi hl hM hd
 have hd':d=32-(k:Int):=by rw [hd];push_cast;omega
 have hT:=hL.lies i hi
 have hkr:=hL.kinds i hi
 have HT:=bf hT
 obtain ⟨n,t,a,na,l,c,nl,nc,m,hcs⟩:=J.lies_cells hl
 subst hcs
 have HLJ:=bf hl
 have HF9:Hid (∀W,Mk wL W mb->_):=λW (hW:Mk wL W mb)=>GV hm hL hNm hW i hi ok j _ hl d hd' Kc
 have HITM:Hid (∀W,Mk wL W mb->(tab[i].kind=11\/tab[i].kind=12)->∀(l:List J) kk n t a na c nl nc m,J.lieAll ok wL a 0 l->l.length<=65536->_):=λW (hW:Mk wL W mb) hk l kk n t a na c nl nc m hla hle=>Jv hm hL hW i hi hk ok l kk n t a na c nl nc m hla hle d hd' Kc
 have HSZ:=bf (hL.sizes i hi)
 have HBR:=bf (hBr i hi)
 have HBL:=bf (hL.branches i hi)
 have HK:=bf hm
 have h0L:=hT.kind
 obtain ⟨kd,hkd⟩:∃kd,tab[i].kind=kd:=⟨_,rfl⟩
 rw [hkd] at h0L hkr
 have HKD:=bf hkd
 have HD:Hid (d+1=33-(k:Int)):=Np
 have hd1:IntKind.i64.wrap (d+1)=d+1:=KD
 have hdw:wrap64 (d+1)=d+1:=Kn
 have hd32:(32<d)=False:=eq_false Kc
 have HM:=bf hM
 obtain ⟨mn,ml,hmb⟩:=hM.at'
 have hlt:=hM.lt
 have hp:=Y110
 have ha:=Y111
 obtain ⟨m0,m1,mz⟩:=nN ((ha.old mb hlt).trans hmb)
 have mz0:=mz 0
 unfold jc
 clear hT hm hL hNm hBr hk32 hd hd' hl hmb hkd m1 mz ha hM hlt
 go_enter func127,ntmps127
 go_upto_region 2 with fail
 generalize wrap64 (mn+1)=mx at hp ⊢
 generalize ((w.alloc (.cells #[.int .i64 j.kindI,.int .i64 n,.string t,.slice a l c,.slice na nl nc,.map m] 85 (0,0))).alloc (.cells #[.int .i64 0,.int .i64 0,.int .u64 0,.string ⟨#[]⟩,.slice none 0 0,.slice none 0 0] 42 (0,0))).setCell ⟨mb,0,none⟩ (.int .i64 mx)=w2 at hp ⊢
 clear m0 mz0
 obtain ⟨hb0,hb8,hb2,hu2,hs2⟩:=hp
 have m0:=(nN hb2).1
 by_cases h4:4000<mx
 ·have h4':(4000<mx)=True:=eq_true h4
  have HU2:=bf hu2
  clear h4 hb0 hb8 hb2 hu2
  exact Z110
 have h4':(4000<mx)=False:=eq_false h4
 have hM2:=HM.out.upd hu2 ⟨_,_,hb2⟩
 have h0:=(hM2.old.cell HT.out.lt).trans h0L
 have HS2:=bf hs2
 have HB0:=bf hb0
 have HB8:=bf hb8
 have HU2:=bf hu2
 have HB2:=bf hb2
 clear h4 hb0 hb8 hb2 hu2 hM2 h0L hs2
 go_upto_region 5 with fail
 have ha4:=ae w2 (.cells #[.int .i64 kd,.int .i64 0,.int .u64 0,.string ⟨#[]⟩,.slice none 0 0,.slice none 0 0] 42 (0,0))
 have hb9:=dD w2 (.cells #[.int .i64 kd,.int .i64 0,.int .u64 0,.string ⟨#[]⟩,.slice none 0 0,.slice none 0 0] 42 (0,0))
 generalize w2.alloc (.cells #[.int .i64 kd,.int .i64 0,.int .u64 0,.string ⟨#[]⟩,.slice none 0 0,.slice none 0 0] 42 (0,0))=w4 at ha4 hb9 ⊢
 have hlt:=HM.out.lt
 have hs:=HS2.out
 have HD4:Hid (DatI mb w w4 (w.heap.size+1) w2.heap.size kd 0 0 ⟨#[]⟩ none none 0 0 0 0):=⟨hb9,(ha4.old _ Kc).trans HB8.out,HU2.out.trans (ha4.upd mb),⟨_,_,(ha4.old _ Kc).trans HB2.out⟩,hlt,by omega,by omega,by omega⟩
 have hM4:=HM.out.upd HD4.out.upd HD4.out.mkr
 have h0':=ha4.cell h0
 obtain ⟨q0,q1,q2,q3,q4,q5,qz⟩:=dF ((ha4.old _ Kc).trans HB0.out)
 have HM4:=bf hM4
 have HLW:=bf (J.lies_carry (Keep.of_old hM4.old) _ _ HLJ.out)
 clear h0 m0 h4' hd32 HB0 HB8 HB2 HU2 ha4 hb9 hlt hs hM4 qz
 have h0:=h0'
 clear h0'
 have hne1:pl i≠w2.heap.size:=by have h1:=HT.out.lt;have h2:=HM.out.old.size;have h3:=HS2.out;omega
 have hne2:w.heap.size≠w2.heap.size:=by have h3:=HS2.out;omega
 unfold jc at HLW HF9 HITM
 rcases (by omega:kd=1\/kd=2\/kd=3\/kd=4\/kd=5\/kd=6\/kd=7\/kd=8\/kd=9\/kd=10\/kd=11\/kd=12\/kd=13\/kd=14) with rfl|rfl|rfl|rfl|rfl|rfl|rfl|rfl|rfl|rfl|rfl|rfl|rfl|rfl
 ·have hck:=λW=>nD j 1 n t a na l c nl nc m W
  go_upto_region 32 with (go_at_call 156;refine (hck _).mono ?_;rintro e w5 ⟨⟨T,v,rfl⟩|⟨rfl,hkj⟩,ha5⟩;exact ⟨rfl,.inl ⟨_,_,rfl⟩,HD4.out.upd.trans (ha5.upd mb)⟩;have hD5:=HD4.out.add ha5;obtain ⟨x0,x1,x2,x3,x4,x5,xz⟩:=dF hD5.d9;have xz1:=xz 1;have xz3:=xz 3;have xz4:=xz 4;have xz5:=xz 5;clear xz;have HD5:=bf hD5;clear hD5)
  have hDI:=HD5.out
  generalize w5=wx at hDI ⊢
  exact Z19
 ·have hck:=λW=>nD j 2 n t a na l c nl nc m W
  go_upto_region 32 with (first
   |(go_at_call 156;refine (hck _).mono ?_;rintro e w5 ⟨⟨T,v,rfl⟩|⟨rfl,hkj⟩,ha5⟩;exact ⟨rfl,.inl ⟨_,_,rfl⟩,HD4.out.upd.trans (ha5.upd mb)⟩;have hD5:=HD4.out.add ha5;obtain ⟨x0,x1,x2,x3,x4,x5,xz⟩:=dF hD5.d9;have xz1:=xz 1;have xz3:=xz 3;have xz4:=xz 4;have xz5:=xz 5;clear xz;have HD5:=bf hD5;clear hD5)
   |(refine gU _ rfl _ _ _ rfl _ (qa _ _ _ _ _ _ _ _ _ _ _) ?_))
  have hDI:=HD5.out.set1 n
  generalize w5.setCell ⟨w2.heap.size,1,none⟩ (.int .i64 n)=wx at hDI ⊢
  exact Z19
 ·exact Z17
 ·exact Z17
 ·have hck:=λW=>nD j 3 n t a na l c nl nc m W
  have hvf:=λW=>qa 3 n t a na l c nl nc m W
  go_upto_region 15 with fail
  go_region_held_law (λw'=>w'.cell? ⟨pl i,0,none⟩=some (.int .i64 5)/\w'.cell? ⟨w.heap.size,0,none⟩=some (.int .i64 j.kindI)/\w'.cell? ⟨w.heap.size,1,none⟩=some (.int .i64 n)/\w'.cell? ⟨w.heap.size,2,none⟩=some (.string t)/\w'.cell? ⟨w.heap.size,3,none⟩=some (.slice a l c)/\w'.cell? ⟨w.heap.size,4,none⟩=some (.slice na nl nc)/\w'.cell? ⟨w.heap.size,5,none⟩=some (.map m)) (first|(with_reducible exact ⟨e7,e0,e1,e2,e3,e4,e5⟩)|(with_reducible exact ⟨k7,k0,k1,k2,k3,k4,k5⟩)|(with_reducible exact ⟨h0,q0,q1,q2,q3,q4,q5⟩)|(with_reducible exact ⟨g7,g0,g1,g2,g3,g4,g5⟩)|go_keep)
   (first
   |(go_at_call 156;refine (hck _).mono ?_;rintro e w5 ⟨⟨T,v,rfl⟩|⟨rfl,hkj⟩,ha5⟩;exact ⟨rfl,.inl ⟨_,_,rfl⟩,HD4.out.upd.trans (((af w4).trans ha5).upd mb)⟩;have HA5:Hid (Add w4 w5):=(af w4).trans ha5;clear ha5;have k7:=HA5.out.cell h0;have k0:=HA5.out.cell q0;have k1:=HA5.out.cell q1;have k2:=HA5.out.cell q2;have k3:=HA5.out.cell q3;have k4:=HA5.out.cell q4;have k5:=HA5.out.cell q5)
   |(go_at_call 158;refine (vO _ _ _).mono ?_;rintro e w6 ⟨⟨T,v,rfl⟩|⟨k6,n6,b6,t6,na6,ka6,nl6,nc6,kl6,kc6,rfl⟩,ha6⟩;exact ⟨rfl,.inl ⟨_,_,rfl⟩,HD4.out.upd.trans ((HA5.out.trans ha6).upd mb)⟩;have HA6:Hid (Add w4 w6):=HA5.out.trans ha6;have hD6:=HD4.out.add HA6.out;obtain ⟨x0,x1,x2,x3,x4,x5,xz⟩:=dF hD6.d9;have xz0:=xz 0;have xz1:=xz 1;have xz2:=xz 2;have xz3:=xz 3;have xz4:=xz 4;have xz5:=xz 5;clear xz hD6;have e7:=HA6.out.cell h0;have e0:=HA6.out.cell q0;have e1:=HA6.out.cell q1;have e2:=HA6.out.cell q2;have e3:=HA6.out.cell q3;have e4:=HA6.out.cell q4;have e5:=HA6.out.cell q5;have g7:((((((w6.setCell ⟨w2.heap.size,0,none⟩ (.int .i64 k6)).setCell ⟨w2.heap.size,1,none⟩ (.int .i64 n6)).setCell ⟨w2.heap.size,2,none⟩ (.int .u64 (b6:Int))).setCell ⟨w2.heap.size,3,none⟩ (.string t6)).setCell ⟨w2.heap.size,4,none⟩ (.slice na6 nl6 nc6)).setCell ⟨w2.heap.size,5,none⟩ (.slice ka6 kl6 kc6)).cell? ⟨pl i,0,none⟩=some (.int .i64 5):=(s6o hne1).trans e7;have g0:((((((w6.setCell ⟨w2.heap.size,0,none⟩ (.int .i64 k6)).setCell ⟨w2.heap.size,1,none⟩ (.int .i64 n6)).setCell ⟨w2.heap.size,2,none⟩ (.int .u64 (b6:Int))).setCell ⟨w2.heap.size,3,none⟩ (.string t6)).setCell ⟨w2.heap.size,4,none⟩ (.slice na6 nl6 nc6)).setCell ⟨w2.heap.size,5,none⟩ (.slice ka6 kl6 kc6)).cell? ⟨w.heap.size,0,none⟩=some (.int .i64 j.kindI):=(s6o hne2).trans e0;have g1:((((((w6.setCell ⟨w2.heap.size,0,none⟩ (.int .i64 k6)).setCell ⟨w2.heap.size,1,none⟩ (.int .i64 n6)).setCell ⟨w2.heap.size,2,none⟩ (.int .u64 (b6:Int))).setCell ⟨w2.heap.size,3,none⟩ (.string t6)).setCell ⟨w2.heap.size,4,none⟩ (.slice na6 nl6 nc6)).setCell ⟨w2.heap.size,5,none⟩ (.slice ka6 kl6 kc6)).cell? ⟨w.heap.size,1,none⟩=some (.int .i64 n):=(s6o hne2).trans e1;have g2:((((((w6.setCell ⟨w2.heap.size,0,none⟩ (.int .i64 k6)).setCell ⟨w2.heap.size,1,none⟩ (.int .i64 n6)).setCell ⟨w2.heap.size,2,none⟩ (.int .u64 (b6:Int))).setCell ⟨w2.heap.size,3,none⟩ (.string t6)).setCell ⟨w2.heap.size,4,none⟩ (.slice na6 nl6 nc6)).setCell ⟨w2.heap.size,5,none⟩ (.slice ka6 kl6 kc6)).cell? ⟨w.heap.size,2,none⟩=some (.string t):=(s6o hne2).trans e2;have g3:((((((w6.setCell ⟨w2.heap.size,0,none⟩ (.int .i64 k6)).setCell ⟨w2.heap.size,1,none⟩ (.int .i64 n6)).setCell ⟨w2.heap.size,2,none⟩ (.int .u64 (b6:Int))).setCell ⟨w2.heap.size,3,none⟩ (.string t6)).setCell ⟨w2.heap.size,4,none⟩ (.slice na6 nl6 nc6)).setCell ⟨w2.heap.size,5,none⟩ (.slice ka6 kl6 kc6)).cell? ⟨w.heap.size,3,none⟩=some (.slice a l c):=(s6o hne2).trans e3;have g4:((((((w6.setCell ⟨w2.heap.size,0,none⟩ (.int .i64 k6)).setCell ⟨w2.heap.size,1,none⟩ (.int .i64 n6)).setCell ⟨w2.heap.size,2,none⟩ (.int .u64 (b6:Int))).setCell ⟨w2.heap.size,3,none⟩ (.string t6)).setCell ⟨w2.heap.size,4,none⟩ (.slice na6 nl6 nc6)).setCell ⟨w2.heap.size,5,none⟩ (.slice ka6 kl6 kc6)).cell? ⟨w.heap.size,4,none⟩=some (.slice na nl nc):=(s6o hne2).trans e4;have g5:((((((w6.setCell ⟨w2.heap.size,0,none⟩ (.int .i64 k6)).setCell ⟨w2.heap.size,1,none⟩ (.int .i64 n6)).setCell ⟨w2.heap.size,2,none⟩ (.int .u64 (b6:Int))).setCell ⟨w2.heap.size,3,none⟩ (.string t6)).setCell ⟨w2.heap.size,4,none⟩ (.slice na6 nl6 nc6)).setCell ⟨w2.heap.size,5,none⟩ (.slice ka6 kl6 kc6)).cell? ⟨w.heap.size,5,none⟩=some (.map m):=(s6o hne2).trans e5;unfold dcs))
  exact Z18
 ·have hck:=λW=>nD j 3 n t a na l c nl nc m W
  have hvf:=λW=>qa 3 n t a na l c nl nc m W
  go_upto_region 15 with fail
  go_region_held_law (λw'=>w'.cell? ⟨pl i,0,none⟩=some (.int .i64 6)/\w'.cell? ⟨w.heap.size,0,none⟩=some (.int .i64 j.kindI)/\w'.cell? ⟨w.heap.size,1,none⟩=some (.int .i64 n)/\w'.cell? ⟨w.heap.size,2,none⟩=some (.string t)/\w'.cell? ⟨w.heap.size,3,none⟩=some (.slice a l c)/\w'.cell? ⟨w.heap.size,4,none⟩=some (.slice na nl nc)/\w'.cell? ⟨w.heap.size,5,none⟩=some (.map m)) (first|(with_reducible exact ⟨e7,e0,e1,e2,e3,e4,e5⟩)|(with_reducible exact ⟨k7,k0,k1,k2,k3,k4,k5⟩)|(with_reducible exact ⟨h0,q0,q1,q2,q3,q4,q5⟩)|(with_reducible exact ⟨g7,g0,g1,g2,g3,g4,g5⟩)|go_keep)
   (first
   |(go_at_call 156;refine (hck _).mono ?_;rintro e w5 ⟨⟨T,v,rfl⟩|⟨rfl,hkj⟩,ha5⟩;exact ⟨rfl,.inl ⟨_,_,rfl⟩,HD4.out.upd.trans (((af w4).trans ha5).upd mb)⟩;have HA5:Hid (Add w4 w5):=(af w4).trans ha5;clear ha5;have k7:=HA5.out.cell h0;have k0:=HA5.out.cell q0;have k1:=HA5.out.cell q1;have k2:=HA5.out.cell q2;have k3:=HA5.out.cell q3;have k4:=HA5.out.cell q4;have k5:=HA5.out.cell q5)
   |(go_at_call 158;refine (vO _ _ _).mono ?_;rintro e w6 ⟨⟨T,v,rfl⟩|⟨k6,n6,b6,t6,na6,ka6,nl6,nc6,kl6,kc6,rfl⟩,ha6⟩;exact ⟨rfl,.inl ⟨_,_,rfl⟩,HD4.out.upd.trans ((HA5.out.trans ha6).upd mb)⟩;have HA6:Hid (Add w4 w6):=HA5.out.trans ha6;have hD6:=HD4.out.add HA6.out;obtain ⟨x0,x1,x2,x3,x4,x5,xz⟩:=dF hD6.d9;have xz0:=xz 0;have xz1:=xz 1;have xz2:=xz 2;have xz3:=xz 3;have xz4:=xz 4;have xz5:=xz 5;clear xz hD6;have e7:=HA6.out.cell h0;have e0:=HA6.out.cell q0;have e1:=HA6.out.cell q1;have e2:=HA6.out.cell q2;have e3:=HA6.out.cell q3;have e4:=HA6.out.cell q4;have e5:=HA6.out.cell q5;have g7:((((((w6.setCell ⟨w2.heap.size,0,none⟩ (.int .i64 k6)).setCell ⟨w2.heap.size,1,none⟩ (.int .i64 n6)).setCell ⟨w2.heap.size,2,none⟩ (.int .u64 (b6:Int))).setCell ⟨w2.heap.size,3,none⟩ (.string t6)).setCell ⟨w2.heap.size,4,none⟩ (.slice na6 nl6 nc6)).setCell ⟨w2.heap.size,5,none⟩ (.slice ka6 kl6 kc6)).cell? ⟨pl i,0,none⟩=some (.int .i64 6):=(s6o hne1).trans e7;have g0:((((((w6.setCell ⟨w2.heap.size,0,none⟩ (.int .i64 k6)).setCell ⟨w2.heap.size,1,none⟩ (.int .i64 n6)).setCell ⟨w2.heap.size,2,none⟩ (.int .u64 (b6:Int))).setCell ⟨w2.heap.size,3,none⟩ (.string t6)).setCell ⟨w2.heap.size,4,none⟩ (.slice na6 nl6 nc6)).setCell ⟨w2.heap.size,5,none⟩ (.slice ka6 kl6 kc6)).cell? ⟨w.heap.size,0,none⟩=some (.int .i64 j.kindI):=(s6o hne2).trans e0;have g1:((((((w6.setCell ⟨w2.heap.size,0,none⟩ (.int .i64 k6)).setCell ⟨w2.heap.size,1,none⟩ (.int .i64 n6)).setCell ⟨w2.heap.size,2,none⟩ (.int .u64 (b6:Int))).setCell ⟨w2.heap.size,3,none⟩ (.string t6)).setCell ⟨w2.heap.size,4,none⟩ (.slice na6 nl6 nc6)).setCell ⟨w2.heap.size,5,none⟩ (.slice ka6 kl6 kc6)).cell? ⟨w.heap.size,1,none⟩=some (.int .i64 n):=(s6o hne2).trans e1;have g2:((((((w6.setCell ⟨w2.heap.size,0,none⟩ (.int .i64 k6)).setCell ⟨w2.heap.size,1,none⟩ (.int .i64 n6)).setCell ⟨w2.heap.size,2,none⟩ (.int .u64 (b6:Int))).setCell ⟨w2.heap.size,3,none⟩ (.string t6)).setCell ⟨w2.heap.size,4,none⟩ (.slice na6 nl6 nc6)).setCell ⟨w2.heap.size,5,none⟩ (.slice ka6 kl6 kc6)).cell? ⟨w.heap.size,2,none⟩=some (.string t):=(s6o hne2).trans e2;have g3:((((((w6.setCell ⟨w2.heap.size,0,none⟩ (.int .i64 k6)).setCell ⟨w2.heap.size,1,none⟩ (.int .i64 n6)).setCell ⟨w2.heap.size,2,none⟩ (.int .u64 (b6:Int))).setCell ⟨w2.heap.size,3,none⟩ (.string t6)).setCell ⟨w2.heap.size,4,none⟩ (.slice na6 nl6 nc6)).setCell ⟨w2.heap.size,5,none⟩ (.slice ka6 kl6 kc6)).cell? ⟨w.heap.size,3,none⟩=some (.slice a l c):=(s6o hne2).trans e3;have g4:((((((w6.setCell ⟨w2.heap.size,0,none⟩ (.int .i64 k6)).setCell ⟨w2.heap.size,1,none⟩ (.int .i64 n6)).setCell ⟨w2.heap.size,2,none⟩ (.int .u64 (b6:Int))).setCell ⟨w2.heap.size,3,none⟩ (.string t6)).setCell ⟨w2.heap.size,4,none⟩ (.slice na6 nl6 nc6)).setCell ⟨w2.heap.size,5,none⟩ (.slice ka6 kl6 kc6)).cell? ⟨w.heap.size,4,none⟩=some (.slice na nl nc):=(s6o hne2).trans e4;have g5:((((((w6.setCell ⟨w2.heap.size,0,none⟩ (.int .i64 k6)).setCell ⟨w2.heap.size,1,none⟩ (.int .i64 n6)).setCell ⟨w2.heap.size,2,none⟩ (.int .u64 (b6:Int))).setCell ⟨w2.heap.size,3,none⟩ (.string t6)).setCell ⟨w2.heap.size,4,none⟩ (.slice na6 nl6 nc6)).setCell ⟨w2.heap.size,5,none⟩ (.slice ka6 kl6 kc6)).cell? ⟨w.heap.size,5,none⟩=some (.map m):=(s6o hne2).trans e5;unfold dcs))
  exact Z18
 ·exact Z16
 ·have hck:=λW=>nD j 4 n t a na l c nl nc m W
  go_upto_region 32 with (first
   |(go_at_call 156;refine (hck _).mono ?_;rintro e w5 ⟨⟨T,v,rfl⟩|⟨rfl,hkj⟩,ha5⟩;exact ⟨rfl,.inl ⟨_,_,rfl⟩,HD4.out.upd.trans (ha5.upd mb)⟩;have hD5:=HD4.out.add ha5;obtain ⟨x0,x1,x2,x3,x4,x5,xz⟩:=dF hD5.d9;have xz1:=xz 1;have xz3:=xz 3;have xz4:=xz 4;have xz5:=xz 5;clear xz;have HD5:=bf hD5;clear hD5)
   |(refine gU _ rfl _ _ _ rfl _ (Ai _ _ _ _ _ _ _ _ _ _ _) ?_))
  have hDI:=HD5.out.set3 t
  generalize w5.setCell ⟨w2.heap.size,3,none⟩ (.string t)=wx at hDI ⊢
  exact Z19
 ·have hf9:=HF9.out w4 HM4.out
  go_upto_region 32 with (first
   |(go_at_call 161;refine (hf9).mono ?_;rintro e w5 ⟨⟨T,v,rfl⟩|⟨⟨v,rfl,⟨a5,l5,c5,rfl⟩⟩,hat5⟩,hu5⟩;exact ⟨rfl,.inl ⟨_,_,rfl⟩,HD4.out.upd.trans (hu5)⟩;have hD5:=HD4.out.up hu5 hat5;obtain ⟨x0,x1,x2,x3,x4,x5,xz⟩:=dF hD5.d9;have xz1:=xz 1;have xz3:=xz 3;have xz4:=xz 4;have xz5:=xz 5;clear xz;have HD5:=bf hD5;clear hD5))
  have hDI:=HD5.out.set5 a5 l5 c5
  generalize w5.setCell ⟨w2.heap.size,5,none⟩ (.slice a5 l5 c5)=wx at hDI ⊢
  exact Z19
 ·obtain ⟨sa,sc,hs1,hs2⟩:=HT.out.symbols
  have hsy:=AO HLW.out ((HM4.out.old.cell HT.out.lt).trans hs1) (hs2.carry HM4.out.old) HSZ.out.2.1
  clear hs1 hs2
  go_upto_region 32 with (first
   |(go_at_call 160;refine hsy.mono ?_;rintro e w5 ⟨⟨T,v,rfl⟩|⟨n5,rfl,hn5⟩,ha5⟩;exact ⟨rfl,.inl ⟨_,_,rfl⟩,HD4.out.upd.trans (ha5.upd mb)⟩;have hD5:=HD4.out.add ha5;obtain ⟨x0,x1,x2,x3,x4,x5,xz⟩:=dF hD5.d9;have xz1:=xz 1;have xz3:=xz 3;have xz4:=xz 4;have xz5:=xz 5;clear xz;have HD5:=bf hD5;clear hD5))
  have hDI:=HD5.out.set1 n5
  generalize w5.setCell ⟨w2.heap.size,1,none⟩ (.int .i64 n5)=wx at hDI ⊢
  exact Z19
 ·have hck:=λW=>nD j 5 n t a na l c nl nc m W
  rcases arr_or j with ⟨la,rfl⟩|hno
  ·have hl2:=HLJ.out
   rw [J.lies] at hl2
   obtain ⟨a',c',he,hle,hla⟩:=hl2
   simp only [jc,List.cons.injEq,Value.int.injEq,Value.string.injEq,Value.slice.injEq,Value.map.injEq,true_and,and_true] at he
   obtain ⟨-,hn,ht,⟨ha,hll,hc⟩,⟨hna,hnl,hnc⟩,hm⟩:=he
   subst ha hll hc
   have HLA:=bf hla
   have HLE:=bf hle
   clear hla hle hn ht hna hnl hnc hm
   generalize (J.arr la).kindI=kj at *
   go_upto_region 32 with (first
    |(go_at_call 156;refine (hck _).mono ?_;rintro e w5 ⟨⟨T,v,rfl⟩|⟨rfl,hkj⟩,ha5⟩;exact ⟨rfl,.inl ⟨_,_,rfl⟩,HD4.out.upd.trans (ha5.upd mb)⟩;have hD5:=HD4.out.add ha5;obtain ⟨x0,x1,x2,x3,x4,x5,xz⟩:=dF hD5.d9;have xz1:=xz 1;have xz3:=xz 3;have xz4:=xz 4;have xz5:=xz 5;clear xz;have HD5:=bf hD5;clear hD5;have HA5:=bf ha5;clear x0 x1 x2 x3 x4 x5 xz1 xz3 xz4 xz5 ha5)
    |(go_at_call 162;refine (HITM.out _ (HM4.out.add HA5.out) (.inl HKD.out) la 5 n t a na c nl nc m HLA.out HLE.out).mono ?_;rintro e w6 ⟨⟨T,v,rfl⟩|⟨⟨v,rfl,⟨a5,l5,c5,rfl⟩⟩,hat6⟩,hu6⟩;exact ⟨rfl,.inl ⟨_,_,rfl⟩,HD4.out.upd.trans ((HA5.out.upd mb).trans hu6)⟩;have hD6:=HD5.out.up hu6 hat6;obtain ⟨x0,x1,x2,x3,x4,x5,xz⟩:=dF hD6.d9;have xz5:=xz 5;clear xz;have HD6:=bf hD6;have HU6:=bf ((HA5.out.upd mb).trans hu6);clear hD6 hu6 hat6))
   have hDI:=HD6.out.set5 a5 l5 c5
   generalize w6.setCell ⟨w2.heap.size,5,none⟩ (.slice a5 l5 c5)=wx at hDI ⊢
   clear x0 x1 x2 x3 x4 x5 xz5 q0 q1 q2 q3 q4 q5 h0
   exact Z22
  exact Z78
 ·have hck:=λW=>nD j 6 n t a na l c nl nc m W
  rcases obj_or j with ⟨ns,la,rfl⟩|hno
  ·have hl2:=HLJ.out
   rw [J.lies] at hl2
   obtain ⟨a',c',na',nc',m',he,hnl',hle,-,-,-,hst,hla⟩:=hl2
   simp only [jc,List.cons.injEq,Value.int.injEq,Value.string.injEq,Value.slice.injEq,Value.map.injEq,true_and,and_true] at he
   obtain ⟨-,hn,ht,⟨ha,hll,hc⟩,⟨hna,hnl,hnc⟩,hm⟩:=he
   subst ha hll hc hna hnl hnc
   have HLA:=bf hla
   have HLE:=bf hle
   have HST:=bf hst
   have HNL:=bf hnl'
   clear hla hle hn ht hm hst hnl'
   generalize (J.obj ns la).kindI=kj at *
   have Q4:=bf q4
   go_upto_region 29 with (first
    |(go_at_call 156;refine (hck _).mono ?_;rintro e w5 ⟨⟨T,v,rfl⟩|⟨rfl,hkj⟩,ha5⟩;exact ⟨rfl,.inl ⟨_,_,rfl⟩,HD4.out.upd.trans (ha5.upd mb)⟩;have hD5:=HD4.out.add ha5;obtain ⟨x0,x1,x2,x3,x4,x5,xz⟩:=dF hD5.d9;have xz1:=xz 1;have xz3:=xz 3;have xz4:=xz 4;have xz5:=xz 5;clear xz;have HD5:=bf hD5;clear hD5;have HA5:=bf ha5;clear x0 x1 x2 x3 x4 x5 xz1 xz3 xz4 xz5 ha5)
    |(go_at_call 162;refine (HITM.out _ (HM4.out.add HA5.out) (.inr HKD.out) la 6 n t a na c ns.length nc m HLA.out HLE.out).mono ?_;rintro e w6 ⟨⟨T,v,rfl⟩|⟨⟨v,rfl,⟨a5,l5,c5,rfl⟩⟩,hat6⟩,hu6⟩;exact ⟨rfl,.inl ⟨_,_,rfl⟩,HD4.out.upd.trans ((HA5.out.upd mb).trans hu6)⟩;have hD6:=HD5.out.up hu6 hat6;obtain ⟨x0,x1,x2,x3,x4,x5,xz⟩:=dF hD6.d9;have xz5:=xz 5;clear xz;have HD6:=bf hD6;have HU6:=bf ((HA5.out.upd mb).trans hu6);clear hD6 hu6 hat6))
   have hDI:=HD6.out.set5 a5 l5 c5
   have hM7:=HM.out.upd hDI.upd hDI.mkr
   have hq4:(w6.setCell ⟨w2.heap.size,5,none⟩ (.slice a5 l5 c5)).cell? ⟨w.heap.size,4,none⟩=some (.slice na ns.length nc):=(Ob _ _ _ _ Kh).trans (HU6.out.cell (NR HD4.out.lt) Q4.out)
   generalize w6.setCell ⟨w2.heap.size,5,none⟩ (.slice a5 l5 c5)=w7 at hDI hM7 hq4 ⊢
   have hcl:=Dy ok na nc ns w7 (by have h1:=HNL.out;have h2:=HLE.out;omega) (iK.carry HST.out (Keep.of_old hM7.old))
   have HD7:=bf hDI
   clear x0 x1 x2 x3 x4 x5 xz5 q0 q1 q2 q3 q4 q5 h0 hM7 hDI
   go_upto_region 32 with (go_at_call 163;refine hcl.mono ?_;rintro e w8 ⟨⟨a8,c8,rfl⟩,ha8⟩;have hD8:=HD7.out.add ha8;obtain ⟨x0,x1,x2,x3,x4,x5,xz⟩:=dF hD8.d9;have xz4:=xz 4;clear xz;have HD8:=bf hD8;clear hD8)
   have hDI:=HD8.out.set4 a8 ns.length c8
   generalize w8.setCell ⟨w2.heap.size,4,none⟩ (.slice a8 ns.length c8)=wx at hDI ⊢
   clear x0 x1 x2 x3 x4 x5 xz4 hq4 hcl
   exact Z22
  exact Z78
 ·obtain ⟨ba,bc,hb8,hbs⟩:=HT.out.branches
  have hbn:=HBR.out HKD.out
  rcases hbs with hbs|⟨bb,bo,rfl,hbb,hbc⟩
  ·exact absurd hbs hbn
  have hN:0<tab[i].branches.length:=List.length_pos_iff.2 hbn
  have hc0:=hbc 0 hN
  have hb0:=HBL.out tab[i].branches[0] (NS hN)
  generalize tab[i].branches[0]=b0 at hc0 hb0
  generalize tab[i].branches.length=N at hN hb8
  have k8:=(HM4.out.old.cell HT.out.lt).trans hb8
  have kc:w4.cell? ⟨bb,bo,none⟩=some (.pointer (some ⟨pl b0,0,none⟩)):=(HM4.out.old.cell hbb).trans hc0
  have HDC:=bf (HK.out ok w4.drew mb b0 _ j (d+1) hb0 HLJ.out (HM4.out.add (af w4)) HD.out)
  unfold jc at HDC
  have n0:(0:Int)<(N:Int):=Kc
  have hne3:bb≠w2.heap.size:=by have h2:=HM.out.old.size;have h3:=HS2.out;omega
  have HPM:Hid (pl i≠mb/\bb≠mb/\w.heap.size≠mb):=⟨by have h1:=HT.out.lt;have h2:=HM.out.new;omega,by have h2:=HM.out.new;omega,NR HD4.out.lt⟩
  clear hbc hb8 hbn hb0 hc0
  go_upto_region 31 with fail
  go_region_held_law (λw'=>w'.cell? ⟨pl i,8,none⟩=some (.slice (some ⟨bb,bo,none⟩) N bc)/\w'.cell? ⟨bb,bo,none⟩=some (.pointer (some ⟨pl b0,0,none⟩))/\w'.cell? ⟨w.heap.size,0,none⟩=some (.int .i64 j.kindI)/\w'.cell? ⟨w.heap.size,1,none⟩=some (.int .i64 n)/\w'.cell? ⟨w.heap.size,2,none⟩=some (.string t)/\w'.cell? ⟨w.heap.size,3,none⟩=some (.slice a l c)/\w'.cell? ⟨w.heap.size,4,none⟩=some (.slice na nl nc)/\w'.cell? ⟨w.heap.size,5,none⟩=some (.map m)) (first|(with_reducible exact ⟨e8,ec,e0,e1,e2,e3,e4,e5⟩)|(with_reducible exact ⟨k8,kc,q0,q1,q2,q3,q4,q5⟩)|(with_reducible exact ⟨g8,gc,g0,g1,g2,g3,g4,g5⟩)|(with_reducible exact ⟨s8,sc,s0,s1,s2,s3,s4,s5⟩)|go_keep)
   (first
   |(go_at_call 127;refine HDC.out.mono ?_;rintro e w5 ⟨⟨T,v,rfl⟩|⟨⟨v,rfl,hv⟩,hat⟩,hu5⟩;exact ⟨rfl,.inl ⟨_,_,rfl⟩,HD4.out.upd.trans (((af w4).upd mb).trans hu5)⟩;obtain ⟨dk,dn,db,dt,dna,dka,dnl,dnc,dkl,dkc,rfl⟩:=hv;unfold dcs;have hu5':=((af w4).upd mb).trans hu5;have e8:=hu5'.cell HPM.out.1 k8;have ec:=hu5'.cell HPM.out.2.1 kc;have e0:=hu5'.cell HPM.out.2.2 q0;have e1:=hu5'.cell HPM.out.2.2 q1;have e2:=hu5'.cell HPM.out.2.2 q2;have e3:=hu5'.cell HPM.out.2.2 q3;have e4:=hu5'.cell HPM.out.2.2 q4;have e5:=hu5'.cell HPM.out.2.2 q5;have hD5:=HD4.out.up hu5' hat;obtain ⟨x0,x1,x2,x3,x4,x5,xz⟩:=dF hD5.d9;have xz5:=xz 5;have hnw:w2.heap.size≠w5.heap.size:=Nat.ne_of_lt (NW _ _ x5);have HD5:=bf hD5;have g8:(w5.alloc (.cells #[.int .i64 dk,.int .i64 dn,.int .u64 (db:Int),.string dt,.slice dna dnl dnc,.slice dka dkl dkc] 42 (0,0))).cell? ⟨pl i,8,none⟩=some (.slice (some ⟨bb,bo,none⟩) N bc):=(ae _ _).cell e8;have s8:((w5.alloc (.cells #[.int .i64 dk,.int .i64 dn,.int .u64 (db:Int),.string dt,.slice dna dnl dnc,.slice dka dkl dkc] 42 (0,0))).setCell ⟨w2.heap.size,5,none⟩ (.slice (some ⟨w5.heap.size,0,none⟩) 1 1)).cell? ⟨pl i,8,none⟩=some (.slice (some ⟨bb,bo,none⟩) N bc):=(sco hne1).trans g8;have gc:(w5.alloc (.cells #[.int .i64 dk,.int .i64 dn,.int .u64 (db:Int),.string dt,.slice dna dnl dnc,.slice dka dkl dkc] 42 (0,0))).cell? ⟨bb,bo,none⟩=some (.pointer (some ⟨pl b0,0,none⟩)):=(ae _ _).cell ec;have sc:((w5.alloc (.cells #[.int .i64 dk,.int .i64 dn,.int .u64 (db:Int),.string dt,.slice dna dnl dnc,.slice dka dkl dkc] 42 (0,0))).setCell ⟨w2.heap.size,5,none⟩ (.slice (some ⟨w5.heap.size,0,none⟩) 1 1)).cell? ⟨bb,bo,none⟩=some (.pointer (some ⟨pl b0,0,none⟩)):=(sco hne3).trans gc;have g0:(w5.alloc (.cells #[.int .i64 dk,.int .i64 dn,.int .u64 (db:Int),.string dt,.slice dna dnl dnc,.slice dka dkl dkc] 42 (0,0))).cell? ⟨w.heap.size,0,none⟩=some (.int .i64 j.kindI):=(ae _ _).cell e0;have s0:((w5.alloc (.cells #[.int .i64 dk,.int .i64 dn,.int .u64 (db:Int),.string dt,.slice dna dnl dnc,.slice dka dkl dkc] 42 (0,0))).setCell ⟨w2.heap.size,5,none⟩ (.slice (some ⟨w5.heap.size,0,none⟩) 1 1)).cell? ⟨w.heap.size,0,none⟩=some (.int .i64 j.kindI):=(sco hne2).trans g0;have g1:(w5.alloc (.cells #[.int .i64 dk,.int .i64 dn,.int .u64 (db:Int),.string dt,.slice dna dnl dnc,.slice dka dkl dkc] 42 (0,0))).cell? ⟨w.heap.size,1,none⟩=some (.int .i64 n):=(ae _ _).cell e1;have s1:((w5.alloc (.cells #[.int .i64 dk,.int .i64 dn,.int .u64 (db:Int),.string dt,.slice dna dnl dnc,.slice dka dkl dkc] 42 (0,0))).setCell ⟨w2.heap.size,5,none⟩ (.slice (some ⟨w5.heap.size,0,none⟩) 1 1)).cell? ⟨w.heap.size,1,none⟩=some (.int .i64 n):=(sco hne2).trans g1;have g2:(w5.alloc (.cells #[.int .i64 dk,.int .i64 dn,.int .u64 (db:Int),.string dt,.slice dna dnl dnc,.slice dka dkl dkc] 42 (0,0))).cell? ⟨w.heap.size,2,none⟩=some (.string t):=(ae _ _).cell e2;have s2:((w5.alloc (.cells #[.int .i64 dk,.int .i64 dn,.int .u64 (db:Int),.string dt,.slice dna dnl dnc,.slice dka dkl dkc] 42 (0,0))).setCell ⟨w2.heap.size,5,none⟩ (.slice (some ⟨w5.heap.size,0,none⟩) 1 1)).cell? ⟨w.heap.size,2,none⟩=some (.string t):=(sco hne2).trans g2;have g3:(w5.alloc (.cells #[.int .i64 dk,.int .i64 dn,.int .u64 (db:Int),.string dt,.slice dna dnl dnc,.slice dka dkl dkc] 42 (0,0))).cell? ⟨w.heap.size,3,none⟩=some (.slice a l c):=(ae _ _).cell e3;have s3:((w5.alloc (.cells #[.int .i64 dk,.int .i64 dn,.int .u64 (db:Int),.string dt,.slice dna dnl dnc,.slice dka dkl dkc] 42 (0,0))).setCell ⟨w2.heap.size,5,none⟩ (.slice (some ⟨w5.heap.size,0,none⟩) 1 1)).cell? ⟨w.heap.size,3,none⟩=some (.slice a l c):=(sco hne2).trans g3;have g4:(w5.alloc (.cells #[.int .i64 dk,.int .i64 dn,.int .u64 (db:Int),.string dt,.slice dna dnl dnc,.slice dka dkl dkc] 42 (0,0))).cell? ⟨w.heap.size,4,none⟩=some (.slice na nl nc):=(ae _ _).cell e4;have s4:((w5.alloc (.cells #[.int .i64 dk,.int .i64 dn,.int .u64 (db:Int),.string dt,.slice dna dnl dnc,.slice dka dkl dkc] 42 (0,0))).setCell ⟨w2.heap.size,5,none⟩ (.slice (some ⟨w5.heap.size,0,none⟩) 1 1)).cell? ⟨w.heap.size,4,none⟩=some (.slice na nl nc):=(sco hne2).trans g4;have g5:(w5.alloc (.cells #[.int .i64 dk,.int .i64 dn,.int .u64 (db:Int),.string dt,.slice dna dnl dnc,.slice dka dkl dkc] 42 (0,0))).cell? ⟨w.heap.size,5,none⟩=some (.map m):=(ae _ _).cell e5;have s5:((w5.alloc (.cells #[.int .i64 dk,.int .i64 dn,.int .u64 (db:Int),.string dt,.slice dna dnl dnc,.slice dka dkl dkc] 42 (0,0))).setCell ⟨w2.heap.size,5,none⟩ (.slice (some ⟨w5.heap.size,0,none⟩) 1 1)).cell? ⟨w.heap.size,5,none⟩=some (.map m):=(sco hne2).trans g5;have gx5:=(ae w5 (.cells #[.int .i64 dk,.int .i64 dn,.int .u64 (db:Int),.string dt,.slice dna dnl dnc,.slice dka dkl dkc] 42 (0,0))).cell x5;have gz5:(w5.alloc (.cells #[.int .i64 dk,.int .i64 dn,.int .u64 (db:Int),.string dt,.slice dna dnl dnc,.slice dka dkl dkc] 42 (0,0))).frozen? ⟨w2.heap.size,5,none⟩=false:=((ae _ _).frozen (NW _ _ x5)).trans xz5;have HX5:=bf x5;clear x5 xz5;clear xz hD5 hu5 hu5' hat))
  have hDI:=(HD5.out.add (ae w5 (.cells #[.int .i64 dk,.int .i64 dn,.int .u64 (db:Int),.string dt,.slice dna dnl dnc,.slice dka dkl dkc] 42 (0,0)))).set5 (some ⟨w5.heap.size,0,none⟩) 1 1
  generalize ((w5.alloc (.cells #[.int .i64 dk,.int .i64 dn,.int .u64 (db:Int),.string dt,.slice dna dnl dnc,.slice dka dkl dkc] 42 (0,0))).setCell ⟨w2.heap.size,5,none⟩ (.slice (some ⟨w5.heap.size,0,none⟩) 1 1))=wx at hDI ⊢
  clear x0 x1 x2 x3 x4 gx5 gz5 g8 gc g0 g1 g2 g3 g4 g5 s8 sc s0 s1 s2 s3 s4 s5 e8 ec e0 e1 e2 e3 e4 e5 k8 kc q0 q1 q2 q3 q4 q5 h0
  exact Z22
 exact Z16
end
end Go.Proofs.YtmphmjkinmkidaaGreatDoor
