import Derived.Test.YtceinlbeeahkeaaGreatDoorS38
set_option linter.defProp false
open Go.Proofs.Tryz
set_option maxRecDepth 8000
set_option maxHeartbeats 8000000
open Go Go.RowKit Go.Extern.Stop Go.Stop Go.Extern Go.Maps
namespace Go.Proofs.YtceinlbeeahkeaaGreatDoor
variable{p:Prop}
section
variable{s t:ByteArray}{i id j l:Nat}{a:List ByteArray × List Dat}
def Y195(h:p:=by exact (show w5.cell? ⟨w0.heap.size+4,0,none⟩=some (.slice va n vc) from pk)):p:=h
def Y196(h:p:=by exact (show ∀b,b<w0.heap.size+7->b<(w5.alloc (.cells #[.int .i64 0,.int .i64 0,.int .u64 0,.string ⟨#[]⟩,.slice none 0 0,.slice none 0 0] 42 (0,0))).heap.size from λb hb=>NK hb (NM HB4.out (NM HU5.out.size (ae w5 _:Add w5 (w5.alloc (.cells #[.int .i64 0,.int .i64 0,.int .u64 0,.string ⟨#[]⟩,.slice none 0 0,.slice none 0 0] 42 (0,0)))).size)))):p:=h
def Y197(h:p:=by exact ((Oa (a:=⟨w0.heap.size+4,0,none⟩) (HU5.out.old (w0.heap.size+4) MJ HNE.out.2.2.2.1)).trans HZK.out)):p:=h
def Y198(h:p:=by exact (show w8.frozen? ⟨w0.heap.size+4,0,none⟩=false from (hg8.frozen (hsz6 _ Kc) (hown _ Kc)).trans (((ae w5 _:Add w5 (w5.alloc (.cells #[.int .i64 0,.int .i64 0,.int .u64 0,.string ⟨#[]⟩,.slice none 0 0,.slice none 0 0] 42 (0,0)))).frozen (NW _ _ pk)).trans fk5))):p:=h
def Y199(h:p:=by exact (show Hid (w0.heap.size+7<=g8) from (by rcases hg8.at' with h|⟨h,h2,h3⟩;exact HK.out.own g8 h.symm;have h4:g8=h:=(by simpa [blk] using h3);have h5:=hsz6 (w0.heap.size+6) Kc;show _<=_;omega))):p:=h
def Y200(h:p:=by exact (EC (pid:=pl id) (dep:=dep) rfl HII.out HQM.out HQK.out HRM.out HOM.out HKX.out HN.out HU.out HU5.out HX.out (ae w5 _:Add w5 (w5.alloc (.cells #[.int .i64 0,.int .i64 0,.int .u64 0,.string ⟨#[]⟩,.slice none 0 0,.slice none 0 0] 42 (0,0)))) HG8.out HR8.out HD5.out)):p:=h
def Y201(h:p:=by exact (show ∀b,b<w0.heap.size+7->b<w5.heap.size from λb hb=>NK hb (NM HB4.out (NM HU5.out.size (Add.refl w5:Add w5 w5).size)))):p:=h
def Y202(h:p:=by exact (show w8.frozen? ⟨w0.heap.size+4,0,none⟩=false from (hg8.frozen (hsz6 _ Kc) (hown _ Kc)).trans (((Add.refl w5:Add w5 w5).frozen (NW _ _ pk)).trans fk5))):p:=h
def Y203(h:p:=by exact (EC (pid:=pl id) (dep:=dep) rfl HII.out HQM.out HQK.out HRM.out HOM.out HKX.out HN.out HU.out HU5.out HX.out (Add.refl w5:Add w5 w5) HG8.out HR8.out HD5.out)):p:=h
def Y228(h:p:=by exact (xX w8 g8 (n*6) (.int .i64 dk) (.int .i64 dn) (.int .u64 (db:Int)) (.string dt) (.slice dna dnl dnc) (.slice dka dkl dkc) ⟨w0.heap.size+4,0,none⟩ (.slice (some ⟨g8,0,none⟩) (n+1) c8) (by show w0.heap.size+4≠g8;have:=HBG.out;omega))):p:=h
def Y229(h:p:=by exact (show ∀b o (y:Value),b<w0.heap.size+7->w8.cell? ⟨b,o,none⟩=some y->(eT w8 g8 (n*6) (.int .i64 dk) (.int .i64 dn) (.int .u64 (db:Int)) (.string dt) (.slice dna dnl dnc) (.slice dka dkl dkc)).cell? ⟨b,o,none⟩=some y from λb o y hb hy=>(NY (a:=⟨b,o,none⟩) (gy _ _ _ _ _ _ _ _ _ b Lr)).trans hy)):p:=h
def Y231(h:p:=by exact (show ∀b o (y:Value),b≠w0.heap.size+4->w9.cell? ⟨b,o,none⟩=some y->(w9.setCell ⟨w0.heap.size+4,0,none⟩ (.slice (some ⟨g8,0,none⟩) (n+1) c8)).cell? ⟨b,o,none⟩=some y from λb o y hb hy=>(NY (a:=⟨b,o,none⟩) (NZ _ _ _ _ MO)).trans hy)):p:=h
def Y232(h:p:=by exact (show ∀b o (y:Value),b≠w0.heap.size+4->w8.cell? ⟨b,o,none⟩=some y->(w8.setCell ⟨w0.heap.size+4,0,none⟩ (.slice (some ⟨g8,0,none⟩) (n+1) c8)).cell? ⟨b,o,none⟩=some y from λb o y hb hy=>(NY (a:=⟨b,o,none⟩) (NZ _ _ _ _ MO)).trans hy)):p:=h
def Z1(h:p:=by
 apply rd 9
 intro K hK
 go_simp
 refine hK.out _ _ ⟨(ae w5 _).cell p3,(ae w5 _).cell p4,(ae w5 _).cell p5,(ae w5 _).cell p7⟩ (λhH=>?_)
 clear hK K
 have HROW:=Y153
 apply rd 10
 intro K hK
 refine dO _ Kl _ _ 28 28 Kl Ke iV zV iV.bytes underlying28 hiV hzV hsV rfl hz6 Kl HROW.out _ 1 _ Kl (dA _ underlying28 w5.heap.size _ _ _ _ _ _ (λf hf=>tQ w5 f hf) yK) Ki (hbyte _ Kc) ?_
 intro v8 w8 hrow8 hg8
 obtain ⟨g8,c8,rfl,hgl,-⟩:=Y154
 have HG8:=bf hg8
 have HR8:=bf hrow8
 have hown:∀b,b<w0.heap.size+7->blk (.slice va n vc)≠some b:=λb hb e=>by have:=HK.out.own b e;omega
 have hsz6:=Y196
 have e3:=Y156
 have e4:=Y157
 have e5:=Y158
 have e7:=Y159
 have fk5:=Y197
 have ek8:=Y161
 have fk8:=Y198
 have hth:=Y163
 obtain ⟨z0,t0⟩:=Y164
 obtain ⟨z1,t1⟩:=Y165
 obtain ⟨z2,t2⟩:=Y166
 obtain ⟨z3,t3⟩:=Y167
 obtain ⟨z4,t4⟩:=Y168
 obtain ⟨z5,t5⟩:=Y169
 have y0:=(hth 0 Kc).2
 have y1:=(hth 1 Kc).2
 have y2:=(hth 2 Kc).2
 have y3:=(hth 3 Kc).2
 have y4:=(hth 4 Kc).2
 have y5:=(hth 5 Kc).2
 rw [Nat.add_zero] at t0 y0
 have HBG:=Y199
 refine hK.out _ _ ⟨e3,e4,e5,e7⟩ (λhH=>?_)
 clear hK K hth hrow8 hg8 hgl hown hsz6
 simp only [Act.put,List.getElem_toArray,List.getElem_cons_zero,List.getElem_cons_succ,List.setIfInBounds_toArray,List.set_cons_zero,List.set_cons_succ]
 apply tk 11
 have hE:=Y200
 exact Z243):p:=h
def Z2(h:p:=by
 apply rd 7
 intro K hK
 go_simp
 go_wp2_with (go_at_call 59;refine (hdc _ ((af wr).trans (ae _ _))).mono ?_;rintro e w5 ⟨hu5,⟨⟨x,hx,rfl⟩,hO⟩|⟨x,j5,l5,cs5,hO,rfl,hx,hD5⟩⟩;exact ⟨rfl,HU.out.trans ((((af wr).trans (ae _ _)).upd rb).trans hu5),.inl ⟨⟨x,hx,rfl⟩,by rw [<-HR.out];exact qe HZ1.out HB.out hO⟩⟩;obtain ⟨dk,dn,db,dt,dna,dka,dnl,dnc,dkl,dkc,rfl⟩:=aO hx;unfold dcs)
 have HU5:=Y172
 have HX:=Y173
 have HO:=bf hO
 have HD5:=bf hD5
 have p3:=Y147
 have p4:=Y148
 have p5:=Y149
 have pk:=Y150
 have p7:=Y151
 have HZ5:=Y174
 refine hK.out _ _ ⟨p3,p4,p5,p7⟩ (λhH=>?_)
 clear hK K hu5 hx hO hD5
 have HROW:=Y175
 apply rd 10
 intro K hK
 refine dO _ Kl _ _ 28 28 Kl Ke iV zV iV.bytes underlying28 hiV hzV hsV rfl hz6 Kl HROW.out _ 1 _ Kl (dA _ underlying28 wr.heap.size _ _ _ _ _ _ (HZ5.out) yK) Ki (hbyte _ Kc) ?_
 intro v8 w8 hrow8 hg8
 obtain ⟨g8,c8,rfl,hgl,-⟩:=Y154
 have HG8:=bf hg8
 have HR8:=bf hrow8
 have hown:∀b,b<w0.heap.size+7->blk (.slice va n vc)≠some b:=λb hb e=>by have:=HK.out.own b e;omega
 have hsz6:=Y201
 have e3:=Y177
 have e4:=Y178
 have e5:=Y179
 have e7:=Y180
 have fk5:=Y197
 have ek8:=Y181
 have fk8:=Y202
 have hth:=Y163
 obtain ⟨z0,t0⟩:=Y164
 obtain ⟨z1,t1⟩:=Y165
 obtain ⟨z2,t2⟩:=Y166
 obtain ⟨z3,t3⟩:=Y167
 obtain ⟨z4,t4⟩:=Y168
 obtain ⟨z5,t5⟩:=Y169
 have y0:=(hth 0 Kc).2
 have y1:=(hth 1 Kc).2
 have y2:=(hth 2 Kc).2
 have y3:=(hth 3 Kc).2
 have y4:=(hth 4 Kc).2
 have y5:=(hth 5 Kc).2
 rw [Nat.add_zero] at t0 y0
 have HBG:=Y199
 refine hK.out _ _ ⟨e3,e4,e5,e7⟩ (λhH=>?_)
 clear hK K hth hrow8 hg8 hgl hown hsz6
 simp only [Act.put,List.getElem_toArray,List.getElem_cons_zero,List.getElem_cons_succ,List.setIfInBounds_toArray,List.set_cons_zero,List.set_cons_succ]
 apply tk 11
 have hE:=Y203
 exact Z243):p:=h
def Z6(h:p:=by
 have hcm:=Y228
 have hS:=Y229
 have k3:=hS _ _ _ Kc e3
 have k4:=hS _ _ _ Kc e4
 have k5:=hS _ _ _ Kc e5
 have k7:=Y230
 clear hS
 unfold eT at hE k3 k4 k5 k7 hcm
 refine wpAnyH_ready (rs:=[12,13]) Kf Kh ?_
 refine AllReadyH.cons rfl (λK hK=>?_) (AllReadyH.cons rfl (λK hK=>?_) AllReadyH.nil)
 ·go_simp
  generalize ((((((w8.setCell ⟨g8,n*6,none⟩ (.int .i64 dk)).setCell ⟨g8,n*6+1,none⟩ (.int .i64 dn)).setCell ⟨g8,n*6+2,none⟩ (.int .u64 (db:Int))).setCell ⟨g8,n*6+3,none⟩ (.string dt)).setCell ⟨g8,n*6+4,none⟩ (.slice dna dnl dnc)).setCell ⟨g8,n*6+5,none⟩ (.slice dka dkl dkc))=w9 at hE k3 k4 k5 k7 ⊢
  obtain ⟨⟨ek,fk⟩,hU10,hI10,hD10⟩:=hE
  refine hK.out _ _ ⟨k3,k4,k5,k7⟩ (λhH=>?_)
  clear hK K t0 t1 t2 t3 t4 t5 y0 y1 y2 y3 y4 y5 e3 e4 e5 e7 p3 p4 p5 p7 pk hcm
  apply rd 13
  intro K hK
  go_simp
  have hS:=Y231
  refine hK.out _ _ ⟨hS _ _ _ Kc k3,hS _ _ _ Kc k4,hS _ _ _ Kc k5,hS _ _ _ Kv k7⟩ (λhH=>?_)
  clear hK K hS ek fk k3 k4 k5 k7
  exact Z253
 have hne:w0.heap.size+4≠g8:=Lr
 go_simp
 have hS:=Y232
 have f3:=hS _ _ _ Kc e3
 have f4:=hS _ _ _ Kc e4
 have f5:=hS _ _ _ Kc e5
 have f7:=Y233
 have t0':=Y234
 have t1':=Y235
 have t2':=Y236
 have t3':=Y237
 have t4':=Y238
 have t5':=Y239
 have hF:∀o,w8.frozen? ⟨g8,o,none⟩=false->(w8.setCell ⟨w0.heap.size+4,0,none⟩ (.slice (some ⟨g8,0,none⟩) (n+1) c8)).frozen? ⟨g8,o,none⟩=false:=λo h=>by rw [Od];exact h
 have y0':=hF _ y0
 have y1':=hF _ y1
 have y2':=hF _ y2
 have y3':=hF _ y3
 have y4':=hF _ y4
 have y5':=hF _ y5
 refine hK.out _ _ ⟨f3,f4,f5,f7⟩ (λhH=>?_)
 clear hK K t0 t1 t2 t3 t4 t5 y0 y1 y2 y3 y4 y5 hS hF
 apply rd 12
 intro K hK
 generalize w8.setCell ⟨w0.heap.size+4,0,none⟩ (.slice (some ⟨g8,0,none⟩) (n+1) c8)=w8' at t0' t1' t2' t3' t4' t5' y0' y1' y2' y3' y4' y5' hcm ⊢
 have HCM:=bf hcm
 clear hcm
 go_simp
 rw [HCM.out]
 generalize ((((((w8.setCell ⟨g8,n*6,none⟩ (.int .i64 dk)).setCell ⟨g8,n*6+1,none⟩ (.int .i64 dn)).setCell ⟨g8,n*6+2,none⟩ (.int .u64 (db:Int))).setCell ⟨g8,n*6+3,none⟩ (.string dt)).setCell ⟨g8,n*6+4,none⟩ (.slice dna dnl dnc)).setCell ⟨g8,n*6+5,none⟩ (.slice dka dkl dkc))=w9 at hE k3 k4 k5 k7 ⊢
 obtain ⟨-,hU10,hI10,hD10⟩:=hE
 have hS:=Y231
 refine hK.out _ _ ⟨hS _ _ _ Kc k3,hS _ _ _ Kc k4,hS _ _ _ Kc k5,hS _ _ _ Kv k7⟩ (λhH=>?_)
 clear hK K
 exact Z253):p:=h
def Z115(h:p:=by
 unfold jS;rw [h]
 show (if lG s a.1=true then none else _)=_
 rw [if_neg (by rw [show lG s a.1=dU s a.1 from rfl,hi];simp),hg]):p:=h
def Z243(h:p:=by
 have hcm:=Y228
 have hS:=Y229
 have k3:=hS _ _ _ Kc e3
 have k4:=hS _ _ _ Kc e4
 have k5:=hS _ _ _ Kc e5
 have k7:=Y230
 clear hS
 unfold eT at hE k3 k4 k5 k7 hcm
 refine wpAnyH_ready (rs:=[12,13]) Kf Kh ?_
 refine AllReadyH.cons rfl (λK hK=>?_) (AllReadyH.cons rfl (λK hK=>?_) AllReadyH.nil)
 ·go_simp
  generalize ((((((w8.setCell ⟨g8,n*6,none⟩ (.int .i64 dk)).setCell ⟨g8,n*6+1,none⟩ (.int .i64 dn)).setCell ⟨g8,n*6+2,none⟩ (.int .u64 (db:Int))).setCell ⟨g8,n*6+3,none⟩ (.string dt)).setCell ⟨g8,n*6+4,none⟩ (.slice dna dnl dnc)).setCell ⟨g8,n*6+5,none⟩ (.slice dka dkl dkc))=w9 at hE k3 k4 k5 k7 ⊢
  obtain ⟨⟨ek,fk⟩,hU10,hI10,hD10⟩:=hE
  refine hK.out _ _ ⟨k3,k4,k5,k7⟩ (λhH=>?_)
  clear hK K t0 t1 t2 t3 t4 t5 y0 y1 y2 y3 y4 y5 e3 e4 e5 e7 p3 p4 p5 p7 pk hcm
  apply rd 13
  intro K hK
  go_simp
  have hS:=Y231
  refine hK.out _ _ ⟨hS _ _ _ Kc k3,hS _ _ _ Kc k4,hS _ _ _ Kc k5,hS _ _ _ Kv k7⟩ (λhH=>?_)
  clear hK K hS ek fk k3 k4 k5 k7
  exact Z272
 have hne:w0.heap.size+4≠g8:=Lr
 go_simp
 have hS:=Y232
 have f3:=hS _ _ _ Kc e3
 have f4:=hS _ _ _ Kc e4
 have f5:=hS _ _ _ Kc e5
 have f7:=Y233
 have t0':=Y234
 have t1':=Y235
 have t2':=Y236
 have t3':=Y237
 have t4':=Y238
 have t5':=Y239
 have hF:∀o,w8.frozen? ⟨g8,o,none⟩=false->(w8.setCell ⟨w0.heap.size+4,0,none⟩ (.slice (some ⟨g8,0,none⟩) (n+1) c8)).frozen? ⟨g8,o,none⟩=false:=λo h=>by rw [Od];exact h
 have y0':=hF _ y0
 have y1':=hF _ y1
 have y2':=hF _ y2
 have y3':=hF _ y3
 have y4':=hF _ y4
 have y5':=hF _ y5
 refine hK.out _ _ ⟨f3,f4,f5,f7⟩ (λhH=>?_)
 clear hK K t0 t1 t2 t3 t4 t5 y0 y1 y2 y3 y4 y5 hS hF
 apply rd 12
 intro K hK
 generalize w8.setCell ⟨w0.heap.size+4,0,none⟩ (.slice (some ⟨g8,0,none⟩) (n+1) c8)=w8' at t0' t1' t2' t3' t4' t5' y0' y1' y2' y3' y4' y5' hcm ⊢
 have HCM:=bf hcm
 clear hcm
 go_simp
 rw [HCM.out]
 generalize ((((((w8.setCell ⟨g8,n*6,none⟩ (.int .i64 dk)).setCell ⟨g8,n*6+1,none⟩ (.int .i64 dn)).setCell ⟨g8,n*6+2,none⟩ (.int .u64 (db:Int))).setCell ⟨g8,n*6+3,none⟩ (.string dt)).setCell ⟨g8,n*6+4,none⟩ (.slice dna dnl dnc)).setCell ⟨g8,n*6+5,none⟩ (.slice dka dkl dkc))=w9 at hE k3 k4 k5 k7 ⊢
 obtain ⟨-,hU10,hI10,hD10⟩:=hE
 have hS:=Y231
 refine hK.out _ _ ⟨hS _ _ _ Kc k3,hS _ _ _ Kc k4,hS _ _ _ Kc k5,hS _ _ _ Kv k7⟩ (λhH=>?_)
 clear hK K
 exact Z272):p:=h
def Z253(h:p:=by
 generalize w9.setCell ⟨w0.heap.size+4,0,none⟩ (.slice (some ⟨g8,0,none⟩) (n+1) c8)=w10 at hU10 hI10 hD10 ⊢
 exact Z274):p:=h
def Z272(h:p:=by
 generalize w9.setCell ⟨w0.heap.size+4,0,none⟩ (.slice (some ⟨g8,0,none⟩) (n+1) c8)=w10 at hU10 hI10 hD10 ⊢
 exact Z274):p:=h
def Z274(h:p:=by
 refine wpAnyH_done Kf ?_ _
 go_wp2
 go_end0
 exact ⟨hU10,.inr ⟨(ns',ks++[x]),j5,l5,by rw [<-HR.out,<-HNS.out];exact Gw HZ1.out HB.out HO.out,rfl,⟨hI10,by rw [<-HNS.out];simp [HNK.out]⟩,hD10⟩⟩):p:=h
theorem urd_sz{u:ByteArray}(h:tr? (urd t i)=some (u,j))(hz:t.size<=70368744177000):u.size<=70368744177000:=by
 unfold urd lrd at h
 cases hv:vrd t 10 0 i 0 with
 |ok z k=>
  rw [hv] at h
  simp only at h
  by_cases h1:jR z<0
  ·rw [if_pos h1] at h;cases h
  rw [if_neg h1] at h
  by_cases h2:(t.size:Int)-k<jR z
  ·rw [if_pos h2] at h;cases h
  rw [if_neg h2] at h
  simp only at h
  by_cases h3:Lib.validD (t.extract k (k+(jR z).toNat)).data.toList=true
  ·rw [if_pos h3] at h
   cases h
   exact Z227
  rw [if_neg h3] at h;cases h
 |short=>exact Z242
 |range=>exact Z242
theorem Gg{g:Nat->Nat->Nat->DR}(h:tr? (urd t i)=none):jS t g id a i l=none:=by unfold jS;rw [h]
theorem DI{g:Nat->Nat->Nat->DR}(h:tr? (urd t i)=some (s,j))(hi:dU s a.1=true):jS t g id a i l=none:=by
 unfold jS;rw [h];exact if_pos hi
theorem qe{g:Nat->Nat->Nat->DR}(h:tr? (urd t i)=some (s,j))(hi:dU s a.1=false)(hg:g id j l=none):jS t g id a i l=none:=by
 exact Z115
theorem Gw{g:Nat->Nat->Nat->DR}{j2 l2:Nat}{d:Dat}(h:tr? (urd t i)=some (s,j))(hi:dU s a.1=false)(hg:g id j l=some (d,j2,l2)):jS t g id a i l=some ((a.1++[s],a.2++[d]),j2,l2):=by
 exact Z115
theorem Jk{tab:List TNode}{pl:Nat->Nat}{dep:Int}{g:Nat->Nat->Nat->DR}(hg:uj tab pl t dep g)(id:Nat)(hid:id<tab.length)(hk:tab[id].kind=11\/tab[id].kind=12){W w0 wr:World}{rb:Nat}{s r d m:Value}{ns:List ByteArray}{ks:List Dat}(hI:MapI w0.heap.size rb (pl id) dep ns ks wr)(hnk:ns.length=ks.length)(hu:Upd rb w0 wr)(hD:Dcd W wr tab pl rb t s r d m i l)(hkl:ks.length<=1000):
  Calls prog 134 #[.pointer (some ⟨w0.heap.size,0,none⟩),.pointer (some ⟨w0.heap.size+6,0,none⟩),.pointer (some ⟨w0.heap.size+3,0,none⟩),.pointer (some ⟨w0.heap.size+4,0,none⟩),.pointer (some ⟨w0.heap.size+1,0,none⟩),.pointer (some ⟨w0.heap.size+2,0,none⟩)] wr λe w'=>Upd rb w0 w'/\((pg s r d m e/\jS t g tab[id].item (ns,ks) i l=none)\/∃a j l2,jS t g tab[id].item (ns,ks) i l=some (a,j,l2)/\e=.returned (.tuple #[])/\(MapI w0.heap.size rb (pl id) dep a.1 a.2 w'/\a.1.length=a.2.length)/\Dcd W w' tab pl rb t s r d m j l2):=by
 generalize hR:jS t g tab[id].item (ns,ks) i l=R
 have HR:=bf hR
 have HNK:=bf hnk
 have HU:=bf hu
 have HI:=bf hI
 have HG:=bf hg
 have HK12:=bf hk
 have HID:=bf hid
 have q3:=hI.c3
 have hv:=vL rb hD.rbn t i l s r d m wr hD.werr hD.wtabs hD.rdr hD.le hD.sz
 have HD:=bf hD
 have HKL:=bf hkl
 clear hR hnk hu hI hg hk hD hkl
 go_enter func134,ntmps134
 go_upto_region 1 with (go_at_call 93;refine hv.mono ?_;intro e w1 hv5;obtain ⟨hu1,⟨⟨x,hx,rfl⟩,hz⟩|⟨u,j,hz,rfl,hD1⟩⟩:=Ac HD.out (λu j h=>(CS h HD.out.le)) hv5;exact ⟨rfl,HU.out.trans hu1,.inl ⟨⟨x,hx,rfl⟩,by rw [<-HR.out];exact Gg hz⟩⟩)
 have hI1:=HI.out.upd hu1
 have HU1:=bf (HU.out.trans hu1)
 have hus:=urd_sz hz hD1.sz
 obtain ⟨c,hlk⟩:=hI1.hs.look u hus
 have hl1:=hlk w1 rfl
 have hl2:=hlk w1.drew rfl
 have qp:=hI1.cp
 obtain ⟨rT,hrT,hrc⟩:=hD1.werr.range
 have hrt:∀W',Calls prog 86 #[.bool true,r] W' λe w'=>e=.returned (.tuple #[])/\w'=W':=λW'=>by rw [hrT];exact gN _ _ W'
 have hrf:∀W',Calls prog 86 #[.bool false,r] W' λe w'=>e=.panicked (gF r)/\w'=W':=λW'=>by rw [hrT];exact gV _ _ W'
 have HI1:=bf hI1
 have HD1:=bf hD1
 have HZ1:=bf hz
 have HUS:=bf hus
 clear hrT hv hv5 hu1 hI1 hD1 hz hus hlk q3
 cases hb:dU u ns
 rotate_left
 ·rw [hb] at hl1 hl2
  go_wp2_with (go_at_call 86;refine (hrf _).mono ?_;rintro e w2 ⟨rfl,hw2⟩)
  exact ⟨rfl,HU1.out,.inl ⟨⟨_,.inr (.inl rfl),rfl⟩,by rw [<-HR.out];exact DI HZ1.out hb⟩⟩
 rw [hb] at hl1 hl2
 have HB:=bf hb
 clear hb
 go_upto_region 3 with (go_at_call 86;refine (hrt _).mono ?_;rintro e w2 ⟨rfl,hw2⟩;obtain rfl:w1=w2:=hw2.symm;clear hw2)
 obtain ⟨vn,v,cells,qn,qnz,qk,qz,hRN,hON,hK⟩:=HI1.out.kd
 obtain ⟨vna,vnc,hvs⟩:=hRN.shape
 subst hvs
 obtain ⟨nn,hn⟩:∃n,ns.length=n:=⟨_,rfl⟩
 rw [hn] at hRN qn hON hK
 have hn5:nn<=1000:=by have h1:=HNK.out;have h2:=HKL.out;omega
 obtain ⟨w3,hrun,hm3,hg3⟩:=HI1.out.hs.putx u HUS.out Kc (nn:Int) Kc
 have qn3:w3.cell? ⟨w0.heap.size+3,0,none⟩=some (.slice vna nn vnc):=(NY (a:=⟨w0.heap.size+3,0,none⟩) (hg3.block _ (NW _ _ qn) (λe=>by have e':=Option.some.inj e;simp only at e';omega))).trans qn
 have qz3:w3.frozen? ⟨w0.heap.size+3,0,none⟩=false:=(Oa (a:=⟨w0.heap.size+3,0,none⟩) (hg3.block _ (NW _ _ qn) (λe=>by have e':=Option.some.inj e;simp only at e';omega))).trans qnz
 have hR3:Row w3 1 (.slice vna nn vnc) nn (ns.map Value.string):=hRN.carry λi hi=>hg3.block i (hRN.blk_lt hi) (λe=>by have h1:=hON i hi;cases e;omega)
 have HL3:Hid (w0.heap.size+3<w3.heap.size):=NW _ _ qn3
 have HQN:=bf qn
 have HM3:=bf hm3
 have HG3:=bf hg3
 have HON:=bf hON
 have HNN:=bf hn
 obtain ⟨iS,zS,hiS,hzS,hsS,hz1,hbS⟩:=Tryz.infoS1
 have hbyS:=Y109
 clear hl1 hl2 hrc hrt hrf qnz qk qz hRN hON hK hm3 hg3 hn hbS
 go_upto_region 4 with fail
 clear hrun qn qp
 go_upto_region 5 with (at_builtin;refine dH _ rfl _ _ 31 31 rfl Ke iS zS iS.bytes underlying31 hiS hzS hsS rfl hz1 rfl (hR3.alloc _) _ 1 _ rfl (di _ underlying31 _ rfl 9 _ rfl) Ki (hbyS _ Kc) ?_;intro nv5 w5 hrow5 hg5;obtain ⟨na5,nc5,rfl⟩:=hrow5.shape;have HE:=bf (HI1.out.name rfl HNN.out HQN.out HU1.out HD1.out HM3.out HG3.out (ae _ _) hg5 hrow5);have g4:=hg5.cell (b:=w0.heap.size+3) (o:=0) (by rw [dE];have:=HL3.out;omega) (λe=>by have:=HON.out _ e;omega) ((ae _ _).cell qn3);have gz:w5.frozen? ⟨w0.heap.size+3,0,none⟩=false:=(hg5.frozen (by rw [dE];have:=HL3.out;omega) (λe=>by have:=HON.out _ e;omega)).trans (((ae w3 _).frozen HL3.out).trans qz3);clear hrow5 hg5)
 have hE:=HE.out
 generalize w5.setCell ⟨w0.heap.size+3,0,none⟩ (.slice na5 (nn+1) nc5)=wr at hE ⊢
 obtain ⟨hI,hu,hD⟩:=hE
 clear HU HI HD
 obtain ⟨ns',hns'⟩:∃x,ns++[u]=x:=⟨_,rfl⟩
 rw [hns'] at hI
 have HNS:=bf hns'
 have HII:=bf hI
 have hT:=hD.lay.lies id hid
 have hit:=hD.lay.item id hid HK12.out
 obtain ⟨v7,h7,hv7⟩:=hT.item
 have hpv:=hv7 HK12.out
 subst hpv
 have q7:=(hD.old.cell hT.lt).trans h7
 obtain ⟨q3,q4,q5,qp,-,⟨vm,v,cells,qm,-,qk,qz,hRM,hOM,hKX⟩,hrb⟩:=hI
 obtain ⟨va,vc,hvs⟩:=hKX.row.shape
 subst hvs
 have hdc:=λW' (h:Add wr W')=>HG.out tab[id].item W W' rb s r d m j l hit (hD.add h)
 have HNE:Hid (w0.heap.size≠rb/\w0.heap.size+1≠rb/\w0.heap.size+2≠rb/\w0.heap.size+4≠rb/\pl id≠rb):=⟨by omega,by omega,by omega,by omega,by have h1:=hT.lt;have h2:=hD.new;omega⟩
 have HWN:Hid (wr.heap.size≠rb):=NR hD.rdr.lt
 have HRB:=bf hrb
 have HPL:Hid (pl id<w0.heap.size):=Mx
 have HZK:=bf qz
 have HB4:Hid (w0.heap.size+7<=wr.heap.size):=NW _ _ qp
 have HU:=bf hu
 have HD9:=bf hD
 generalize tab[id].item=it at *
 obtain ⟨n,hn2⟩:∃n,ks.length=n:=⟨_,rfl⟩
 have hkl:=HKL.out
 have hK:=hKX.kidD
 rw [hn2] at hK qk hkl hKX
 have HKX:=bf hKX
 have HK:=bf hK
 have HN:=bf hn2
 have HRM:=bf hRM
 have HOM:=bf hOM
 have HQM:=bf qm
 have HQK:=bf qk
 obtain ⟨iV,zV,hiV,hzV,hsV,hz6,hbV⟩:=Tryz.infoD6
 have hbyte:=Y107
 clear hT hit h7 hv7 hK hrb hD hu hn2 hbV qz qp qm hKX hRM hOM HE g4 gz qn3 qz3 hR3 HL3 HQN HM3 HG3 HON hiS hzS hsS hz1 hbyS hn5 hns'
 have n0:(0:Int)<=(n:Int):=Kc
 have n1:(n:Int)<(n:Int)+1:=Kc
 go_upto_region 5 with fail
 refine wp_region_held_drew (S:=(λw'=>w'.cell? ⟨w0.heap.size,0,none⟩=some (.pointer (some ⟨rb,0,none⟩))/\w'.cell? ⟨w0.heap.size+1,0,none⟩=some (.pointer (some ⟨pl id,0,none⟩))/\w'.cell? ⟨w0.heap.size+2,0,none⟩=some (.int .i64 dep)/\w'.cell? ⟨pl id,7,none⟩=some (.pointer (some ⟨pl it,0,none⟩)))) Kf ?_ (λhH=>?_)
 ·exact ⟨q3,q4,q5,q7⟩
 apply tk 1
 apply tk 2
 apply tk 3
 apply tk 4
 apply tk 5
 apply tk 6
 refine wpAnyH_ready (rs:=[0,7,9]) Kf Kh ?_
 refine AllReadyH.cons rfl (λK hK=>?_) ?_
 ·have lk:wr.drew.cell? ⟨w0.heap.size+4,0,none⟩=some (.slice va n vc):=qk
  go_simp
  refine hK.out _ _ ⟨q3,q4,q5,q7⟩ (λhH=>?_)
  clear hK K lk
  apply tk 8
  refine wpAnyH_ready (rs:=[7,9]) Kf Kh ?_
  refine AllReadyH.cons rfl (λK hK=>?_) ?_
  ·go_simp
   go_wp2_with (go_at_call 59;refine (hdc _ (af wr)).mono ?_;rintro e w5 ⟨hu5,⟨⟨x,hx,rfl⟩,hO⟩|⟨x,j5,l5,cs5,hO,rfl,hx,hD5⟩⟩;exact ⟨rfl,HU.out.trans (((af wr).upd rb).trans hu5),.inl ⟨⟨x,hx,rfl⟩,by rw [<-HR.out];exact qe HZ1.out HB.out hO⟩⟩;obtain ⟨dk,dn,db,dt,dna,dka,dnl,dnc,dkl,dkc,rfl⟩:=aO hx;unfold dcs)
   have HU5:=Y145
   have HX:=Y146
   have HO:=bf hO
   have HD5:=bf hD5
   have p3:=Y147
   have p4:=Y148
   have p5:=Y149
   have pk:=Y150
   have p7:=Y151
   refine hK.out _ _ ⟨p3,p4,p5,p7⟩ (λhH=>?_)
   clear hK K hu5 hx hO hD5
   exact Z1
  refine AllReadyH.cons rfl (λK hK=>?_) AllReadyH.nil
  go_simp
  refine hK.out _ _ ⟨(ae wr.drew _).cell q3,(ae wr.drew _).cell q4,(ae wr.drew _).cell q5,(ae wr.drew _).cell q7⟩ (λhH=>?_)
  clear hK K
  exact Z2
 refine AllReadyH.cons rfl (λK hK=>?_) ?_
 ·go_simp
  go_wp2_with (go_at_call 59;refine (hdc _ (af wr)).mono ?_;rintro e w5 ⟨hu5,⟨⟨x,hx,rfl⟩,hO⟩|⟨x,j5,l5,cs5,hO,rfl,hx,hD5⟩⟩;exact ⟨rfl,HU.out.trans (((af wr).upd rb).trans hu5),.inl ⟨⟨x,hx,rfl⟩,by rw [<-HR.out];exact qe HZ1.out HB.out hO⟩⟩;obtain ⟨dk,dn,db,dt,dna,dka,dnl,dnc,dkl,dkc,rfl⟩:=aO hx;unfold dcs)
  have HU5:=Y145
  have HX:=Y146
  have HO:=bf hO
  have HD5:=bf hD5
  have p3:=Y147
  have p4:=Y148
  have p5:=Y149
  have pk:=Y150
  have p7:=Y151
  refine hK.out _ _ ⟨p3,p4,p5,p7⟩ (λhH=>?_)
  clear hK K hu5 hx hO hD5
  refine wpAnyH_ready (rs:=[0,9]) Kf Kh ?_
  refine AllReadyH.cons rfl (λK hK=>?_) ?_
  ·have lk:=Y195
   go_simp
   refine hK.out _ _ ⟨p3,p4,p5,p7⟩ (λhH=>?_)
   clear hK K lk
   apply tk 8
   exact Z1
  refine AllReadyH.cons rfl (λK hK=>?_) AllReadyH.nil
  go_simp
  refine hK.out _ _ ⟨(ae w5 _).cell p3,(ae w5 _).cell p4,(ae w5 _).cell p5,(ae w5 _).cell p7⟩ (λhH=>?_)
  clear hK K
  apply rd 0
  intro K hK
  have lk:(w5.alloc (.cells #[.int .i64 0,.int .i64 0,.int .u64 0,.string ⟨#[]⟩,.slice none 0 0,.slice none 0 0] 42 (0,0))).cell? ⟨w0.heap.size+4,0,none⟩=some (.slice va n vc):=(ae w5 _).cell pk
  go_simp
  refine hK.out _ _ ⟨(ae w5 _).cell p3,(ae w5 _).cell p4,(ae w5 _).cell p5,(ae w5 _).cell p7⟩ (λhH=>?_)
  clear hK K lk
  apply tk 8
  have HROW:=Y153
  apply rd 10
  intro K hK
  refine dO _ Kl _ _ 28 28 Kl Ke iV zV iV.bytes underlying28 hiV hzV hsV rfl hz6 Kl HROW.out _ 1 _ Kl (dA _ underlying28 w5.heap.size _ _ _ _ _ _ (λf hf=>tQ w5 f hf) yK) Ki (hbyte _ Kc) ?_
  intro v8 w8 hrow8 hg8
  obtain ⟨g8,c8,rfl,hgl,-⟩:=Y154
  have HG8:=bf hg8
  have HR8:=bf hrow8
  have hown:∀b,b<w0.heap.size+7->blk (.slice va n vc)≠some b:=λb hb e=>by have:=HK.out.own b e;omega
  have hsz6:=Y196
  have e3:=Y156
  have e4:=Y157
  have e5:=Y158
  have e7:=Y159
  have fk5:=Y197
  have ek8:=Y161
  have fk8:=Y198
  have hth:=Y163
  obtain ⟨z0,t0⟩:=Y164
  obtain ⟨z1,t1⟩:=Y165
  obtain ⟨z2,t2⟩:=Y166
  obtain ⟨z3,t3⟩:=Y167
  obtain ⟨z4,t4⟩:=Y168
  obtain ⟨z5,t5⟩:=Y169
  have y0:=(hth 0 Kc).2
  have y1:=(hth 1 Kc).2
  have y2:=(hth 2 Kc).2
  have y3:=(hth 3 Kc).2
  have y4:=(hth 4 Kc).2
  have y5:=(hth 5 Kc).2
  rw [Nat.add_zero] at t0 y0
  have HBG:=Y199
  refine hK.out _ _ ⟨e3,e4,e5,e7⟩ (λhH=>?_)
  clear hK K hth hrow8 hg8 hgl hown hsz6
  simp only [Act.put,List.getElem_toArray,List.getElem_cons_zero,List.getElem_cons_succ,List.setIfInBounds_toArray,List.set_cons_zero,List.set_cons_succ]
  apply tk 11
  have hE:=Y200
  exact Z6
 refine AllReadyH.cons rfl (λK hK=>?_) AllReadyH.nil
 go_simp
 refine hK.out _ _ ⟨(ae wr.drew _).cell q3,(ae wr.drew _).cell q4,(ae wr.drew _).cell q5,(ae wr.drew _).cell q7⟩ (λhH=>?_)
 clear hK K
 refine wpAnyH_ready (rs:=[0,7]) Kf Kh ?_
 refine AllReadyH.cons rfl (λK hK=>?_) ?_
 ·have lk:(wr.drew.alloc (.cells #[.int .i64 0,.int .i64 0,.int .u64 0,.string ⟨#[]⟩,.slice none 0 0,.slice none 0 0] 42 (0,0))).cell? ⟨w0.heap.size+4,0,none⟩=some (.slice va n vc):=(ae wr.drew _).cell qk
  have lk2:(wr.alloc (.cells #[.int .i64 0,.int .i64 0,.int .u64 0,.string ⟨#[]⟩,.slice none 0 0,.slice none 0 0] 42 (0,0))).cell? ⟨w0.heap.size+4,0,none⟩=some (.slice va n vc):=(ae wr _).cell qk
  go_simp
  refine hK.out _ _ ⟨(ae wr.drew _).cell q3,(ae wr.drew _).cell q4,(ae wr.drew _).cell q5,(ae wr.drew _).cell q7⟩ (λhH=>?_)
  clear hK K lk
  apply tk 8
  exact Z2
 refine AllReadyH.cons rfl (λK hK=>?_) AllReadyH.nil
 go_simp
 go_wp2_with (go_at_call 59;refine (hdc _ ((af wr).trans (ae _ _))).mono ?_;rintro e w5 ⟨hu5,⟨⟨x,hx,rfl⟩,hO⟩|⟨x,j5,l5,cs5,hO,rfl,hx,hD5⟩⟩;exact ⟨rfl,HU.out.trans ((((af wr).trans (ae _ _)).upd rb).trans hu5),.inl ⟨⟨x,hx,rfl⟩,by rw [<-HR.out];exact qe HZ1.out HB.out hO⟩⟩;obtain ⟨dk,dn,db,dt,dna,dka,dnl,dnc,dkl,dkc,rfl⟩:=aO hx;unfold dcs)
 have HU5:=Y172
 have HX:=Y173
 have HO:=bf hO
 have HD5:=bf hD5
 have p3:=Y147
 have p4:=Y148
 have p5:=Y149
 have pk:=Y150
 have p7:=Y151
 have HZ5:=Y174
 refine hK.out _ _ ⟨p3,p4,p5,p7⟩ (λhH=>?_)
 clear hK K hu5 hx hO hD5
 apply rd 0
 intro K hK
 have lk:=Y195
 go_simp
 refine hK.out _ _ ⟨p3,p4,p5,p7⟩ (λhH=>?_)
 clear hK K lk
 apply tk 8
 have HROW:=Y175
 apply rd 10
 intro K hK
 refine dO _ Kl _ _ 28 28 Kl Ke iV zV iV.bytes underlying28 hiV hzV hsV rfl hz6 Kl HROW.out _ 1 _ Kl (dA _ underlying28 wr.heap.size _ _ _ _ _ _ (HZ5.out) yK) Ki (hbyte _ Kc) ?_
 intro v8 w8 hrow8 hg8
 obtain ⟨g8,c8,rfl,hgl,-⟩:=Y154
 have HG8:=bf hg8
 have HR8:=bf hrow8
 have hown:∀b,b<w0.heap.size+7->blk (.slice va n vc)≠some b:=λb hb e=>by have:=HK.out.own b e;omega
 have hsz6:=Y201
 have e3:=Y177
 have e4:=Y178
 have e5:=Y179
 have e7:=Y180
 have fk5:=Y197
 have ek8:=Y181
 have fk8:=Y202
 have hth:=Y163
 obtain ⟨z0,t0⟩:=Y164
 obtain ⟨z1,t1⟩:=Y165
 obtain ⟨z2,t2⟩:=Y166
 obtain ⟨z3,t3⟩:=Y167
 obtain ⟨z4,t4⟩:=Y168
 obtain ⟨z5,t5⟩:=Y169
 have y0:=(hth 0 Kc).2
 have y1:=(hth 1 Kc).2
 have y2:=(hth 2 Kc).2
 have y3:=(hth 3 Kc).2
 have y4:=(hth 4 Kc).2
 have y5:=(hth 5 Kc).2
 rw [Nat.add_zero] at t0 y0
 have HBG:=Y199
 refine hK.out _ _ ⟨e3,e4,e5,e7⟩ (λhH=>?_)
 clear hK K hth hrow8 hg8 hgl hown hsz6
 simp only [Act.put,List.getElem_toArray,List.getElem_cons_zero,List.getElem_cons_succ,List.setIfInBounds_toArray,List.set_cons_zero,List.set_cons_succ]
 apply tk 11
 have hE:=Y203
 exact Z6
end
section
theorem MapI.new(w:World)(rb pid:Nat)(dep:Int)(hrb:rb<w.heap.size):MapI w.heap.size rb pid dep [] [] (((((((w.alloc (.cells #[.pointer (some ⟨rb,0,none⟩)] 138 (0,0))).alloc (.cells #[.pointer (some ⟨pid,0,none⟩)] 53 (0,0))).alloc (.cells #[.int .i64 dep] 3 (0,0))).alloc (.cells #[.slice none 0 0] 31 (0,0))).alloc (.cells #[.slice none 0 0] 28 (0,0))).alloc (.map #[] 0)).alloc (.cells #[.map (some (w.heap.size+5))] 74 (0,0))):=by
 have s1:=Y184
 have b1:=Y185
 generalize w.alloc (.cells #[.pointer (some ⟨rb,0,none⟩)] 138 (0,0))=w1 at *
 have a2:=Y186
 have s2:=Y187
 have b2:=Y188
 generalize w1.alloc (.cells #[.pointer (some ⟨pid,0,none⟩)] 53 (0,0))=w2 at *
 have a3:=ae w2 (.cells #[.int .i64 dep] 3 (0,0))
 have s3:=dE w2 (.cells #[.int .i64 dep] 3 (0,0))
 have b3:=Y189
 generalize w2.alloc (.cells #[.int .i64 dep] 3 (0,0))=w3 at *
 have a4:=ae w3 (.cells #[.slice none 0 0] 31 (0,0))
 have s4:=dE w3 (.cells #[.slice none 0 0] 31 (0,0))
 have b4:=dD w3 (.cells #[.slice none 0 0] 31 (0,0))
 generalize w3.alloc (.cells #[.slice none 0 0] 31 (0,0))=w4 at *
 have a5:=ae w4 (.cells #[.slice none 0 0] 28 (0,0))
 have s5:=dE w4 (.cells #[.slice none 0 0] 28 (0,0))
 have b5:=dD w4 (.cells #[.slice none 0 0] 28 (0,0))
 generalize w4.alloc (.cells #[.slice none 0 0] 28 (0,0))=w5 at *
 have a6:=ae w5 (.map #[] 0)
 have s6:=dE w5 (.map #[] 0)
 have hm:nH (w5.alloc (.map #[] 0)) w5.heap.size []:=⟨.map [],World.ownsMap_made _ _ _ _,⟨_,rfl⟩,λ_=>rfl⟩
 generalize w5.alloc (.map #[] 0)=w6 at *
 have a7:=ae w6 (.cells #[.map (some (w.heap.size+5))] 74 (0,0))
 have b7:=dD w6 (.cells #[.map (some (w.heap.size+5))] 74 (0,0))
 generalize w6.alloc (.cells #[.map (some (w.heap.size+5))] 74 (0,0))=w7 at *
 rw [s5,s4,s3,s2,s1] at hm
 rw [s6,s5,s4,s3,s2,s1] at b7
 rw [s4,s3,s2,s1] at b5
 rw [s3,s2,s1] at b4
 rw [s2,s1] at b3
 rw [s1] at b2
 have c1:w1.cell? ⟨w.heap.size,0,none⟩=some (.pointer (some ⟨rb,0,none⟩)):=by unfold World.cell?;rw [b1];rfl
 have c2:w2.cell? ⟨w.heap.size+1,0,none⟩=some (.pointer (some ⟨pid,0,none⟩)):=KY
 have c3:w3.cell? ⟨w.heap.size+2,0,none⟩=some (.int .i64 dep):=by unfold World.cell?;rw [b3];rfl
 have c4:w4.cell? ⟨w.heap.size+3,0,none⟩=some (.slice none 0 0):=by unfold World.cell?;rw [b4];rfl
 have c5:w5.cell? ⟨w.heap.size+4,0,none⟩=some (.slice none 0 0):=by unfold World.cell?;rw [b5];rfl
 have c7:w7.cell? ⟨w.heap.size+6,0,none⟩=some (.map (some (w.heap.size+5))):=by unfold World.cell?;rw [b7];rfl
 have f4:w4.frozen? ⟨w.heap.size+3,0,none⟩=false:=by unfold World.frozen?;rw [b4];simp
 have f5:w5.frozen? ⟨w.heap.size+4,0,none⟩=false:=by unfold World.frozen?;rw [b5];simp
 have a67:=a6.trans a7
 have a57:=a5.trans a67
 have a47:=a4.trans a57
 have a37:=a3.trans a47
 exact ⟨(a2.trans a37).cell c1,a37.cell c2,a47.cell c3,c7,hm.carry (a7.old _ hm.lt),⟨_,_,_,a57.cell c4,(a57.frozen (NW _ _ c4)).trans f4,a67.cell c5,(a67.frozen (NW _ _ c5)).trans f5,Row.nil _ _,λ_ h=>Lm,KidX.nil _ _ _⟩,hrb⟩
theorem Fz{t:ByteArray}{g:Nat->Nat->Nat->DR}(hgl:∀id i l x j l',l<=1000->i<=t.size->g id i l=some (x,j,l')->l<=l'){id i l j l':Nat}{a a':List ByteArray × List Dat}(hl:l<=1000)(hi:i<=t.size)(h:jS t g id a i l=some (a',j,l')):l<=l'/\a'.2.length=a.2.length+1:=by
 unfold jS at h
 cases hu:tr? (urd t i) with
 |none=>rw [hu] at h;cases h
 |some p=>
  obtain ⟨s,j2⟩:=p
  rw [hu] at h
  simp only at h
  have hj2:j2<=t.size:=by
   cases hv:urd t i with
   |ok u k=>rw [hv] at hu;cases hu;exact CS hv hi
   |short=>rw [hv] at hu;cases hu
   |range=>rw [hv] at hu;cases hu
  by_cases hb:lG s a.1=true
  ·rw [if_pos hb] at h;cases h
  rw [if_neg hb] at h
  cases hc:g id j2 l with
  |none=>rw [hc] at h;cases h
  |some q=>obtain ⟨x,j3,l3⟩:=q;rw [hc] at h;cases h;exact ⟨hgl _ _ _ _ _ _ hl hj2 hc,by simp⟩
theorem JA{t:ByteArray}{g:Nat->Nat->Nat->DR}{id i l j l':Nat}{a a':List ByteArray × List Dat}(h:jS t g id a i l=some (a',j,l')):a'.2.length=a.2.length+1:=by
 unfold jS at h
 cases hu:tr? (urd t i) with
 |none=>rw [hu] at h;cases h
 |some p=>
  obtain ⟨s,j2⟩:=p
  rw [hu] at h
  simp only at h
  by_cases hb:lG s a.1=true
  ·rw [if_pos hb] at h;cases h
  rw [if_neg hb] at h
  cases hc:g id j2 l with
  |none=>rw [hc] at h;cases h
  |some q=>obtain ⟨x,j3,l3⟩:=q;rw [hc] at h;cases h;simp
theorem Hg{ok:Nat->Prop}{w:World}{v:Value}{ns:List ByteArray}(hr:Row w 1 v ns.length (ns.map Value.string))(hb:∀i,blk v=some i->ok i):∃a c,v=.slice a ns.length c/\iK ok w a ns:=by
 rcases hr with ⟨rfl,h0,_⟩|⟨g,c,rfl,h⟩
 ·obtain rfl:ns=[]:=NT h0
  exact ⟨none,0,rfl,.inl rfl⟩
 refine ⟨_,_,rfl,.inr ⟨g,0,rfl,hb g rfl,h.lt,λi hi=>?_⟩⟩
 rw [NV,h.holds i Kc,List.getElem?_map,NP hi]
 rfl
theorem dmap_of{tab:List TNode}{pl:Nat->Nat}{t:ByteArray}{dep:Int}{g:Nat->Nat->Nat->DR}(hg:uj tab pl t dep g)(hgl:∀id i l x j l',l<=1000->i<=t.size->g id i l=some (x,j,l')->l<=l'):MapOk tab pl t dep g:=by
 intro id hid W w rb s r d m i l hk hD
 have hmf:=Y37
 have hmm:=@run_makeMap prog
 have hI:=MapI.new w rb (pl id) dep hD.rdr.lt
 have hA:Add w (((((((w.alloc (.cells #[.pointer (some ⟨rb,0,none⟩)] 138 (0,0))).alloc (.cells #[.pointer (some ⟨pl id,0,none⟩)] 53 (0,0))).alloc (.cells #[.int .i64 dep] 3 (0,0))).alloc (.cells #[.slice none 0 0] 31 (0,0))).alloc (.cells #[.slice none 0 0] 28 (0,0))).alloc (.map #[] 0)).alloc (.cells #[.map (some (w.heap.size+5))] 74 (0,0))):=((((((ae _ _).trans (ae _ _)).trans (ae _ _)).trans (ae _ _)).trans (ae _ _)).trans (ae _ _)).trans (ae _ _)
 generalize hR:eB t (jS t g tab[id].item) 1001 ([],[]) i l=R
 have HR:=bf hR
 have HB:=bf (λw4 (hI:MapI w.heap.size rb (pl id) dep [] [] w4) (hA:Add w w4)=>DQ (item:=jS t g tab[id].item) (Inv:=λa wr=>MapI w.heap.size rb (pl id) dep a.1 a.2 wr/\a.1.length=a.2.length) (w0:=w) (w:=w4) (.pointer (some ⟨w.heap.size,0,none⟩)) (.pointer (some ⟨w.heap.size+6,0,none⟩)) (.pointer (some ⟨w.heap.size+3,0,none⟩)) (.pointer (some ⟨w.heap.size+4,0,none⟩)) (.pointer (some ⟨w.heap.size+1,0,none⟩)) (.pointer (some ⟨w.heap.size+2,0,none⟩)) ([],[]) (λa=>a.2.length) (NQ _) ⟨hI,rfl⟩ (hA.upd rb) (hD.add hA) (λa wr w' h u=>⟨h.1.upd u,h.2⟩) (λa i l a' j l' hl hi h=>(Fz hgl hl hi h).1) (λa i l a' j l' h=>JA h) (λa i l wr hs hI hu hD=>Jk hg id hid (.inr hk) hI.1 hI.2 hu hD (by have:=hD.lb;omega)))
 clear hR hgl hg hD
 go_enter func97,ntmps97
 go_upto_region 4 with fail
 generalize (((((((w.alloc (.cells #[.pointer (some ⟨rb,0,none⟩)] 138 (0,0))).alloc (.cells #[.pointer (some ⟨pl id,0,none⟩)] 53 (0,0))).alloc (.cells #[.int .i64 dep] 3 (0,0))).alloc (.cells #[.slice none 0 0] 31 (0,0))).alloc (.cells #[.slice none 0 0] 28 (0,0))).alloc (.map #[] 0)).alloc (.cells #[.map (some (w.heap.size+5))] 74 (0,0)))=w4 at hI hA ⊢
 have hbk:=HB.out w4 hI hA
 rw [HR.out] at hbk
 have q3:=hI.c3
 clear hI hA
 go_upto_region 5 with (go_at_call 132;refine hbk.mono ?_;rintro e w5 ⟨hu5,⟨⟨x,hx,rfl⟩,hO⟩|⟨a5,j5,l5,hO,rfl,⟨hI5,hl5⟩,hD5⟩⟩;exact ⟨rfl,hu5,.inl ⟨⟨x,hx,rfl⟩,hO⟩⟩;obtain ⟨vn,v5,cells5,cn5,-,ck5,-,hRN,hON,hKX⟩:=hI5.kd)
 obtain ⟨na,nc,rfl,hst⟩:=Hg (ok:=λb=>w.heap.size<=b) hRN (λi hi=>by have:=hON i hi;omega)
 obtain ⟨ka,kc,rfl,hkl⟩:=Dat.row_lieAll (ok:=λb=>w.heap.size<=b) hKX.row (aw (λb hb _=>by omega) _ _ hKX.lie) (λi hi=>by have:=(hKX.own i hi).1;omega)
 have HF:Hid (∀k,Upd rb w (w5.drewN k)/\iK (λb=>w.heap.size<=b) (w5.drewN k) na a5.1/\aJ (λb=>w.heap.size<=b) (w5.drewN k) ka 0 a5.2/\Dcd W (w5.drewN k) tab pl rb t s r d m j5 l5):=λk=>⟨hu5.trans ((Add.drewN w5 k).upd rb),hst.carry ⟨(Add.drewN w5 k).size,λi _ hl=>(Add.drewN w5 k).old i hl⟩,aK (w:=w5) (w':=w5.drewN k) ⟨(Add.drewN w5 k).size,λi _ hl=>(Add.drewN w5 k).old i hl⟩ _ _ _ hkl,hD5.add (Add.drewN w5 k)⟩
 have HO:=bf hO
 clear hRN hON hKX hst hkl hu5 hD5 hO hI5 hl5 hbk q3
 go_quiet (fail)
 go_wp2
 refine bodyPost_ret (v:=.tuple #[.slice na a5.1.length nc,.slice ka a5.2.length kc]) (by simp [results,results97,go_sem]) rfl ?_
 exact ⟨(HF.out _).1,.inr ⟨a5.1,a5.2,j5,l5,na,nc,ka,kc,HO.out,rfl,(HF.out _).2.1,(HF.out _).2.2.1,(HF.out _).2.2.2⟩⟩
theorem JO(t:ByteArray)(tab:List TNode)(pl:Nat->Nat):uj tab pl t 65 (jt t tab 0):=by
 intro id W w rb s r d m i l hid hD
 obtain ⟨dT,hdT,hdc⟩:=hD.werr.deep
 have hdf:∀W',Calls prog 86 #[.bool false,d] W' λe w'=>e=.panicked (gF d)/\w'=W':=λW'=>by rw [hdT];exact gV _ _ W'
 have HAL:=bf (ae w (.cells #[.int .i64 0,.int .i64 0,.int .u64 0,.string ⟨#[]⟩,.slice none 0 0,.slice none 0 0] 42 (0,0)))
 have hdc1:=HAL.out.cell hdc
 clear hdT hdc hD
 go_enter func59,ntmps59
 go_upto_region 1 with fail
 generalize w.alloc (.cells #[.int .i64 0,.int .i64 0,.int .u64 0,.string ⟨#[]⟩,.slice none 0 0,.slice none 0 0] 42 (0,0))=w1 at *
 go_wp2_with (go_at_call 86;refine (hdf _).mono ?_;rintro e w2 ⟨rfl,hw2⟩;exact ⟨rfl,by rw [hw2];exact HAL.out.upd rb,.inl ⟨⟨_,.inr (.inr (.inl rfl)),rfl⟩,rfl⟩⟩)
theorem Kb(t:ByteArray)(tab:List TNode)(hk:∀n∈tab,1<=n.kind/\n.kind<=14)(hz:t.size<=70368744177000)(f:Nat):∀id i l x j l',l<=1000->i<=t.size->jt t tab f id i l=some (x,j,l')->l<=l':=λid i l x j l' hl hi h=>
 (jU.one (oD tab f) (pH t tab hk hz f id i l x j l' h hl hi).1).1
theorem Ff(t:ByteArray)(tab:List TNode)(pl:Nat->Nat)(hk:∀n∈tab,1<=n.kind/\n.kind<=14)(hz:t.size<=70368744177000):∀f:Nat,f<=65->uj tab pl t ((65-f:Nat):Int) (jt t tab f)
 |0,_=>JO t tab pl
 |f+1,h=>by
  have ih:=Ff t tab pl hk hz f Kc
  have e:=Y140
  rw [e] at ih
  have hm:=Kb t tab hk hz f
  have hs:=FD (dep:=65-(f+1)) Kc ih hm (dmap_of ih hm)
  intro id W w rb s r d m i l hid hD
  have hx:=hs id W w rb s r d m i l hid hD
  rw [jt]
  exact hx
end
end Go.Proofs.YtceinlbeeahkeaaGreatDoor
