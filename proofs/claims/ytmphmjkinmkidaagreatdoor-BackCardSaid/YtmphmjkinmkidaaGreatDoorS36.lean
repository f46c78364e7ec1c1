import Derived.Test.YtmphmjkinmkidaaGreatDoorS32
import Derived.Test.YtmphmjkinmkidaaGreatDoorS35
set_option linter.defProp false
open Go.Proofs.Tryz
set_option maxRecDepth 8000
set_option maxHeartbeats 8000000
open Go Go.RowKit Go.Extern.Stop Go.Stop Go.Extern
namespace Go.Proofs.YtmphmjkinmkidaaGreatDoor
variable{p:Prop}
section
def Y145(h:p:=by exact (bf (((af wr).upd rb).trans hu5))):p:=h
def Y146(h:p:=by exact (show Hid (x.liesO (λb=>wr.heap.size<=b) w5 _) from aP (λb hb _=>NM (af wr).size hb) _ _ hx)):p:=h
def Y147(h:p:=by exact (HU5.out.cell HNE.out.1 q3)):p:=h
def Y148(h:p:=by exact (HU5.out.cell HNE.out.2.1 q4)):p:=h
def Y149(h:p:=by exact (HU5.out.cell HNE.out.2.2.1 q5)):p:=h
def Y150(h:p:=by exact (HU5.out.cell HNE.out.2.2.2.1 qk)):p:=h
def Y151(h:p:=by exact (HU5.out.cell HNE.out.2.2.2.2 q7)):p:=h
def Y152(h:p:=by exact (show w5.cell? ⟨w0.heap.size+3,0,none⟩=some (.slice va n vc) from pk)):p:=h
def Y153(h:p:=by exact (show Hid (Row (w5.alloc (.cells #[.int .i64 0,.int .i64 0,.int .u64 0,.string ⟨#[]⟩,.slice none 0 0,.slice none 0 0] 42 (0,0))) 6 (.slice va n vc) n cells) from (by have h1:=HK.out.row;rw [HN.out] at h1;exact h1.carry (λg hg=>((ae w5 _:Add w5 (w5.alloc (.cells #[.int .i64 0,.int .i64 0,.int .u64 0,.string ⟨#[]⟩,.slice none 0 0,.slice none 0 0] 42 (0,0)))).old g (NK (HK.out.row.blk_lt hg) HU5.out.size)).trans (HU5.out.old g (HK.out.row.blk_lt hg) Mq))))):p:=h
def Y154(h:p:=by exact (hrow8.at_pos Kc)):p:=h
def Y155(h:p:=by exact (show ∀b,b<w0.heap.size+4->b<(w5.alloc (.cells #[.int .i64 0,.int .i64 0,.int .u64 0,.string ⟨#[]⟩,.slice none 0 0,.slice none 0 0] 42 (0,0))).heap.size from λb hb=>NK hb (NM HB4.out (NM HU5.out.size (ae w5 _:Add w5 (w5.alloc (.cells #[.int .i64 0,.int .i64 0,.int .u64 0,.string ⟨#[]⟩,.slice none 0 0,.slice none 0 0] 42 (0,0)))).size)))):p:=h
def Y156(h:p:=by exact (hg8.cell (hsz6 _ Kc) (hown _ Kc) ((ae w5 _:Add w5 (w5.alloc (.cells #[.int .i64 0,.int .i64 0,.int .u64 0,.string ⟨#[]⟩,.slice none 0 0,.slice none 0 0] 42 (0,0)))).cell p3))):p:=h
def Y157(h:p:=by exact (hg8.cell (hsz6 _ Kc) (hown _ Kc) ((ae w5 _:Add w5 (w5.alloc (.cells #[.int .i64 0,.int .i64 0,.int .u64 0,.string ⟨#[]⟩,.slice none 0 0,.slice none 0 0] 42 (0,0)))).cell p4))):p:=h
def Y158(h:p:=by exact (hg8.cell (hsz6 _ Kc) (hown _ Kc) ((ae w5 _:Add w5 (w5.alloc (.cells #[.int .i64 0,.int .i64 0,.int .u64 0,.string ⟨#[]⟩,.slice none 0 0,.slice none 0 0] 42 (0,0)))).cell p5))):p:=h
def Y159(h:p:=by exact (hg8.cell (hsz6 _ Kv) (hown _ Kv) ((ae w5 _:Add w5 (w5.alloc (.cells #[.int .i64 0,.int .i64 0,.int .u64 0,.string ⟨#[]⟩,.slice none 0 0,.slice none 0 0] 42 (0,0)))).cell p7))):p:=h
def Y160(h:p:=by exact ((Oa (a:=⟨w0.heap.size+3,0,none⟩) (HU5.out.old (w0.heap.size+3) MJ HNE.out.2.2.2.1)).trans HZK.out)):p:=h
def Y161(h:p:=by exact (hg8.cell (hsz6 _ Kc) (hown _ Kc) ((ae w5 _:Add w5 (w5.alloc (.cells #[.int .i64 0,.int .i64 0,.int .u64 0,.string ⟨#[]⟩,.slice none 0 0,.slice none 0 0] 42 (0,0)))).cell pk))):p:=h
def Y162(h:p:=by exact (show w8.frozen? ⟨w0.heap.size+3,0,none⟩=false from (hg8.frozen (hsz6 _ Kc) (hown _ Kc)).trans (((ae w5 _:Add w5 (w5.alloc (.cells #[.int .i64 0,.int .i64 0,.int .u64 0,.string ⟨#[]⟩,.slice none 0 0,.slice none 0 0] 42 (0,0)))).frozen (NW _ _ pk)).trans fk5))):p:=h
def Y163(h:p:=by exact ((Row.last (v0:=.int .i64 0) (v1:=.int .i64 0) (v2:=.int .i64 0) (v3:=.int .i64 0) (v4:=.int .i64 0) (v5:=.int .i64 0) hrow8 (by have h1:=HK.out.row.len;rw [HN.out] at h1;exact h1)).2)):p:=h
def Y164(h:p:=by exact (Option.isSome_iff_exists.1 (hth 0 Kc).1)):p:=h
def Y165(h:p:=by exact (Option.isSome_iff_exists.1 (hth 1 Kc).1)):p:=h
def Y166(h:p:=by exact (Option.isSome_iff_exists.1 (hth 2 Kc).1)):p:=h
def Y167(h:p:=by exact (Option.isSome_iff_exists.1 (hth 3 Kc).1)):p:=h
def Y168(h:p:=by exact (Option.isSome_iff_exists.1 (hth 4 Kc).1)):p:=h
def Y169(h:p:=by exact (Option.isSome_iff_exists.1 (hth 5 Kc).1)):p:=h
def Y170(h:p:=by exact (show Hid (w0.heap.size+4<=g8) from (by rcases hg8.at' with h|⟨h,h2,h3⟩;exact HK.out.own g8 h.symm;have h4:g8=h:=(by simpa [blk] using h3);have h5:=hsz6 (w0.heap.size+3) Kc;show _<=_;omega))):p:=h
def Y171(h:p:=by exact (Fa (pid:=pl id) (dep:=dep) rfl HK.out HN.out HB4.out HU.out HU5.out HRB.out HX.out (ae w5 _:Add w5 (w5.alloc (.cells #[.int .i64 0,.int .i64 0,.int .u64 0,.string ⟨#[]⟩,.slice none 0 0,.slice none 0 0] 42 (0,0)))) HG8.out HR8.out HD5.out p3 p4 p5 pk ((Oa (a:=⟨w0.heap.size+3,0,none⟩) (HU5.out.old (w0.heap.size+3) MJ HNE.out.2.2.2.1)).trans HZK.out))):p:=h
def Y172(h:p:=by exact (bf ((((af wr).trans (ae _ _)).upd rb).trans hu5))):p:=h
def Y173(h:p:=by exact (show Hid (x.liesO (λb=>wr.heap.size<=b) w5 _) from aP (λb hb _=>NM ((af wr).trans (ae _ _)).size hb) _ _ hx)):p:=h
def Y174(h:p:=by exact (bf (λf (hf:f<6)=>(NY (a:=⟨wr.heap.size,f,none⟩) (hu5.old wr.heap.size (by show wr.heap.size<_;rw [dE];exact NU _) HWN.out)).trans (tQ wr.drew f hf)))):p:=h
def Y175(h:p:=by exact (show Hid (Row w5 6 (.slice va n vc) n cells) from (by have h1:=HK.out.row;rw [HN.out] at h1;exact h1.carry (λg hg=>((Add.refl w5:Add w5 w5).old g (NK (HK.out.row.blk_lt hg) HU5.out.size)).trans (HU5.out.old g (HK.out.row.blk_lt hg) Mq))))):p:=h
def Y176(h:p:=by exact (show ∀b,b<w0.heap.size+4->b<w5.heap.size from λb hb=>NK hb (NM HB4.out (NM HU5.out.size (Add.refl w5:Add w5 w5).size)))):p:=h
def Y177(h:p:=by exact (hg8.cell (hsz6 _ Kc) (hown _ Kc) ((Add.refl w5:Add w5 w5).cell p3))):p:=h
def Y178(h:p:=by exact (hg8.cell (hsz6 _ Kc) (hown _ Kc) ((Add.refl w5:Add w5 w5).cell p4))):p:=h
def Y179(h:p:=by exact (hg8.cell (hsz6 _ Kc) (hown _ Kc) ((Add.refl w5:Add w5 w5).cell p5))):p:=h
def Y180(h:p:=by exact (hg8.cell (hsz6 _ Kv) (hown _ Kv) ((Add.refl w5:Add w5 w5).cell p7))):p:=h
def Y181(h:p:=by exact (hg8.cell (hsz6 _ Kc) (hown _ Kc) ((Add.refl w5:Add w5 w5).cell pk))):p:=h
def Y182(h:p:=by exact (show w8.frozen? ⟨w0.heap.size+3,0,none⟩=false from (hg8.frozen (hsz6 _ Kc) (hown _ Kc)).trans (((Add.refl w5:Add w5 w5).frozen (NW _ _ pk)).trans fk5))):p:=h
def Y183(h:p:=by exact (Fa (pid:=pl id) (dep:=dep) rfl HK.out HN.out HB4.out HU.out HU5.out HRB.out HX.out (Add.refl w5:Add w5 w5) HG8.out HR8.out HD5.out p3 p4 p5 pk ((Oa (a:=⟨w0.heap.size+3,0,none⟩) (HU5.out.old (w0.heap.size+3) MJ HNE.out.2.2.2.1)).trans HZK.out))):p:=h
def Y230(h:p:=by exact (hS _ _ _ Kv e7)):p:=h
def Y233(h:p:=by exact (hS _ _ _ Kv e7)):p:=h
def Y234(h:p:=by exact (hS _ _ _ (Ne.symm hne) t0)):p:=h
def Y235(h:p:=by exact (hS _ _ _ (Ne.symm hne) t1)):p:=h
def Y236(h:p:=by exact (hS _ _ _ (Ne.symm hne) t2)):p:=h
def Y237(h:p:=by exact (hS _ _ _ (Ne.symm hne) t3)):p:=h
def Y238(h:p:=by exact (hS _ _ _ (Ne.symm hne) t4)):p:=h
def Y239(h:p:=by exact (hS _ _ _ (Ne.symm hne) t5)):p:=h
def Y240(h:p:=by exact (xX w8 g8 (n*6) (.int .i64 dk) (.int .i64 dn) (.int .u64 (db:Int)) (.string dt) (.slice dna dnl dnc) (.slice dka dkl dkc) ⟨w0.heap.size+3,0,none⟩ (.slice (some ⟨g8,0,none⟩) (n+1) c8) (by show w0.heap.size+3≠g8;have:=HBG.out;omega))):p:=h
def Y241(h:p:=by exact (show ∀b o (y:Value),b<w0.heap.size+4->w8.cell? ⟨b,o,none⟩=some y->(eT w8 g8 (n*6) (.int .i64 dk) (.int .i64 dn) (.int .u64 (db:Int)) (.string dt) (.slice dna dnl dnc) (.slice dka dkl dkc)).cell? ⟨b,o,none⟩=some y from λb o y hb hy=>(NY (a:=⟨b,o,none⟩) (gy _ _ _ _ _ _ _ _ _ b Lr)).trans hy)):p:=h
def Y242(h:p:=by exact (show ∀b o (y:Value),b≠w0.heap.size+3->w9.cell? ⟨b,o,none⟩=some y->(w9.setCell ⟨w0.heap.size+3,0,none⟩ (.slice (some ⟨g8,0,none⟩) (n+1) c8)).cell? ⟨b,o,none⟩=some y from λb o y hb hy=>(NY (a:=⟨b,o,none⟩) (NZ _ _ _ _ MO)).trans hy)):p:=h
def Y243(h:p:=by exact (show ∀b o (y:Value),b≠w0.heap.size+3->w8.cell? ⟨b,o,none⟩=some y->(w8.setCell ⟨w0.heap.size+3,0,none⟩ (.slice (some ⟨g8,0,none⟩) (n+1) c8)).cell? ⟨b,o,none⟩=some y from λb o y hb hy=>(NY (a:=⟨b,o,none⟩) (NZ _ _ _ _ MO)).trans hy)):p:=h
def Z0(h:p:=by
 apply rd 9
 intro K hK
 go_simp
 refine hK.out _ _ ⟨(ae w5 _).cell p3,(ae w5 _).cell p4,(ae w5 _).cell p5,(ae w5 _).cell p7⟩ (λhH=>?_)
 clear hK K
 have HROW:=Y153
 apply rd 10
 intro K hK
 refine dO _ Kl _ _ 28 28 Kl Ke iV zV iV.bytes underlying28 hiV hzV hsV rfl hz6 Kl HROW.out _ 1 _ Kl (dA _ underlying28 w5.heap.size _ _ _ _ _ _ (λf hf=>tQ w5 f hf) yK) Ki (hbyte _ Kc) ?_
 intro v8 w8 hrow8 hg8
 obtain ⟨g8,c8,rfl,hgl,-⟩:=Y154
 have HG8:=bf hg8
 have HR8:=bf hrow8
 have hown:∀b,b<w0.heap.size+4->blk (.slice va n vc)≠some b:=λb hb e=>by have:=HK.out.own b e;omega
 have hsz6:=Y155
 have e3:=Y156
 have e4:=Y157
 have e5:=Y158
 have e7:=Y159
 have fk5:=Y160
 have ek8:=Y161
 have fk8:=Y162
 have hth:=Y163
 obtain ⟨z0,t0⟩:=Y164
 obtain ⟨z1,t1⟩:=Y165
 obtain ⟨z2,t2⟩:=Y166
 obtain ⟨z3,t3⟩:=Y167
 obtain ⟨z4,t4⟩:=Y168
 obtain ⟨z5,t5⟩:=Y169
 have y0:=(hth 0 Kc).2
 have y1:=(hth 1 Kc).2
 have y2:=(hth 2 Kc).2
 have y3:=(hth 3 Kc).2
 have y4:=(hth 4 Kc).2
 have y5:=(hth 5 Kc).2
 rw [Nat.add_zero] at t0 y0
 have HBG:=Y170
 refine hK.out _ _ ⟨e3,e4,e5,e7⟩ (λhH=>?_)
 clear hK K hth hrow8 hg8 hgl hown hsz6
 simp only [Act.put,List.getElem_toArray,List.getElem_cons_zero,List.getElem_cons_succ,List.setIfInBounds_toArray,List.set_cons_zero,List.set_cons_succ]
 apply tk 11
 have hE:=Y171
 exact Z244):p:=h
def Z3(h:p:=by
 apply rd 7
 intro K hK
 go_simp
 go_wp2_with (go_at_call 59;refine (hdc _ ((af wr).trans (ae _ _))).mono ?_;rintro e w5 ⟨hu5,⟨⟨x,hx,rfl⟩,hO⟩|⟨x,j5,l5,cs5,hO,rfl,hx,hD5⟩⟩;exact ⟨rfl,HU.out.trans ((((af wr).trans (ae _ _)).upd rb).trans hu5),.inl ⟨⟨x,hx,rfl⟩,by rw [<-HR.out];unfold lC;rw [hO]⟩⟩;obtain ⟨dk,dn,db,dt,dna,dka,dnl,dnc,dkl,dkc,rfl⟩:=aO hx;unfold dcs)
 have HU5:=Y172
 have HX:=Y173
 have HO:=bf hO
 have HD5:=bf hD5
 have p3:=Y147
 have p4:=Y148
 have p5:=Y149
 have pk:=Y150
 have p7:=Y151
 have HZ5:=Y174
 refine hK.out _ _ ⟨p3,p4,p5,p7⟩ (λhH=>?_)
 clear hK K hu5 hx hO hD5
 have HROW:=Y175
 apply rd 10
 intro K hK
 refine dO _ Kl _ _ 28 28 Kl Ke iV zV iV.bytes underlying28 hiV hzV hsV rfl hz6 Kl HROW.out _ 1 _ Kl (dA _ underlying28 wr.heap.size _ _ _ _ _ _ (HZ5.out) yK) Ki (hbyte _ Kc) ?_
 intro v8 w8 hrow8 hg8
 obtain ⟨g8,c8,rfl,hgl,-⟩:=Y154
 have HG8:=bf hg8
 have HR8:=bf hrow8
 have hown:∀b,b<w0.heap.size+4->blk (.slice va n vc)≠some b:=λb hb e=>by have:=HK.out.own b e;omega
 have hsz6:=Y176
 have e3:=Y177
 have e4:=Y178
 have e5:=Y179
 have e7:=Y180
 have fk5:=Y160
 have ek8:=Y181
 have fk8:=Y182
 have hth:=Y163
 obtain ⟨z0,t0⟩:=Y164
 obtain ⟨z1,t1⟩:=Y165
 obtain ⟨z2,t2⟩:=Y166
 obtain ⟨z3,t3⟩:=Y167
 obtain ⟨z4,t4⟩:=Y168
 obtain ⟨z5,t5⟩:=Y169
 have y0:=(hth 0 Kc).2
 have y1:=(hth 1 Kc).2
 have y2:=(hth 2 Kc).2
 have y3:=(hth 3 Kc).2
 have y4:=(hth 4 Kc).2
 have y5:=(hth 5 Kc).2
 rw [Nat.add_zero] at t0 y0
 have HBG:=Y170
 refine hK.out _ _ ⟨e3,e4,e5,e7⟩ (λhH=>?_)
 clear hK K hth hrow8 hg8 hgl hown hsz6
 simp only [Act.put,List.getElem_toArray,List.getElem_cons_zero,List.getElem_cons_succ,List.setIfInBounds_toArray,List.set_cons_zero,List.set_cons_succ]
 apply tk 11
 have hE:=Y183
 exact Z244):p:=h
def Z7(h:p:=by
 have hcm:=Y240
 have hS:=Y241
 have k3:=hS _ _ _ Kc e3
 have k4:=hS _ _ _ Kc e4
 have k5:=hS _ _ _ Kc e5
 have k7:=Y230
 clear hS
 unfold eT at hE k3 k4 k5 k7 hcm
 refine wpAnyH_ready (rs:=[12,13]) Kf Kh ?_
 refine AllReadyH.cons rfl (λK hK=>?_) (AllReadyH.cons rfl (λK hK=>?_) AllReadyH.nil)
 ·go_simp
  generalize ((((((w8.setCell ⟨g8,n*6,none⟩ (.int .i64 dk)).setCell ⟨g8,n*6+1,none⟩ (.int .i64 dn)).setCell ⟨g8,n*6+2,none⟩ (.int .u64 (db:Int))).setCell ⟨g8,n*6+3,none⟩ (.string dt)).setCell ⟨g8,n*6+4,none⟩ (.slice dna dnl dnc)).setCell ⟨g8,n*6+5,none⟩ (.slice dka dkl dkc))=w9 at hE k3 k4 k5 k7 ⊢
  obtain ⟨⟨ek,fk⟩,hU10,hI10,hD10⟩:=hE
  refine hK.out _ _ ⟨k3,k4,k5,k7⟩ (λhH=>?_)
  clear hK K t0 t1 t2 t3 t4 t5 y0 y1 y2 y3 y4 y5 e3 e4 e5 e7 p3 p4 p5 p7 pk hcm
  apply rd 13
  intro K hK
  go_simp
  have hS:=Y242
  refine hK.out _ _ ⟨hS _ _ _ Kc k3,hS _ _ _ Kc k4,hS _ _ _ Kc k5,hS _ _ _ Kv k7⟩ (λhH=>?_)
  clear hK K hS ek fk k3 k4 k5 k7
  exact Z254
 have hne:w0.heap.size+3≠g8:=Lr
 go_simp
 have hS:=Y243
 have f3:=hS _ _ _ Kc e3
 have f4:=hS _ _ _ Kc e4
 have f5:=hS _ _ _ Kc e5
 have f7:=Y233
 have t0':=Y234
 have t1':=Y235
 have t2':=Y236
 have t3':=Y237
 have t4':=Y238
 have t5':=Y239
 have hF:∀o,w8.frozen? ⟨g8,o,none⟩=false->(w8.setCell ⟨w0.heap.size+3,0,none⟩ (.slice (some ⟨g8,0,none⟩) (n+1) c8)).frozen? ⟨g8,o,none⟩=false:=λo h=>by rw [Od];exact h
 have y0':=hF _ y0
 have y1':=hF _ y1
 have y2':=hF _ y2
 have y3':=hF _ y3
 have y4':=hF _ y4
 have y5':=hF _ y5
 refine hK.out _ _ ⟨f3,f4,f5,f7⟩ (λhH=>?_)
 clear hK K t0 t1 t2 t3 t4 t5 y0 y1 y2 y3 y4 y5 hS hF
 apply rd 12
 intro K hK
 generalize w8.setCell ⟨w0.heap.size+3,0,none⟩ (.slice (some ⟨g8,0,none⟩) (n+1) c8)=w8' at t0' t1' t2' t3' t4' t5' y0' y1' y2' y3' y4' y5' hcm ⊢
 have HCM:=bf hcm
 clear hcm
 go_simp
 rw [HCM.out]
 generalize ((((((w8.setCell ⟨g8,n*6,none⟩ (.int .i64 dk)).setCell ⟨g8,n*6+1,none⟩ (.int .i64 dn)).setCell ⟨g8,n*6+2,none⟩ (.int .u64 (db:Int))).setCell ⟨g8,n*6+3,none⟩ (.string dt)).setCell ⟨g8,n*6+4,none⟩ (.slice dna dnl dnc)).setCell ⟨g8,n*6+5,none⟩ (.slice dka dkl dkc))=w9 at hE k3 k4 k5 k7 ⊢
 obtain ⟨-,hU10,hI10,hD10⟩:=hE
 have hS:=Y242
 refine hK.out _ _ ⟨hS _ _ _ Kc k3,hS _ _ _ Kc k4,hS _ _ _ Kc k5,hS _ _ _ Kv k7⟩ (λhH=>?_)
 clear hK K
 exact Z254):p:=h
def Z244(h:p:=by
 have hcm:=Y240
 have hS:=Y241
 have k3:=hS _ _ _ Kc e3
 have k4:=hS _ _ _ Kc e4
 have k5:=hS _ _ _ Kc e5
 have k7:=Y230
 clear hS
 unfold eT at hE k3 k4 k5 k7 hcm
 refine wpAnyH_ready (rs:=[12,13]) Kf Kh ?_
 refine AllReadyH.cons rfl (λK hK=>?_) (AllReadyH.cons rfl (λK hK=>?_) AllReadyH.nil)
 ·go_simp
  generalize ((((((w8.setCell ⟨g8,n*6,none⟩ (.int .i64 dk)).setCell ⟨g8,n*6+1,none⟩ (.int .i64 dn)).setCell ⟨g8,n*6+2,none⟩ (.int .u64 (db:Int))).setCell ⟨g8,n*6+3,none⟩ (.string dt)).setCell ⟨g8,n*6+4,none⟩ (.slice dna dnl dnc)).setCell ⟨g8,n*6+5,none⟩ (.slice dka dkl dkc))=w9 at hE k3 k4 k5 k7 ⊢
  obtain ⟨⟨ek,fk⟩,hU10,hI10,hD10⟩:=hE
  refine hK.out _ _ ⟨k3,k4,k5,k7⟩ (λhH=>?_)
  clear hK K t0 t1 t2 t3 t4 t5 y0 y1 y2 y3 y4 y5 e3 e4 e5 e7 p3 p4 p5 p7 pk hcm
  apply rd 13
  intro K hK
  go_simp
  have hS:=Y242
  refine hK.out _ _ ⟨hS _ _ _ Kc k3,hS _ _ _ Kc k4,hS _ _ _ Kc k5,hS _ _ _ Kv k7⟩ (λhH=>?_)
  clear hK K hS ek fk k3 k4 k5 k7
  exact Z273
 have hne:w0.heap.size+3≠g8:=Lr
 go_simp
 have hS:=Y243
 have f3:=hS _ _ _ Kc e3
 have f4:=hS _ _ _ Kc e4
 have f5:=hS _ _ _ Kc e5
 have f7:=Y233
 have t0':=Y234
 have t1':=Y235
 have t2':=Y236
 have t3':=Y237
 have t4':=Y238
 have t5':=Y239
 have hF:∀o,w8.frozen? ⟨g8,o,none⟩=false->(w8.setCell ⟨w0.heap.size+3,0,none⟩ (.slice (some ⟨g8,0,none⟩) (n+1) c8)).frozen? ⟨g8,o,none⟩=false:=λo h=>by rw [Od];exact h
 have y0':=hF _ y0
 have y1':=hF _ y1
 have y2':=hF _ y2
 have y3':=hF _ y3
 have y4':=hF _ y4
 have y5':=hF _ y5
 refine hK.out _ _ ⟨f3,f4,f5,f7⟩ (λhH=>?_)
 clear hK K t0 t1 t2 t3 t4 t5 y0 y1 y2 y3 y4 y5 hS hF
 apply rd 12
 intro K hK
 generalize w8.setCell ⟨w0.heap.size+3,0,none⟩ (.slice (some ⟨g8,0,none⟩) (n+1) c8)=w8' at t0' t1' t2' t3' t4' t5' y0' y1' y2' y3' y4' y5' hcm ⊢
 have HCM:=bf hcm
 clear hcm
 go_simp
 rw [HCM.out]
 generalize ((((((w8.setCell ⟨g8,n*6,none⟩ (.int .i64 dk)).setCell ⟨g8,n*6+1,none⟩ (.int .i64 dn)).setCell ⟨g8,n*6+2,none⟩ (.int .u64 (db:Int))).setCell ⟨g8,n*6+3,none⟩ (.string dt)).setCell ⟨g8,n*6+4,none⟩ (.slice dna dnl dnc)).setCell ⟨g8,n*6+5,none⟩ (.slice dka dkl dkc))=w9 at hE k3 k4 k5 k7 ⊢
 obtain ⟨-,hU10,hI10,hD10⟩:=hE
 have hS:=Y242
 refine hK.out _ _ ⟨hS _ _ _ Kc k3,hS _ _ _ Kc k4,hS _ _ _ Kc k5,hS _ _ _ Kv k7⟩ (λhH=>?_)
 clear hK K
 exact Z273):p:=h
def Z254(h:p:=by
 generalize w9.setCell ⟨w0.heap.size+3,0,none⟩ (.slice (some ⟨g8,0,none⟩) (n+1) c8)=w10 at hU10 hI10 hD10 ⊢
 exact Z275):p:=h
def Z273(h:p:=by
 generalize w9.setCell ⟨w0.heap.size+3,0,none⟩ (.slice (some ⟨g8,0,none⟩) (n+1) c8)=w10 at hU10 hI10 hD10 ⊢
 exact Z275):p:=h
def Z275(h:p:=by
 refine wpAnyH_done Kf ?_ _
 go_wp2
 go_end0
 exact ⟨hU10,.inr ⟨ks++[x],j5,l5,by rw [<-HR.out];unfold lC;rw [HO.out],rfl,hI10,hD10⟩⟩):p:=h
structure ArI(b3 rb pid:Nat)(dep:Int)(ks:List Dat)(wr:World):Prop where
 c3:wr.cell? ⟨b3,0,none⟩=some (.pointer (some ⟨rb,0,none⟩))
 c4:wr.cell? ⟨b3+1,0,none⟩=some (.pointer (some ⟨pid,0,none⟩))
 c5:wr.cell? ⟨b3+2,0,none⟩=some (.int .i64 dep)
 kd:∃v cells,wr.cell? ⟨b3+3,0,none⟩=some v/\wr.frozen? ⟨b3+3,0,none⟩=false/\KidD (b3+4) wr v ks cells
 lt:rb<b3
theorem ArI.keep{b3 rb pid:Nat}{dep:Int}{ks:List Dat}{wr w':World}(h:ArI b3 rb pid dep ks wr)(hs:wr.heap.size<=w'.heap.size)(k:∀i,b3<=i->i<wr.heap.size->w'.heap[i]?=wr.heap[i]?):ArI b3 rb pid dep ks w':=by
 obtain ⟨h3,h4,h5,⟨v,cells,hv,hz,hk⟩,hl⟩:=h
 have e:∀ {b:Nat} {x:Value},b3<=b->wr.cell? ⟨b,0,none⟩=some x->w'.cell? ⟨b,0,none⟩=some x:=λ{b x} hb hx=>(NY (a:=⟨b,0,none⟩) (k b hb (NW _ _ hx))).trans hx
 exact ⟨e Kc h3,e Kc h4,e Kc h5,⟨v,cells,e Kc hv,(Oa (a:=⟨b3+3,0,none⟩) (k (b3+3) Kc (NW _ _ hv))).trans hz,hk.carry hs (λi hi hl=>k i Kc hl)⟩,hl⟩
theorem ArI.upd{b3 rb pid:Nat}{dep:Int}{ks:List Dat}{wr w':World}(h:ArI b3 rb pid dep ks wr)(u:Upd rb wr w'):ArI b3 rb pid dep ks w':=h.keep u.size λi hi hl=>u.old i hl (by have:=h.lt;omega)
theorem jf(W:World)(a b:Addr)(u v:Value)(h:a.block≠b.block):(W.setCell a u).setCell b v=(W.setCell b v).setCell a u:=by
 unfold World.setCell
 congr 1
 apply Array.ext_getElem?
 intro i
 simp only [Array.getElem?_modify]
 by_cases h1:a.block=i
 ·by_cases h2:b.block=i
  ·exact absurd (h1.trans h2.symm) h
  simp [h1,h2]
 simp [h1]
theorem xX(W:World)(g o:Nat)(v0 v1 v2 v3 v4 v5:Value)(a:Addr)(u:Value)(h:a.block≠g):eT (W.setCell a u) g o v0 v1 v2 v3 v4 v5=(eT W g o v0 v1 v2 v3 v4 v5).setCell a u:=by
 unfold eT
 rw [jf W a ⟨g,o,none⟩ _ _ KV,jf _ a ⟨g,o+1,none⟩ _ _ KV,jf _ a ⟨g,o+2,none⟩ _ _ KV,jf _ a ⟨g,o+3,none⟩ _ _ KV,jf _ a ⟨g,o+4,none⟩ _ _ KV,jf _ a ⟨g,o+5,none⟩ _ _ KV]
theorem Fa{b3 rb pid g c n:Nat}{va:Option Addr}{vc:Nat}{dep:Int}{w0 wr w5 w6 w8 W:World}{ks:List Dat}{cells zs:List Value}{v0 v1 v2 v3 v4 v5:Value}{x:Dat}{tab:List TNode}{pl:Nat->Nat}{t:ByteArray}{s r d m:Value}{j l:Nat}(hb:w0.heap.size=b3)(hK:KidD (b3+4) wr (.slice va n vc) ks cells)(hn:ks.length=n)(hB:b3+4<=wr.heap.size)(hu:Upd rb w0 wr)(hu5:Upd rb wr w5)(hrb:rb<b3)(hx:x.liesO (λb=>wr.heap.size<=b) w5 [v0,v1,v2,v3,v4,v5])
  (ha:Add w5 w6) (hg:Grew w6 (.slice va n vc) w8 (.slice (some ⟨g,0,none⟩) (n+1) c)) (hr:Row w8 6 (.slice (some ⟨g,0,none⟩) (n+1) c) (n+1) (cells++zs)) (hD:Dcd W w5 tab pl rb t s r d m j l) (c3:w5.cell? ⟨b3,0,none⟩=some (.pointer (some ⟨rb,0,none⟩))) (c4:w5.cell? ⟨b3+1,0,none⟩=some (.pointer (some ⟨pid,0,none⟩))) (c5:w5.cell? ⟨b3+2,0,none⟩=some (.int .i64 dep)) (ck:w5.cell? ⟨b3+3,0,none⟩=some (.slice va n vc)) (fk:w5.frozen? ⟨b3+3,0,none⟩=false):
  ((eT w8 g (n*6) v0 v1 v2 v3 v4 v5).cell? ⟨b3+3,0,none⟩=some (.slice va n vc)/\(eT w8 g (n*6) v0 v1 v2 v3 v4 v5).frozen? ⟨b3+3,0,none⟩=false)/\Upd rb w0 ((eT w8 g (n*6) v0 v1 v2 v3 v4 v5).setCell ⟨b3+3,0,none⟩ (.slice (some ⟨g,0,none⟩) (n+1) c))/\ArI b3 rb pid dep (ks++[x]) ((eT w8 g (n*6) v0 v1 v2 v3 v4 v5).setCell ⟨b3+3,0,none⟩ (.slice (some ⟨g,0,none⟩) (n+1) c))/\Dcd W ((eT w8 g (n*6) v0 v1 v2 v3 v4 v5).setCell ⟨b3+3,0,none⟩ (.slice (some ⟨g,0,none⟩) (n+1) c)) tab pl rb t s r d m j l:=by
 obtain ⟨hk9,hBg,-⟩:=hK.push2 hn hB hu5 Kc hx ha hg hr
 have h1:=hu.size
 have h2:=hu5.size
 have h3:=ha.size
 have h4:=hg.size
 have e9:∀i,i<b3+4->(eT w8 g (n*6) v0 v1 v2 v3 v4 v5).heap[i]?=w5.heap[i]?:=λi hi=>by
  rw [gy _ _ _ _ _ _ _ _ _ _ Kc,hg.old i Kc (λe=>by have:=hK.own i e;omega),ha.old i Kc]
 have hs9:=jG w8 g (n*6) v0 v1 v2 v3 v4 v5
 obtain ⟨ho9,hp9⟩:=sI w8 g (n*6) v0 v1 v2 v3 v4 v5
 generalize eT w8 g (n*6) v0 v1 v2 v3 v4 v5=w9 at *
 have ck9:=(NY (a:=⟨b3+3,0,none⟩) (e9 (b3+3) Kc)).trans ck
 have fk9:=(Oa (a:=⟨b3+3,0,none⟩) (e9 (b3+3) Kc)).trans fk
 have e10:∀i,i≠b3+3->(w9.setCell ⟨b3+3,0,none⟩ (.slice (some ⟨g,0,none⟩) (n+1) c)).heap[i]?=w9.heap[i]?:=λi hi=>NZ _ _ _ _ NG
 have hs10:(w9.setCell ⟨b3+3,0,none⟩ (.slice (some ⟨g,0,none⟩) (n+1) c)).heap.size=w9.heap.size:=Kh
 have ck10:(w9.setCell ⟨b3+3,0,none⟩ (.slice (some ⟨g,0,none⟩) (n+1) c)).cell? ⟨b3+3,0,none⟩=some (.slice (some ⟨g,0,none⟩) (n+1) c):=Oe _ _ _ ck9
 have fk10:(w9.setCell ⟨b3+3,0,none⟩ (.slice (some ⟨g,0,none⟩) (n+1) c)).frozen? ⟨b3+3,0,none⟩=false:=Ng
 have ho10:(w9.setCell ⟨b3+3,0,none⟩ (.slice (some ⟨g,0,none⟩) (n+1) c)).os=w9.os/\(w9.setCell ⟨b3+3,0,none⟩ (.slice (some ⟨g,0,none⟩) (n+1) c)).output=w9.output:=⟨rfl,rfl⟩
 generalize w9.setCell ⟨b3+3,0,none⟩ (.slice (some ⟨g,0,none⟩) (n+1) c)=w10 at *
 have cc:∀ {b:Nat} {y:Value},b<b3+3->w5.cell? ⟨b,0,none⟩=some y->w10.cell? ⟨b,0,none⟩=some y:=λ{b y} hb hy=>(NY (a:=⟨b,0,none⟩) ((e10 b Kc).trans (e9 b Kc))).trans hy
 have hnw:=hD.new
 refine ⟨⟨ck9,fk9⟩,⟨ho10.1.trans (ho9.trans (hg.os.trans (ha.os.trans (hu5.os.trans hu.os)))),ho10.2.trans (hp9.trans (hg.output.trans (ha.output.trans (hu5.output.trans hu.output)))),by omega,λi hi hne=>(e10 i Kc).trans ((e9 i Kc).trans ((hu5.old i Kc hne).trans (hu.old i Kc hne)))⟩,⟨cc Kc c3,cc Kc c4,cc Kc c5,⟨_,_,ck10,fk10,hk9.carry Kc (λi hi _=>e10 i Kc)⟩,hrb⟩,?_⟩
 exact ⟨hD.lay,hD.err,hD.tabs,hD.ng,⟨by have:=hD.old.size;omega,λi hi=>(e10 i Kc).trans ((e9 i Kc).trans (hD.old.old i hi))⟩,hD.new,hD.rdr.carry ((e10 rb Kc).trans (e9 rb Kc)),hD.le,hD.sz,hD.lb⟩
theorem dA{P:Program}(w:World){tx e':TypeId}(hk:P.underlying tx=some (.slice e'))(g:Nat)(v0 v1 v2 v3 v4 v5:Value)(hc:∀f,f<6->w.cell? ⟨g,f,none⟩=[v0,v1,v2,v3,v4,v5][f]?)(h1:∀u∈[v0,v1,v2,v3,v4,v5],u.oneCell'=true):Src P 6 tx (.slice (some ⟨g,0,none⟩) 1 1) 1 [v0,v1,v2,v3,v4,v5] w:=by
 refine Src.ofSlice _ hk _ 1 1 [v0,v1,v2,v3,v4,v5] rfl (λj u hu=>?_) h1
 have hj:j<6:=(Oi hu).1
 exact Z207
theorem tQ(w:World):∀f,f<6->(w.alloc (.cells #[.int .i64 0,.int .i64 0,.int .u64 0,.string ⟨#[]⟩,.slice none 0 0,.slice none 0 0] 42 (0,0))).cell? ⟨w.heap.size,f,none⟩=[Value.int .i64 0,.int .i64 0,.int .u64 0,.string ⟨#[]⟩,.slice none 0 0,.slice none 0 0][f]?:=by
 intro f hf
 unfold World.cell?
 rw [dD]
 simp
theorem yK:∀u∈[Value.int .i64 0,.int .i64 0,.int .u64 0,.string ⟨#[]⟩,.slice none 0 0,.slice none 0 0],u.oneCell'=true:=Cc 0 0 0 ⟨#[]⟩ none none 0 0 0 0
theorem IM{tab:List TNode}{pl:Nat->Nat}{t:ByteArray}{dep:Int}{g:Nat->Nat->Nat->DR}(hg:uj tab pl t dep g)(id:Nat)(hid:id<tab.length)(hk:tab[id].kind=11\/tab[id].kind=12){W w0 wr:World}{rb:Nat}{s r d m:Value}{i l:Nat}{ks:List Dat}(hI:ArI w0.heap.size rb (pl id) dep ks wr)(hu:Upd rb w0 wr)(hD:Dcd W wr tab pl rb t s r d m i l)(hkl:ks.length<=1000):
  Calls prog 133 #[.pointer (some ⟨w0.heap.size+3,0,none⟩),.pointer (some ⟨w0.heap.size,0,none⟩),.pointer (some ⟨w0.heap.size+1,0,none⟩),.pointer (some ⟨w0.heap.size+2,0,none⟩)] wr λe w'=>Upd rb w0 w'/\((pg s r d m e/\lC g tab[id].item ks i l=none)\/∃a j l2,lC g tab[id].item ks i l=some (a,j,l2)/\e=.returned (.tuple #[])/\ArI w0.heap.size rb (pl id) dep a w'/\Dcd W w' tab pl rb t s r d m j l2):=by
 have hT:=hD.lay.lies id hid
 have hit:=hD.lay.item id hid hk
 obtain ⟨v7,h7,hv7⟩:=hT.item
 have hpv:=hv7 hk
 subst hpv
 have q7:=(hD.old.cell hT.lt).trans h7
 obtain ⟨q3,q4,q5,⟨v,cells,qk,qz,hK⟩,hrb⟩:=hI
 obtain ⟨va,vc,hvs⟩:=hK.row.shape
 subst hvs
 have hdc:=λW' (h:Add wr W')=>hg tab[id].item W W' rb s r d m i l hit (hD.add h)
 have HNE:Hid (w0.heap.size≠rb/\w0.heap.size+1≠rb/\w0.heap.size+2≠rb/\w0.heap.size+3≠rb/\pl id≠rb):=⟨by omega,by omega,by omega,by omega,by have h1:=hT.lt;have h2:=hD.new;omega⟩
 have HWN:Hid (wr.heap.size≠rb):=NR hD.rdr.lt
 have HRB:=bf hrb
 have HPL:Hid (pl id<w0.heap.size):=Mx
 have HZK:=bf qz
 have HB4:Hid (w0.heap.size+4<=wr.heap.size):=NW _ _ qk
 have HU:=bf hu
 have HD:=bf hD
 generalize hR:lC g tab[id].item ks i l=R
 have HR:=bf hR
 generalize tab[id].item=it at *
 obtain ⟨n,hn⟩:∃n,ks.length=n:=⟨_,rfl⟩
 rw [hn] at hK qk hkl
 have HK:=bf hK
 have HN:=bf hn
 obtain ⟨iV,zV,hiV,hzV,hsV,hz6,hbV⟩:=Tryz.infoD6
 have hbyte:=Y107
 have n0:(0:Int)<=(n:Int):=Kc
 have n1:(n:Int)<(n:Int)+1:=Kc
 clear hT hit h7 hv7 hK hrb hD hu hn hR hbV hg qz
 go_enter func133,ntmps133
 go_upto_region 0 with fail
 refine wp_region_held_drew (S:=(λw'=>w'.cell? ⟨w0.heap.size,0,none⟩=some (.pointer (some ⟨rb,0,none⟩))/\w'.cell? ⟨w0.heap.size+1,0,none⟩=some (.pointer (some ⟨pl id,0,none⟩))/\w'.cell? ⟨w0.heap.size+2,0,none⟩=some (.int .i64 dep)/\w'.cell? ⟨pl id,7,none⟩=some (.pointer (some ⟨pl it,0,none⟩)))) Kf ?_ (λhH=>?_)
 ·exact ⟨q3,q4,q5,q7⟩
 apply tk 1
 apply tk 2
 apply tk 3
 apply tk 4
 apply tk 5
 apply tk 6
 refine wpAnyH_ready (rs:=[0,7,9]) Kf Kh ?_
 refine AllReadyH.cons rfl (λK hK=>?_) ?_
 ·have lk:wr.drew.cell? ⟨w0.heap.size+3,0,none⟩=some (.slice va n vc):=qk
  go_simp
  refine hK.out _ _ ⟨q3,q4,q5,q7⟩ (λhH=>?_)
  clear hK K lk
  apply tk 8
  refine wpAnyH_ready (rs:=[7,9]) Kf Kh ?_
  refine AllReadyH.cons rfl (λK hK=>?_) ?_
  ·go_simp
   go_wp2_with (go_at_call 59;refine (hdc _ (af wr)).mono ?_;rintro e w5 ⟨hu5,⟨⟨x,hx,rfl⟩,hO⟩|⟨x,j5,l5,cs5,hO,rfl,hx,hD5⟩⟩;exact ⟨rfl,HU.out.trans (((af wr).upd rb).trans hu5),.inl ⟨⟨x,hx,rfl⟩,by rw [<-HR.out];unfold lC;rw [hO]⟩⟩;obtain ⟨dk,dn,db,dt,dna,dka,dnl,dnc,dkl,dkc,rfl⟩:=aO hx;unfold dcs)
   have HU5:=Y145
   have HX:=Y146
   have HO:=bf hO
   have HD5:=bf hD5
   have p3:=Y147
   have p4:=Y148
   have p5:=Y149
   have pk:=Y150
   have p7:=Y151
   refine hK.out _ _ ⟨p3,p4,p5,p7⟩ (λhH=>?_)
   clear hK K hu5 hx hO hD5
   exact Z0
  refine AllReadyH.cons rfl (λK hK=>?_) AllReadyH.nil
  go_simp
  refine hK.out _ _ ⟨(ae wr.drew _).cell q3,(ae wr.drew _).cell q4,(ae wr.drew _).cell q5,(ae wr.drew _).cell q7⟩ (λhH=>?_)
  clear hK K
  exact Z3
 refine AllReadyH.cons rfl (λK hK=>?_) ?_
 ·go_simp
  go_wp2_with (go_at_call 59;refine (hdc _ (af wr)).mono ?_;rintro e w5 ⟨hu5,⟨⟨x,hx,rfl⟩,hO⟩|⟨x,j5,l5,cs5,hO,rfl,hx,hD5⟩⟩;exact ⟨rfl,HU.out.trans (((af wr).upd rb).trans hu5),.inl ⟨⟨x,hx,rfl⟩,by rw [<-HR.out];unfold lC;rw [hO]⟩⟩;obtain ⟨dk,dn,db,dt,dna,dka,dnl,dnc,dkl,dkc,rfl⟩:=aO hx;unfold dcs)
  have HU5:=Y145
  have HX:=Y146
  have HO:=bf hO
  have HD5:=bf hD5
  have p3:=Y147
  have p4:=Y148
  have p5:=Y149
  have pk:=Y150
  have p7:=Y151
  refine hK.out _ _ ⟨p3,p4,p5,p7⟩ (λhH=>?_)
  clear hK K hu5 hx hO hD5
  refine wpAnyH_ready (rs:=[0,9]) Kf Kh ?_
  refine AllReadyH.cons rfl (λK hK=>?_) ?_
  ·have lk:=Y152
   go_simp
   refine hK.out _ _ ⟨p3,p4,p5,p7⟩ (λhH=>?_)
   clear hK K lk
   apply tk 8
   exact Z0
  refine AllReadyH.cons rfl (λK hK=>?_) AllReadyH.nil
  go_simp
  refine hK.out _ _ ⟨(ae w5 _).cell p3,(ae w5 _).cell p4,(ae w5 _).cell p5,(ae w5 _).cell p7⟩ (λhH=>?_)
  clear hK K
  apply rd 0
  intro K hK
  have lk:(w5.alloc (.cells #[.int .i64 0,.int .i64 0,.int .u64 0,.string ⟨#[]⟩,.slice none 0 0,.slice none 0 0] 42 (0,0))).cell? ⟨w0.heap.size+3,0,none⟩=some (.slice va n vc):=(ae w5 _).cell pk
  go_simp
  refine hK.out _ _ ⟨(ae w5 _).cell p3,(ae w5 _).cell p4,(ae w5 _).cell p5,(ae w5 _).cell p7⟩ (λhH=>?_)
  clear hK K lk
  apply tk 8
  have HROW:=Y153
  apply rd 10
  intro K hK
  refine dO _ Kl _ _ 28 28 Kl Ke iV zV iV.bytes underlying28 hiV hzV hsV rfl hz6 Kl HROW.out _ 1 _ Kl (dA _ underlying28 w5.heap.size _ _ _ _ _ _ (λf hf=>tQ w5 f hf) yK) Ki (hbyte _ Kc) ?_
  intro v8 w8 hrow8 hg8
  obtain ⟨g8,c8,rfl,hgl,-⟩:=Y154
  have HG8:=bf hg8
  have HR8:=bf hrow8
  have hown:∀b,b<w0.heap.size+4->blk (.slice va n vc)≠some b:=λb hb e=>by have:=HK.out.own b e;omega
  have hsz6:=Y155
  have e3:=Y156
  have e4:=Y157
  have e5:=Y158
  have e7:=Y159
  have fk5:=Y160
  have ek8:=Y161
  have fk8:=Y162
  have hth:=Y163
  obtain ⟨z0,t0⟩:=Y164
  obtain ⟨z1,t1⟩:=Y165
  obtain ⟨z2,t2⟩:=Y166
  obtain ⟨z3,t3⟩:=Y167
  obtain ⟨z4,t4⟩:=Y168
  obtain ⟨z5,t5⟩:=Y169
  have y0:=(hth 0 Kc).2
  have y1:=(hth 1 Kc).2
  have y2:=(hth 2 Kc).2
  have y3:=(hth 3 Kc).2
  have y4:=(hth 4 Kc).2
  have y5:=(hth 5 Kc).2
  rw [Nat.add_zero] at t0 y0
  have HBG:=Y170
  refine hK.out _ _ ⟨e3,e4,e5,e7⟩ (λhH=>?_)
  clear hK K hth hrow8 hg8 hgl hown hsz6
  simp only [Act.put,List.getElem_toArray,List.getElem_cons_zero,List.getElem_cons_succ,List.setIfInBounds_toArray,List.set_cons_zero,List.set_cons_succ]
  apply tk 11
  have hE:=Y171
  exact Z7
 refine AllReadyH.cons rfl (λK hK=>?_) AllReadyH.nil
 go_simp
 refine hK.out _ _ ⟨(ae wr.drew _).cell q3,(ae wr.drew _).cell q4,(ae wr.drew _).cell q5,(ae wr.drew _).cell q7⟩ (λhH=>?_)
 clear hK K
 refine wpAnyH_ready (rs:=[0,7]) Kf Kh ?_
 refine AllReadyH.cons rfl (λK hK=>?_) ?_
 ·have lk:(wr.drew.alloc (.cells #[.int .i64 0,.int .i64 0,.int .u64 0,.string ⟨#[]⟩,.slice none 0 0,.slice none 0 0] 42 (0,0))).cell? ⟨w0.heap.size+3,0,none⟩=some (.slice va n vc):=(ae wr.drew _).cell qk
  have lk2:(wr.alloc (.cells #[.int .i64 0,.int .i64 0,.int .u64 0,.string ⟨#[]⟩,.slice none 0 0,.slice none 0 0] 42 (0,0))).cell? ⟨w0.heap.size+3,0,none⟩=some (.slice va n vc):=(ae wr _).cell qk
  go_simp
  refine hK.out _ _ ⟨(ae wr.drew _).cell q3,(ae wr.drew _).cell q4,(ae wr.drew _).cell q5,(ae wr.drew _).cell q7⟩ (λhH=>?_)
  clear hK K lk
  apply tk 8
  exact Z3
 refine AllReadyH.cons rfl (λK hK=>?_) AllReadyH.nil
 go_simp
 go_wp2_with (go_at_call 59;refine (hdc _ ((af wr).trans (ae _ _))).mono ?_;rintro e w5 ⟨hu5,⟨⟨x,hx,rfl⟩,hO⟩|⟨x,j5,l5,cs5,hO,rfl,hx,hD5⟩⟩;exact ⟨rfl,HU.out.trans ((((af wr).trans (ae _ _)).upd rb).trans hu5),.inl ⟨⟨x,hx,rfl⟩,by rw [<-HR.out];unfold lC;rw [hO]⟩⟩;obtain ⟨dk,dn,db,dt,dna,dka,dnl,dnc,dkl,dkc,rfl⟩:=aO hx;unfold dcs)
 have HU5:=Y172
 have HX:=Y173
 have HO:=bf hO
 have HD5:=bf hD5
 have p3:=Y147
 have p4:=Y148
 have p5:=Y149
 have pk:=Y150
 have p7:=Y151
 have HZ5:=Y174
 refine hK.out _ _ ⟨p3,p4,p5,p7⟩ (λhH=>?_)
 clear hK K hu5 hx hO hD5
 apply rd 0
 intro K hK
 have lk:=Y152
 go_simp
 refine hK.out _ _ ⟨p3,p4,p5,p7⟩ (λhH=>?_)
 clear hK K lk
 apply tk 8
 have HROW:=Y175
 apply rd 10
 intro K hK
 refine dO _ Kl _ _ 28 28 Kl Ke iV zV iV.bytes underlying28 hiV hzV hsV rfl hz6 Kl HROW.out _ 1 _ Kl (dA _ underlying28 wr.heap.size _ _ _ _ _ _ (HZ5.out) yK) Ki (hbyte _ Kc) ?_
 intro v8 w8 hrow8 hg8
 obtain ⟨g8,c8,rfl,hgl,-⟩:=Y154
 have HG8:=bf hg8
 have HR8:=bf hrow8
 have hown:∀b,b<w0.heap.size+4->blk (.slice va n vc)≠some b:=λb hb e=>by have:=HK.out.own b e;omega
 have hsz6:=Y176
 have e3:=Y177
 have e4:=Y178
 have e5:=Y179
 have e7:=Y180
 have fk5:=Y160
 have ek8:=Y181
 have fk8:=Y182
 have hth:=Y163
 obtain ⟨z0,t0⟩:=Y164
 obtain ⟨z1,t1⟩:=Y165
 obtain ⟨z2,t2⟩:=Y166
 obtain ⟨z3,t3⟩:=Y167
 obtain ⟨z4,t4⟩:=Y168
 obtain ⟨z5,t5⟩:=Y169
 have y0:=(hth 0 Kc).2
 have y1:=(hth 1 Kc).2
 have y2:=(hth 2 Kc).2
 have y3:=(hth 3 Kc).2
 have y4:=(hth 4 Kc).2
 have y5:=(hth 5 Kc).2
 rw [Nat.add_zero] at t0 y0
 have HBG:=Y170
 refine hK.out _ _ ⟨e3,e4,e5,e7⟩ (λhH=>?_)
 clear hK K hth hrow8 hg8 hgl hown hsz6
 simp only [Act.put,List.getElem_toArray,List.getElem_cons_zero,List.getElem_cons_succ,List.setIfInBounds_toArray,List.set_cons_zero,List.set_cons_succ]
 apply tk 11
 have hE:=Y183
 exact Z7
end
end Go.Proofs.YtmphmjkinmkidaaGreatDoor
