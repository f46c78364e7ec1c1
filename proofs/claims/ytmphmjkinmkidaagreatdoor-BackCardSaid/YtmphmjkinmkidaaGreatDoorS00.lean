set_option linter.defProp false
namespace Go.Proofs.YtmphmjkinmkidaaGreatDoor
variable{p:Prop}
section
def Z224(h:p:=by
 rw [J.within] at hw;exact hw.elim):p:=h
def Z227(h:p:=by
 rw [ByteArray.size_extract]
 omega):p:=h
def Z231(h:p:=by
 simp only [h1] at h;cases h):p:=h
def Z233(h:p:=by
 simp only [hr] at h;cases h):p:=h
def Z236(h:p:=by
 simp only [hv] at h;cases h):p:=h
def Z238(h:p:=by
 rw [h1] at h;cases h):p:=h
def Z241(h:p:=by
 rw [hn] at h;cases h):p:=h
def Kc(h:p:=by omega):p:=h
def Ke(h:p:=by decide):p:=h
def Kg(h:p:=by repeat (first|exact HB1.out|exact HB2.out|exact af wB|exact ae wB _|(refine Add.trans ?_ (ae _ _))|(refine Add.trans ?_ (af _)))):p:=h
def Kh(h:p:=by simp):p:=h
def Ki(h:p:=by unfold maxLen;omega):p:=h
def Kk(h:p:=by first|(rw [dE];exact Nat.lt_succ_self _)|(show _<(World.alloc _ _).heap.size;rw [dE];exact Nat.lt_succ_self _)):p:=h
def Kl(h:p:=by rfl):p:=h
def Km(h:p:=by rw [dE];omega):p:=h
def Kn(h:p:=by unfold wrap64;omega):p:=h
def Ko(h:p:=by unfold World.cell?;rw [hresW];rfl):p:=h
def Kq(h:p:=by simp [IntKind.wrap,IntKind.bits,IntKind.signed];omega):p:=h
def Kr(h:p:=by rw [beq_eq_false_iff_ne];omega):p:=h
def Kt(h:p:=by simp;omega):p:=h
def Ku(h:p:=by show _=_;rw [<-HR.out];unfold iZ;simp only [HKD.out];rw [hz];rfl):p:=h
def Kv(h:p:=by have:=HPL.out;omega):p:=h
def Kx(h:p:=by rw [dP];exact Nat.le_refl _):p:=h
def Ky(h:p:=by simpa using h):p:=h
def Kz(h:p:=by have:=HRB.out;omega):p:=h
def KC(h:p:=by rw [HN.out];exact hlt):p:=h
def KD(h:p:=by rw [IntKind.wrap_i64];omega):p:=h
def KE(h:p:=by rw [gB,decide_eq_false he]):p:=h
def KF(h:p:=by unfold gu;simp):p:=h
def KG(h:p:=by have h1:=HL1.out;have h2:=HLEN.out;rw [HE.out] at h1;simp [fu] at h1 ⊢;omega):p:=h
def KH(h:p:=by rw [Dat.enc];simp):p:=h
def KI(h:p:=by rw [gB,decide_eq_true he]):p:=h
def KJ(h:p:=by rw [<-hJ,ep _ _ _ (by decide),ep _ _ _ (by decide),ep _ _ _ (by decide),nR]):p:=h
def KK(h:p:=by unfold gT gR;simp [e]):p:=h
def KL(h:p:=by show _=_;rw [<-HR.out];unfold iZ;simp only [HKD.out];rw [HZ5.out];rfl):p:=h
def KM(h:p:=by have:=hb2.size;have:=World.block_lt_of_cell? _ _ hg1;simp at *;omega):p:=h
def KN(h:p:=by simp <;> omega):p:=h
def KO(h:p:=by repeat (first|exact HRV.out|apply Row.alloc|apply Row.drew)):p:=h
def KP(h:p:=by rw [ByteArray.size_extract];omega):p:=h
def KQ(h:p:=by show i≠kb;rintro rfl;exact hn8 hi):p:=h
def KR(h:p:=by rw [<-hJ];unfold J.textIn;rw [ep _ _ _ (by decide),gI];rfl):p:=h
def KS(h:p:=by have:=HB.out;unfold maxLen;omega):p:=h
def KT(h:p:=by rw [iO];exact decide_eq_false h0):p:=h
def KU(h:p:=by have h1:=HLEN.out;simp [fu] at h1 ⊢;omega):p:=h
def KV(h:p:=by exact h):p:=h
def KW(h:p:=by show _=_;rw [HO.out];unfold ofS;rw [hk];simp only [hrd]):p:=h
def KX(h:p:=by show _=_;unfold ofB;rw [hk];rfl):p:=h
def KY(h:p:=by unfold World.cell?;rw [b2];rfl):p:=h
def KZ(h:p:=by show _=_;rw [HO.out,hob]):p:=h
def La(h:p:=by simpa using hj):p:=h
def Lb(h:p:=by rw [ByteArray.toList_eq];exact List.eq_nil_of_length_eq_zero (by simpa using h0)):p:=h
def Le(h:p:=by rw [HB.out];exact hlt'):p:=h
def Lf(h:p:=by rw [HD.out];exact hlt'):p:=h
def Lg(h:p:=by simp [hx]):p:=h
def Lh(h:p:=by rw [iO];exact decide_eq_false h1):p:=h
def Lj(h:p:=by show _<256;omega):p:=h
def Ll(h:p:=by have:=HLE.out;omega):p:=h
def Lm(h:p:=by cases h):p:=h
def Lp(h:p:=by unfold ofB;simp [e]):p:=h
def Lr(h:p:=by have:=HBG.out;omega):p:=h
def Ls(h:p:=by have:=HB.out;omega):p:=h
def Lt(h:p:=by have:=HZ.out;omega):p:=h
def Lu(h:p:=by have h1:=HLEN.out;have h2:=HLN.out;simp [fu,gJ] at h1 h2 ⊢;omega):p:=h
def Lw(h:p:=by rw [dE];exact Nat.lt_succ_of_lt HT1.out):p:=h
def Lx(h:p:=by rw [Array.length_toList];rfl):p:=h
def LA(h:p:=by have h1:=HLEN.out;rw [zl] at h1;simp [fu,gJ,jo] at h1 ⊢;omega):p:=h
def LB(h:p:=by have h1:=HLEN.out;rw [GA] at h1;simp [fu,gJ,jo] at h1 ⊢;omega):p:=h
def LC(h:p:=by rw [List.length_map];exact (List.getElem?_eq_some_iff.1 h3).1):p:=h
def LD(h:p:=by rw [Dat.lies];exact ⟨na,nc,ka,kc,rfl,by omega,hn,hb,hns,hks⟩):p:=h
def LF(h:p:=by cases e;rfl):p:=h
def LG(h:p:=by show i≠w.heap.size+1;have:=hw6 i hi;simp only at hlt5;omega):p:=h
def LH(h:p:=by simpa [blk] using e):p:=h
def LJ(h:p:=by have:=HS4.out;omega):p:=h
def LK(h:p:=by rw [hb,UInt8.toNat_ofNat_of_lt' (by show _<256;omega)]):p:=h
def LM(h:p:=by have h1:=HT.out.lt;have h2:=HD.out.new;show _≠_;omega):p:=h
def LP(h:p:=by have:=HN.out;omega):p:=h
def LQ(h:p:=by simpa using hl):p:=h
def LU(h:p:=by have:=h.nblk i hi;omega):p:=h
def LV(h:p:=by have:=h.vblk i hi;omega):p:=h
def LW(h:p:=by rw [iO];exact decide_eq_false h2):p:=h
def LX(h:p:=by rw [IntKind.wrap_i64];unfold wrap64 at hw;exact hw):p:=h
def Mc(h:p:=by rw [hi];simp only [List.length_append] at hN;omega):p:=h
def Md(h:p:=by have:=HN.out;simp only [List.length_append];omega):p:=h
def Mg(h:p:=by have h1:=HT.out.lt;have h2:=HD.out.old.size;omega):p:=h
def Ml(h:p:=by simp [blk]):p:=h
def Mm(h:p:=by rw [dE,dE];omega):p:=h
def Mo(h:p:=by simp [IntKind.wrap,IntKind.signed,IntKind.bits]):p:=h
def Mq(h:p:=by have h1:=HK.out.own g hg;have h2:=HRB.out;omega):p:=h
def Mr(h:p:=by show i≠kb;have:=hw6' i hi;have:=HH.out.lt;omega):p:=h
def Ms(h:p:=by rw [List.length_append];omega):p:=h
def Mt(h:p:=by rw [dM,if_neg (by omega)] at hA;simpa using hA):p:=h
def Mu(h:p:=by simp [rP];omega):p:=h
def Mv(h:p:=by simp [ri];omega):p:=h
def Mw(h:p:=by show _=_;unfold iG;rw [hs];dsimp only;rw [ht]):p:=h
def Mx(h:p:=by have h1:=hT.lt;have h2:=hD.new;show _<_;omega):p:=h
def MB(h:p:=by rw [ep _ _ _ (by decide),gI]):p:=h
def MC(h:p:=by show _<=_;rw [hv] at hlen;simp at hlen;omega):p:=h
def ME(h:p:=by intro k;unfold World.frozen?;rw [hresW];simp):p:=h
def MF(h:p:=by unfold World.shape?;rw [hb]):p:=h
def MG(h:p:=by cases s <;> rw [eO] <;> rfl):p:=h
def MH(h:p:=by unfold J.textIn;rw [gI];rfl):p:=h
def MI(h:p:=by have:=H12.out;omega):p:=h
def MJ(h:p:=by have:=HB4.out;omega):p:=h
def MK(h:p:=by have:=HS1.out;omega):p:=h
def ML(h:p:=by simpa using hi):p:=h
def MM(h:p:=by have:=HI.out.own g hg;have:=HMB.out;omega):p:=h
def MN(h:p:=by injection hkv with e1 e2 e3;exact ⟨e1,e3⟩):p:=h
def MO(h:p:=by exact hb):p:=h
def MQ(h:p:=by show _=_;unfold ofB;rw [hk];exact Dk _ _):p:=h
def MR(h:p:=by simp [fu] at hlen ⊢;omega):p:=h
def MS(h:p:=by rw [HN.out];omega):p:=h
def MT(h:p:=by rw [dE];exact Nat.lt_succ_of_lt HLC.out):p:=h
def MU(h:p:=by rw [dE];exact Nat.lt_succ_of_lt HT4.out):p:=h
def MV(h:p:=by rw [dE];exact Nat.lt_succ_of_lt HT6.out):p:=h
def MW(h:p:=by show _=_;rw [HEE.out,hd];simp only [hx]):p:=h
def MX(h:p:=by show _=_;rw [HO.out];unfold ofS;rw [hk]):p:=h
def MZ(h:p:=by simpa [fu,gJ] using hlen):p:=h
def Na(h:p:=by show _=_;rw [HFE.out,hn,if_pos rfl,hk]):p:=h
def Nb(h:p:=by show N<=12;omega):p:=h
def Nc(h:p:=by rw [rdS];all_goals simp):p:=h
def Nf(h:p:=by rcases hs with h|h|h|h|h|h <;> omega):p:=h
def Ng(h:p:=by rw [World.frozen?_setCell];exact fk9):p:=h
def Nh(h:p:=by rw [J.plain];exact hnp):p:=h
def Ni(h:p:=by show _=_;rw [<-hk];rfl):p:=h
def Nj(h:p:=by rw [bne_iff_ne];omega):p:=h
def Nk(h:p:=by rw [beq_eq_false_iff_ne];exact hkd):p:=h
def Nl(h:p:=by rw [HL.out];exact hlt):p:=h
def Nn(h:p:=by rw [beq_eq_false_iff_ne];exact hz0):p:=h
def Np(h:p:=by show _=_;omega):p:=h
def Nq(h:p:=by rw [<-Nat.pow_succ];congr 1;omega):p:=h
def Nr(h:p:=by simpa using h0):p:=h
def Ns(h:p:=by rw [List.length_map,HN.out];omega):p:=h
def Nt(h:p:=by rw [dM,if_pos (by omega),dL];simp):p:=h
def Nu(h:p:=by rw [Int.natCast_add];exact hv.2.1):p:=h
def Nv(h:p:=by simpa [dig] using hd):p:=h
def Nw(h:p:=by have:=ha2.size;omega):p:=h
def Ny(h:p:=by have:=hb5 i hi;show i≠B0+2;omega):p:=h
def Nz(h:p:=by rw [iO];exact decide_eq_false h3):p:=h
def NA(h:p:=by simpa using e):p:=h
def NB(h:p:=by simp [MemPlace.row]):p:=h
def NC(h:p:=by rw [<-e1];exact e):p:=h
def ND(h:p:=by have:=aA hd;omega):p:=h
def NE(h:p:=by have:=qf hd;omega):p:=h
def NG(h:p:=by exact hi):p:=h
def NH(h:p:=by simpa using hb.1):p:=h
def NI(h:p:=by show _/\_;omega):p:=h
def NJ(h:p:=by simp [jc];omega):p:=h
abbrev NK:=@Nat.lt_of_lt_of_le
abbrev NL:=@Nat.le_refl
abbrev NM:=@Nat.le_trans
abbrev NN:=@List.prefix_refl
abbrev NP:=@List.getElem?_eq_getElem
abbrev NQ:=@Nat.zero_le
abbrev NR:=@Nat.ne_of_gt
abbrev NS:=@List.getElem_mem
abbrev NT:=@List.eq_nil_of_length_eq_zero
abbrev NU:=@Nat.lt_succ_self
abbrev NV:=@Nat.zero_add
theorem Oh{α:Type}{a:Array α}{i:Nat}{b:α}(h:a[i]? = some b):∃ h:i<a.size,a[i]=b:=Array.getElem?_eq_some_iff.1 h
theorem Oi{α:Type}{a:List α}{i:Nat}{b:α}(h:a[i]? = some b):∃ h:i<a.length,a[i]=b:=List.getElem?_eq_some_iff.1 h
end
end Go.Proofs.YtmphmjkinmkidaaGreatDoor
