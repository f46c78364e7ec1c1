import Derived.Test.YtjmlghgnbclmfaaGreatDoorS13
set_option linter.defProp false
open Go.Proofs.Tryz
open Go
namespace Go.Proofs.YtjmlghgnbclmfaaGreatDoor
variable{p:Prop}
section
variable{c:Nat}{L l:List Nat}
def Z151(h:p:=by
 cases h
 rw [h1] at e
 refine ⟨by rw [J.within];trivial,by rw [J.cost];simp at e;omega⟩):p:=h
def Z186(h:p:=by
 rw [List.countP_append] at e2
 simp only [List.length_cons];omega):p:=h
def Z194(h:p:=by
 simp [List.countP_cons,Bb]
 repeat' split
 all_goals omega):p:=h
def Z235(h:p:=by
 simp only [h2] at h;cases h):p:=h
mutual
def J.within:Nat->J->Prop
 |_,.null=>True
 |_,.bool _=>True
 |_,.num _=>True
 |_,.str _=>True
 |0,.arr _=>False
 |k+1,.arr l=>bX k l
 |0,.obj _ _=>False
 |k+1,.obj _ vs=>bX k vs
def bX:Nat->List J->Prop
 |_,[]=>True
 |k,v::r=>v.within k/\bX k r
end
theorem jF:∀ {k:Nat} {l:List J},bX k l↔∀v∈l,v.within k
 |_,[]=>by rw [bX];simp
 |k,x::r=>by rw [bX,jF (l:=r)];simp
def Bb(b:UInt8):Bool:=decide (b.toNat<128)
def kN(s:ByteArray):Nat:=2+s.data.toList.countP Bb
mutual
def J.cost:J->Nat
 |.null=>4
 |.bool _=>4
 |.num n=>if n<10 then 1 else 2
 |.str s=>kN s
 |.arr l=>1+max 1 (bC l)
 |.obj ns vs=>1+max 1 (bB ns vs)
def bC:List J->Nat
 |[]=>0
 |v::r=>1+v.cost+bC r
def bB:List ByteArray->List J->Nat
 |_,[]=>0
 |ns,v::r=>1+kN (ns.headD ByteArray.empty)+1+v.cost+bB ns.tail r
end
namespace Pc
theorem mV:∀L:List Nat,(dK L).length<=L.length
 |[]=>NL _
 |r::l=>by
  rw [dK]
  split
  ·have:=mV l
   simp;omega
  exact NL _
theorem kJ(h:dY c L=some l):L.length=l.length+1:=by
 cases L with
 |nil=>cases h
 |cons r t=>
  rw [dY] at h
  split at h
  ·cases h;rfl
  cases h
theorem wV:∀(k n:Nat) (L:List Nat) (m:Nat) (l:List Nat),kY k n L=some (m,l)->L.length=l.length+k
 |0,n,L,m,l,h=>by rw [kY] at h;cases h;rfl
 |k+1,n,[],m,l,h=>by rw [kY] at h;cases h
 |k+1,n,r::t,m,l,h=>by
  rw [kY] at h
  cases hd:rR r with
  |none=>rw [hd] at h;cases h
  |some d=>
   rw [hd] at h
   have:=wV k _ t m l h
   simp;omega
theorem rV(h:pV L=some (c,l)):l.length<L.length:=by
 unfold pV at h
 cases h1:kY 4 0 L with
 |none=>exact Z238
 |some p=>
  obtain ⟨x,l1⟩:=p
  have e1:=wV _ _ _ _ _ h1
  simp only [h1] at h
  split at h
  ·cases h;omega
  split at h
  ·cases h;omega
  split at h
  ·cases h
  cases h2:dY 92 l1 with
  |none=>exact Z235
  |some l2=>
   have e2:=kJ h2
   simp only [h2] at h
   cases h3:dY 117 l2 with
   |none=>exact Z229
   |some l3=>
    have e3:=kJ h3
    simp only [h3] at h
    cases h4:kY 4 0 l3 with
    |none=>exact Z230
    |some p=>
     obtain ⟨y,l4⟩:=p
     have e4:=wV _ _ _ _ _ h4
     simp only [h4] at h
     split at h
     ·cases h
     split at h
     ·cases h
     have e5:l4=l:=congrArg Prod.snd (Option.some.inj h)
     rw [<-e5];omega
theorem rY(h:yN L=some (c,l)):l.length<L.length:=by
 cases L with
 |nil=>cases h
 |cons r t=>
  rw [yN] at h
  by_cases e34:r=34
  ·rw [if_pos e34] at h;cases h;simp only [List.length_cons];omega
  rw [if_neg e34] at h
  by_cases e92:r=92
  ·rw [if_pos e92] at h;cases h;simp only [List.length_cons];omega
  rw [if_neg e92] at h
  by_cases e47:r=47
  ·rw [if_pos e47] at h;cases h;simp only [List.length_cons];omega
  rw [if_neg e47] at h
  by_cases e98:r=98
  ·rw [if_pos e98] at h;cases h;simp only [List.length_cons];omega
  rw [if_neg e98] at h
  by_cases e102:r=102
  ·rw [if_pos e102] at h;cases h;simp only [List.length_cons];omega
  rw [if_neg e102] at h
  by_cases e110:r=110
  ·rw [if_pos e110] at h;cases h;simp only [List.length_cons];omega
  rw [if_neg e110] at h
  by_cases e114:r=114
  ·rw [if_pos e114] at h;cases h;simp only [List.length_cons];omega
  rw [if_neg e114] at h
  by_cases e116:r=116
  ·rw [if_pos e116] at h;cases h;simp only [List.length_cons];omega
  rw [if_neg e116] at h
  by_cases e117:r=117
  ·rw [if_pos e117] at h;have:=rV h;simp only [List.length_cons];omega
  rw [if_neg e117] at h;cases h
theorem ED(c:Nat):(Lib.encodeRune c).countP Bb<=1:=by
 unfold Lib.encodeRune Lib.encodeRuneZ
 split
 ·simp [List.countP_cons];split <;> omega
 split
 ·rename_i h1 h2
  exact Z194
 split
 ·rename_i h1 h2 h3
  exact Z194
 split
 ·rename_i h1 h2 h3 h4
  exact Z194
 decide
theorem xZ:∀(f:Nat) (acc:List UInt8) (L:List Nat) (s:ByteArray) (l:List Nat),mZ f acc L=some (s,l)->s.data.toList.countP Bb+l.length+1<=acc.countP Bb+L.length
 |0,acc,L,s,l,h=>by rw [mZ] at h;cases h
 |f+1,acc,[],s,l,h=>by rw [mZ] at h;cases h
 |f+1,acc,r::t,s,l,h=>by
  rw [mZ] at h
  split at h
  ·cases h
   simp;omega
  split at h
  ·cases he:yN t with
   |none=>simp only [he] at h;cases h
   |some p=>
    obtain ⟨c,l1⟩:=p
    simp only [he] at h
    have e1:=rY he
    have e2:=xZ f _ _ s l h
    have e3:=ED c
    exact Z186
  split at h
  ·cases h
  have e2:=xZ f _ _ s l h
  have e3:=ED r
  exact Z186
theorem BG{s:ByteArray}(h:qD L=some (s,l)):kN s+l.length<=L.length:=by
 unfold qD at h
 cases hn:dY 34 L with
 |none=>exact Z241
 |some t=>
  rw [hn] at h
  have e1:=kJ hn
  have e2:=xZ _ _ _ _ _ h
  unfold kN
  rw [List.countP_nil] at e2
  omega
theorem CD(z:Bool):∀(L:List Nat) (c n m:Nat) (l:List Nat),kZ z c n L=some (m,l)->l.length<=L.length/\(l.length=L.length->m=n)
 |[],c,n,m,l,h=>by rw [kZ] at h;cases h;exact ⟨NL _,λ_=>rfl⟩
 |r::t,c,n,m,l,h=>by
  rw [kZ] at h
  split at h
  ·split at h
   ·cases h
   split at h
   ·cases h
   have:=CD z t _ _ m l h
   refine ⟨by simp;omega,λe=>by simp at e;omega⟩
  cases h
  exact ⟨NL _,λ_=>rfl⟩
theorem qr{m:Nat}(h:jq L=some (m,l)):(if m<10 then 1 else 2)+l.length<=L.length:=by
 cases L with
 |nil=>rw [jq] at h;cases h
 |cons r t=>
  rw [jq] at h
  by_cases hd:dig r=true
  ·rw [if_pos hd,kZ,if_pos hd,if_neg Kc,if_neg Kc] at h
   obtain ⟨h1,h2⟩:=CD _ t _ _ m l h
   have hr:r<=57:=by unfold dig at hd;simp at hd;omega
   split
   ·simp;omega
   by_cases e:l.length=t.length
   ·have:=h2 e;omega
   simp;omega
  rw [if_neg hd] at h;cases h
theorem nK{n:Int}(h:rU L=some (n,l)):(if n<10 then 1 else 2)+l.length<=L.length:=by
 unfold rU at h
 cases hn:dY 45 L with
 |none=>
  simp only [hn] at h
  cases hd:jq L with
  |none=>rw [hd] at h;cases h
  |some p=>
   obtain ⟨m,l1⟩:=p
   rw [hd] at h
   cases h
   have:=qr hd
   split <;> split at this <;> omega
 |some t=>
  simp only [hn] at h
  cases hd:jq t with
  |none=>rw [hd] at h;cases h
  |some p=>
   obtain ⟨m,l1⟩:=p
   rw [hd] at h
   cases h
   have:=qr hd
   have:=kJ hn
   rw [if_pos (by show -(m:Int)<10;omega)]
   show 1+l1.length<=L.length
   split at * <;> omega
theorem yM(p:Nat->Bool):∀L:List Nat,(L.takeWhile p).length+(L.dropWhile p).length=L.length
 |L=>by
  have:=congrArg List.length (List.takeWhile_append_dropWhile (p:=p) (l:=L))
  rw [List.length_append] at this
  exact this
theorem uw{j:J}(h:tL L=some (j,l))(k:Nat):j.within k/\j.cost+l.length<=L.length:=by
 have e:=yM gY L
 unfold tL at h
 split at h
 ·rename_i h1
  exact Z151
 split at h
 ·rename_i h1
  exact Z151
 split at h
 ·rename_i h1
  exact Z151
 cases h
theorem mG{last:Nat}{b:Bool}(h:nX last L=some (b,l)):l.length+1<=L.length:=by
 have e:=mV L
 unfold nX at h
 cases h1:dY 44 (dK L) with
 |some t=>
  rw [h1] at h
  cases h
  have:=kJ h1
  omega
 |none=>
  simp only [h1] at h
  cases h2:dY last (dK L) with
  |some t=>
   simp only [h2] at h
   cases h
   have:=kJ h2
   omega
  |none=>exact Z235
theorem nU{a b:Nat}{c:Bool}(h:lD a b L=some (c,l)):l.length+1<=L.length/\(c=true->l.length+2<=L.length):=by
 unfold lD at h
 cases h1:dY a L with
 |none=>exact Z238
 |some t=>
  have e1:=kJ h1
  have e2:=mV t
  simp only [h1] at h
  cases h2:dY b (dK t) with
  |some u=>
   have e3:=kJ h2
   simp only [h2] at h
   cases h
   exact ⟨by omega,λ_=>by omega⟩
  |none=>
   simp only [h2] at h
   cases h
   exact ⟨by omega,λh=>by cases h⟩
theorem mO(k:Nat)(val:List Nat->Option (J × List Nat))(hv:∀L v l,val L=some (v,l)->v.within k/\v.cost+l.length<=L.length):∀(f:Nat) (acc:List J) (L:List Nat) (j:J) (r:List Nat),iI val f acc L=some (j,r)->∃new,j=.arr (acc++new)/\new≠[]/\bX k new/\bC new+r.length<=L.length
 |0,acc,L,j,r,h=>by rw [iI] at h;cases h
 |f+1,acc,L,j,r,h=>by
  rw [iI] at h
  cases h1:val L with
  |none=>exact Z238
  |some p=>
   obtain ⟨v,l⟩:=p
   obtain ⟨q1,q2⟩:=hv L v l h1
   simp only [h1] at h
   cases h2:nX 93 l with
   |none=>exact Z235
   |some p=>
    obtain ⟨b,l2⟩:=p
    have q3:=mG h2
    cases b with
    |true=>
     simp only [h2] at h
     cases h
     exact ⟨[v],rfl,by simp,by rw [bX,bX];exact ⟨q1,trivial⟩,by rw [bC,bC];omega⟩
    |false=>
     simp only [h2] at h
     obtain ⟨new,e1,e2,e3,e4⟩:=mO k val hv f _ _ j r h
     exact ⟨v::new,by rw [e1];simp,by simp,by rw [bX];exact ⟨q1,e3⟩,by rw [bC];omega⟩
theorem mo(k:Nat)(val:List Nat->Option (J × List Nat))(hv:∀L v l,val L=some (v,l)->v.within k/\v.cost+l.length<=L.length):∀(f:Nat) (an:List ByteArray) (av:List J) (L:List Nat) (j:J) (r:List Nat),jC val f an av L=some (j,r)->∃nn nv,j=.obj (an++nn) (av++nv)/\nv≠[]/\bX k nv/\bB nn nv+r.length<=L.length
 |0,an,av,L,j,r,h=>by rw [jC] at h;cases h
 |f+1,an,av,L,j,r,h=>by
  rw [jC] at h
  have e0:=mV L
  cases h1:qD (dK L) with
  |none=>exact Z238
  |some p=>
   obtain ⟨n,l⟩:=p
   have q0:=BG h1
   simp only [h1] at h
   split at h
   ·cases h
   have e1:=mV l
   cases h2:dY 58 (dK l) with
   |none=>exact Z235
   |some l2=>
    have q1:=kJ h2
    simp only [h2] at h
    cases h3:val l2 with
    |none=>exact Z229
    |some p=>
     obtain ⟨v,l3⟩:=p
     obtain ⟨q2,q3⟩:=hv l2 v l3 h3
     simp only [h3] at h
     cases h4:nX 125 l3 with
     |none=>exact Z230
     |some p=>
      obtain ⟨b,l4⟩:=p
      have q4:=mG h4
      cases b with
      |true=>
       simp only [h4] at h
       cases h
       exact ⟨[n],[v],rfl,by simp,by rw [bX,bX];exact ⟨q2,trivial⟩,by rw [bB,bB];show 1+kN n+1+v.cost+0+_<=_;omega⟩
      |false=>
       simp only [h4] at h
       obtain ⟨nn,nv,w1,w2,w3,w4⟩:=mo k val hv f _ _ _ j r h
       exact ⟨n::nn,v::nv,by rw [w1];simp,by simp,by rw [bX];exact ⟨q2,w3⟩,by rw [bB];show 1+kN n+1+v.cost+bB nn nv+_<=_;omega⟩
theorem pn(k:Nat)(ar ob:List Nat->Option (J × List Nat))(ha:∀L j l,ar L=some (j,l)->j.within k/\j.cost+l.length<=L.length)(ho:∀L j l,ob L=some (j,l)->j.within k/\j.cost+l.length<=L.length)(L:List Nat)(j:J)(l:List Nat)(h:si ar ob L=some (j,l)):j.within k/\j.cost+l.length<=L.length:=by
 unfold si at h
 have hs:∀x,(qD L).map (λx=>(J.str x.1,x.2))=some x->x.1.within k/\x.1.cost+x.2.length<=L.length:=by
  intro x hx
  cases h1:qD L with
  |none=>rw [h1] at hx;cases hx
  |some p=>
   rw [h1] at hx
   cases hx
   exact ⟨by rw [J.within];trivial,by rw [J.cost];exact BG h1⟩
 have hn:∀x,(rU L).map (λx=>(J.num x.1,x.2))=some x->x.1.within k/\x.1.cost+x.2.length<=L.length:=by
  intro x hx
  cases h1:rU L with
  |none=>rw [h1] at hx;cases hx
  |some p=>
   rw [h1] at hx
   cases hx
   exact ⟨by rw [J.within];trivial,by rw [J.cost];exact nK h1⟩
 split at h
 ·exact hs _ h
 split at h
 ·exact ha L j l h
 split at h
 ·exact ho L j l h
 split at h
 ·exact hn _ h
 split at h
 ·exact hn _ h
 exact uw h k
theorem valJ_len':∀(k:Nat) (L:List Nat) (j:J) (l:List Nat),iQ k L=some (j,l)->j.within k/\j.cost+l.length<=L.length:=by
 intro k
 induction k with
 |zero=>
  intro L j l h
  rw [iQ] at h
  have:=pn 0 _ _ (λL j l h=>by cases h) (λL j l h=>by cases h) _ j l h
  have e:=mV L
  exact ⟨this.1,by omega⟩
 |succ k ih=>
  intro L j l h
  rw [iQ] at h
  have e:=mV L
  have:=pn (k+1) (Bf (iQ k)) (BZ (iQ k)) (λL j l h=>by
   unfold Bf at h
   cases h1:lD 91 93 L with
   |none=>exact Z238
   |some p=>
    obtain ⟨b,t⟩:=p
    obtain ⟨q1,q2⟩:=nU h1
    cases b with
    |true=>
     simp only [h1] at h
     cases h
     have:=q2 rfl
     exact ⟨by rw [J.within,bX];trivial,by rw [J.cost,bC];omega⟩
    |false=>
     simp only [h1] at h
     obtain ⟨new,e1,e2,e3,e4⟩:=mO k (iQ k) ih _ _ _ j l h
     rw [List.nil_append] at e1
     subst e1
     refine ⟨by rw [J.within];exact e3,?_⟩
     rw [J.cost]
     cases new with
     |nil=>exact absurd rfl e2
     |cons x r=>rw [bC] at e4 ⊢;omega) (λL j l h=>by
   unfold BZ at h
   cases h1:lD 123 125 L with
   |none=>exact Z238
   |some p=>
    obtain ⟨b,t⟩:=p
    obtain ⟨q1,q2⟩:=nU h1
    cases b with
    |true=>
     simp only [h1] at h
     cases h
     have:=q2 rfl
     exact ⟨by rw [J.within,bX];trivial,by rw [J.cost,bB];omega⟩
    |false=>
     simp only [h1] at h
     obtain ⟨nn,nv,e1,e2,e3,e4⟩:=mo k (iQ k) ih _ _ _ _ j l h
     rw [List.nil_append,List.nil_append] at e1
     subst e1
     refine ⟨by rw [J.within];exact e3,?_⟩
     rw [J.cost]
     cases nv with
     |nil=>exact absurd rfl e2
     |cons x r=>rw [bB] at e4 ⊢;omega) _ j l h
  exact ⟨this.1,by omega⟩
end Pc
theorem Gz{j:J}(h:yG L=some j):j.within 32/\j.cost<=L.length:=by
 unfold yG at h
 cases h1:iQ 32 L with
 |none=>exact Z238
 |some p=>
  obtain ⟨v,l⟩:=p
  obtain ⟨q1,q2⟩:=Pc.valJ_len' 32 L v l h1
  simp only [h1] at h
  split at h
  ·cases h;exact ⟨q1,by omega⟩
  cases h
end
section
variable{b:UInt8}{j v:J}{K:ByteArray}{k:Nat}
def Y68(h:p:=by exact (ih v sp E x E' hr hE (by rw [np,ny] at hp;exact hp.2.1) k' hwv)):p:=h
def Y69(h:p:=by exact (oH ((iD hn (k:=9) Ke).2.1 hpn))):p:=h
def Y70(h:p:=by exact (cost3 Ke Ke Ke hn' ht' hl')):p:=h
def lJ:List J->Nat
 |[]=>0
 |v::r=>1+(jB v).length+lJ r
def mi:List ByteArray->List J->Nat
 |_,[]=>0
 |ns,v::r=>1+(qB (ns.headD ByteArray.empty)).length+1+(jB v).length+mi ns.tail r
theorem yZ:∀l:List J,(jBs false l).length=lJ l
 |[]=>by rw [jBs];rfl
 |v::r=>by rw [jBs,lJ,List.length_append,List.length_append,yZ r];simp;omega
theorem yT:∀(l:List J) (ns:List ByteArray),(jBo false ns l).length=mi ns l
 |[],_=>by rw [jBo];rfl
 |v::r,ns=>by rw [jBo,mi];simp only [List.length_append,List.length_cons,yT r];simp;omega
theorem wu(l:List J):(jB (.arr l)).length=1+max 1 (lJ l):=by
 rw [jB]
 cases l with
 |nil=>rw [jBs];rfl
 |cons v r=>
  rw [jBs,lJ]
  simp only [List.length_append,List.length_cons,yZ r,if_true,List.length_nil]
  omega
theorem Ag(ns:List ByteArray)(vs:List J):(jB (.obj ns vs)).length=1+max 1 (mi ns vs):=by
 rw [jB]
 cases vs with
 |nil=>rw [jBo];rfl
 |cons v r=>
  rw [jBo,mi]
  simp only [List.length_append,List.length_cons,yT r,if_true,List.length_nil]
  omega
theorem Gj(h:mD b=true):Bb b=true:=by
 unfold mD at h
 unfold Bb
 simp at h ⊢
 omega
theorem fh{s:ByteArray}(h:fM s):(qB s).length=kN s:=by
 unfold qB kN
 have:s.data.toList.countP Bb=s.data.toList.length:=List.countP_eq_length.2 λb hb=>Gj (h b hb)
 rw [this]
 simp;omega
theorem tH(h:rD b=true):mD b=true:=by
 unfold rD at h
 unfold mD
 simp at h ⊢
 omega
theorem Ck(h:uD b=true):mD b=true:=by
 unfold uD at h
 unfold mD
 simp at h ⊢
 omega
theorem yD:∀ {l:List UInt8},nS l=true->∀b∈l,mD b=true
 |[],_,_,h=>by cases h
 |c::l,h,b,hb=>by
  rw [nS,Bool.and_eq_true,Bool.or_eq_true] at h
  rcases List.mem_cons.1 hb with rfl|hb
  ·rcases h.1 with h|h
   ·exact tH h
   exact Ck h
  exact yD h.2 b hb
theorem oH{n:ByteArray}(h:dJ n=true):fM n:=by
 unfold dJ at h
 intro b hb
 cases hn:n.data.toList with
 |nil=>rw [hn] at hb;cases hb
 |cons c l=>
  rw [hn,Eo,Bool.and_eq_true] at h
  rw [hn] at hb
  rcases List.mem_cons.1 hb with rfl|hb
  ·exact tH h.1
  exact yD h.2 b hb
theorem Bd:∀w∈kC,fM w:=by
 unfold fM
 decide
theorem og{t:ByteArray}(h:eP t≠0):fM t:=by
 obtain ⟨h1,h2,h3⟩:=iB h
 have e:eP t-1<kC.length:=by show _<8;omega
 rw [List.getD_eq_getElem?_getD,NP e] at h3
 rw [<-h3]
 exact Bd _ (NS _)
theorem wR:fM gm/\fM eW/\fM kg/\fM iY/\fM oL/\fM jm/\fM ig/\fM lK/\fM wh/\fM kI/\fM oU/\fM mQ:=by
 unfold fM
 decide
theorem lh(K:ByteArray):∀(vs:List J) (ns:List ByteArray) (v:J),ib K ns vs=some v->∃ns' vs',bB ns vs=1+kN K+1+v.cost+bB ns' vs'/\∀K',K'≠K->ib K' ns' vs'=ib K' ns vs
 |[],ns,v,h=>by cases ns <;> rw [ib] at h <;> (first|cases h|simp)
 |x::vs,[],v,h=>by rw [ib] at h;cases h;all_goals simp
 |x::vs,n::ns,v,h=>by
  rw [ib] at h
  by_cases e:n=K
  ·rw [if_pos e] at h
   cases h
   refine ⟨ns,vs,by rw [bB,e];rfl,λK' hK=>?_⟩
   rw [ib,if_neg (λe':n=K'=>hK (e'.symm.trans e))]
  rw [if_neg e] at h
  obtain ⟨ns',vs',h1,h2⟩:=lh K vs ns v h
  refine ⟨n::ns',x::vs',?_,λK' hK=>?_⟩
  ·rw [bB,bB]
   show _+bB ns vs=_+(_+bB ns' vs')
   rw [h1]
   show 1+kN n+1+x.cost+_=_
   show _=1+kN K+1+v.cost+(1+kN n+1+x.cost+bB ns' vs')
   omega
  rw [ib,ib,h2 K' hK]
theorem mY(h:j.named K=some v):∃ns vs,j=.obj ns vs/\ib K ns vs=some v:=by
 cases j with
 |obj ns vs=>exact ⟨ns,vs,rfl,h⟩
 |null=>cases h
 |bool b=>cases h
 |num b=>cases h
 |str b=>cases h
 |arr b=>cases h
theorem uK : ∀ {vs:List J} {ns:List ByteArray} {v:J},ib K ns vs=some v->v∈vs
 |[],ns,v,h=>by cases ns <;> rw [ib] at h <;> (first|cases h|simp)
 |x::vs,[],v,h=>by rw [ib] at h;cases h;all_goals simp
 |x::vs,n::ns,v,h=>by
  rw [ib] at h
  split at h
  ·cases h;exact List.mem_cons_self
  exact List.mem_cons_of_mem _ (uK h)
theorem fZ(h:j.named K=some v)(hw:j.within k):∃k',k=k'+1/\v.within k':=by
 obtain ⟨ns,vs,rfl,hf⟩:=mY h
 cases k with
 |zero=>exact Z224
 |succ k=>
  rw [J.within] at hw
  exact ⟨k,rfl,jF.1 hw v (uK hf)⟩
theorem AV(h:j.named K=some v):1+(1+kN K+1+v.cost)<=j.cost:=by
 obtain ⟨ns,vs,rfl,hf⟩:=mY h
 obtain ⟨ns',vs',e,_⟩:=lh K vs ns v hf
 rw [J.cost,e];omega
theorem Iz{K2:ByteArray}{v2:J}(hne:K2≠K)(h:j.named K=some v)(h2:j.named K2=some v2):1+(1+kN K+1+v.cost)+(1+kN K2+1+v2.cost)<=j.cost:=by
 obtain ⟨ns,vs,rfl,hf⟩:=mY h
 obtain ⟨ns',vs',e,q⟩:=lh K vs ns v hf
 have h2':ib K2 ns vs=some v2:=h2
 rw [<-q K2 hne] at h2'
 obtain ⟨n2,w2,e2,_⟩:=lh K2 vs' ns' v2 h2'
 rw [J.cost,e,e2];omega
theorem cost3{K2 K3:ByteArray}{v2 v3:J}(hne:K2≠K)(hne3:K3≠K)(hne23:K3≠K2)(h:j.named K=some v)(h2:j.named K2=some v2)(h3:j.named K3=some v3):1+(1+kN K+1+v.cost)+(1+kN K2+1+v2.cost)+(1+kN K3+1+v3.cost)<=j.cost:=by
 obtain ⟨ns,vs,rfl,hf⟩:=mY h
 obtain ⟨ns',vs',e,q⟩:=lh K vs ns v hf
 have h2':ib K2 ns vs=some v2:=h2
 rw [<-q K2 hne] at h2'
 have h3':ib K3 ns vs=some v3:=h3
 rw [<-q K3 hne3] at h3'
 obtain ⟨n2,w2,e2,q2⟩:=lh K2 vs' ns' v2 h2'
 rw [<-q2 K3 hne23] at h3'
 obtain ⟨n3,w3,e3,_⟩:=lh K3 w2 n2 v3 h3'
 rw [J.cost,e,e2,e3];omega
theorem kX{t:ByteArray}(h:j.textIn K=some t):j.named K=some (.str t):=by
 unfold J.textIn at h
 cases hn:j.named K with
 |none=>exact Z241
 |some v=>
  rw [hn] at h
  cases v with
  |str s=>cases h;rfl
  |null=>cases h
  |bool b=>cases h
  |num b=>cases h
  |arr b=>cases h
  |obj a b=>cases h
theorem rG{sp:ByteArray}{E:Env}{n:ByteArray}(h:gp j sp E=some n)(hp:fB n=false):j.named gm=some (.str n):=by
 unfold gp at h
 cases h1:j.textIn gm with
 |none=>exact Z238
 |some n0=>
  simp only [h1] at h
  split at h
  ·cases h3:iG j sp with
   |none=>exact Z229
   |some sp'=>
    simp only [h3] at h
    cases h4:gK eY j with
    |none=>exact Z230
    |some a=>
     simp only [h4] at h
     split at h
     ·cases h
     split at h
     ·cases h
     split at h
     ·cases h
     cases h
     rw [yj hp]
     exact kX h1
  cases h
theorem vw(k:Nat)(rd:J->Env->Option (Sch × Env))(hg:∀j E s E',rd j E=some (s,E')->gj E->gj E')(hP:∀j E s E',rd j E=some (s,E')->gj E->np s->j.within k->(jOf s).plain k/\(jB (jOf s)).length<=j.cost):∀(l:List J) (acc:List Sch) (E:Env) (ss:List Sch) (E':Env),fD rd acc l E=some (ss,E')->gj E->(∀s∈ss,np s)->bX k l->∃new,ss=acc++new/\bT k (new.map jOf)/\lJ (new.map jOf)<=bC l
 |[],acc,E,ss,E',h,_,_,_=>by
  rw [fD] at h
  cases h
  exact ⟨[],by simp,by rw [List.map_nil,bT];trivial,NQ _⟩
 |j::r,acc,E,ss,E',h,hE,hn,hw=>by
  rw [fD] at h
  rw [bX] at hw
  cases hj:rd j E with
  |none=>exact Z239
  |some p=>
   obtain ⟨s,E1⟩:=p
   simp only [hj] at h
   split at h
   ·cases h
   split at h
   ·cases h
   obtain ⟨new,e1,e2,e3⟩:=vw k rd hg hP r _ E1 ss E' h (hg j E s E1 hj hE) hn hw.2
   obtain ⟨q1,q2⟩:=hP j E s E1 hj hE (hn s (by rw [e1];simp)) hw.1
   exact ⟨s::new,by rw [e1];simp,by rw [List.map_cons,bT];exact ⟨q1,e2⟩,by rw [List.map_cons,lJ,bC];omega⟩
theorem tK(k:Nat)(rd:J->Env->Option (Sch × Env))(hg:∀j E s E',rd j E=some (s,E')->gj E->gj E')(hP:∀j E s E',rd j E=some (s,E')->gj E->np s->j.within k->(jOf s).plain k/\(jB (jOf s)).length<=j.cost):∀(l:List J) (ns:List ByteArray) (acc:List Sch) (ds:List (Option J)) (E:Env) (fs:List ByteArray) (ss:List Sch) (dd:List (Option J)) (E':Env),eG rd ns acc ds l E=some (fs,ss,dd,E')->gj E->(∀s∈ss,np s)->bX (k+1) l->∃nn nk,fs=ns++nn/\ss=acc++nk/\bT (k+1) (dW nn nk)/\lJ (dW nn nk)<=bC l
 |[],ns,acc,ds,E,fs,ss,dd,E',h,_,_,_=>by
  rw [eG] at h
  cases h
  exact ⟨[],[],by simp,by simp,by rw [dW,bT];trivial,by rw [dW];exact NQ _⟩
 |j::r,ns,acc,ds,E,fs,ss,dd,E',h,hE,hn,hw=>by
  rw [eG] at h
  rw [bX] at hw
  cases h0:j.textIn gm with
  |none=>exact Z240
  |some n=>
   simp only [h0] at h
   cases h1:gK dJ j with
   |none=>exact Z231
   |some al=>
    simp only [h1] at h
    by_cases h2:dJ n=true
    ·rw [if_pos h2] at h
     cases h3:j.named eW with
     |none=>exact Z229
     |some t=>
      simp only [h3] at h
      cases hj:rd t E with
      |none=>exact Z232
      |some p=>
       obtain ⟨s,E1⟩:=p
       simp only [hj] at h
       split at h
       ·cases h
       obtain ⟨nn,nk,e1,e2,e3,e4⟩:=tK k rd hg hP r _ _ _ E1 fs ss dd E' h (hg t E s E1 hj hE) hn hw.2
       obtain ⟨k',ek,hwt⟩:=fZ h3 hw.1
       cases ek
       obtain ⟨q1,q2⟩:=hP t E s E1 hj hE (hn s (by rw [e2];simp)) hwt
       have hnp:=oH h2
       have c:=Iz Ke (kX h0) h3
       obtain ⟨p1,p2,_⟩:=wR
       refine ⟨n::nn,s::nk,by rw [e1];simp,by rw [e2];simp,?_,?_⟩
       ·rw [dW,bT,J.plain]
        refine ⟨⟨rfl,by simp,by decide,λx hx=>?_,?_⟩,e3⟩
        ·rcases List.mem_cons.1 hx with rfl|hx
         ·exact p1
         rw [List.mem_singleton.1 hx];exact p2
        rw [bT,bT,bT,J.plain];exact ⟨hnp,q1,trivial⟩
       rw [dW,lJ,bC,Ag,mi,mi,mi,jB]
       show 1+(1+max 1 (1+(qB gm).length+1+(qB n).length+(1+(qB eW).length+1+(jB (jOf s)).length+0)))+lJ (dW nn nk)<=_
       rw [J.cost] at c
       rw [fh p1,fh p2,fh hnp]
       omega
    rw [if_neg h2] at h;cases h
theorem zq:∀(l:List J) (acc ns:List ByteArray),dQ dJ acc l=some ns->∃nn,ns=acc++nn/\(∀k,bT k (nn.map .str))/\lJ (nn.map .str)<=bC l
 |[],acc,ns,h=>by
  rw [dQ] at h
  cases h
  exact ⟨[],by simp,λk=>by rw [List.map_nil,bT];trivial,NQ _⟩
 |j::r,acc,ns,h=>by
  cases j with
  |str t=>
   rw [dQ] at h
   split at h
   ·rename_i h1
    obtain ⟨nn,e1,e2,e3⟩:=zq r (acc++[t]) ns h
    have hp:=oH h1.1
    refine ⟨t::nn,by rw [e1];simp,λk=>by rw [List.map_cons,bT,J.plain];exact ⟨hp,e2 k⟩,?_⟩
    rw [List.map_cons,lJ,bC,jB,J.cost,fh hp];omega
   cases h
  |null=>cases h
  |bool b=>cases h
  |num n=>cases h
  |arr l=>cases h
  |obj a b=>cases h
theorem DB{a b c:ByteArray}{x y z:J}(hnd:[a,b,c].Nodup)(ha:fM a)(hb:fM b)(hc:fM c)(hx:x.plain k)(hy:y.plain k)(hz:z.plain k):(J.obj [a,b,c] [x,y,z]).plain (k+1):=by
 rw [J.plain]
 refine ⟨rfl,by simp,hnd,λn hn=>?_,?_⟩
 ·rcases List.mem_cons.1 hn with rfl|hn
  ·exact ha
  rcases List.mem_cons.1 hn with rfl|hn
  ·exact hb
  rw [List.mem_singleton.1 hn];exact hc
 rw [bT,bT,bT,bT];exact ⟨hx,hy,hz,trivial⟩
theorem IV{a b:ByteArray}{x y:J}(hnd:[a,b].Nodup)(ha:fM a)(hb:fM b)(hx:x.plain k)(hy:y.plain k):(J.obj [a,b] [x,y]).plain (k+1):=by
 rw [J.plain]
 refine ⟨rfl,by simp,hnd,λn hn=>?_,?_⟩
 ·rcases List.mem_cons.1 hn with rfl|hn
  ·exact ha
  rw [List.mem_singleton.1 hn];exact hb
 rw [bT,bT,bT];exact ⟨hx,hy,trivial⟩
theorem len3(a b c:ByteArray)(x y z:J):(jB (.obj [a,b,c] [x,y,z])).length=1+(1+(qB a).length+1+(jB x).length)+(1+(qB b).length+1+(jB y).length)+(1+(qB c).length+1+(jB z).length):=by
 rw [Ag,mi,mi,mi,mi]
 show 1+max 1 (1+(qB a).length+1+(jB x).length+(1+(qB b).length+1+(jB y).length+(1+(qB c).length+1+(jB z).length+0)))=_
 omega
theorem len2(a b:ByteArray)(x y:J):(jB (.obj [a,b] [x,y])).length=1+(1+(qB a).length+1+(jB x).length)+(1+(qB b).length+1+(jB y).length):=by
 rw [Ag,mi,mi,mi]
 show 1+max 1 (1+(qB a).length+1+(jB x).length+(1+(qB b).length+1+(jB y).length+0))=_
 omega
theorem Cy(n:Nat)(h:n<=64):(Lib.itoa (n:Int)).length=if n<10 then 1 else 2:=by
 have e:∀l:List UInt8,(rn l).length=l.length:=λl=>by unfold rn;rw [List.length_map]
 split
 ·rename_i h1;rw [<-e,mH n h1];rfl
 rw [<-e,pX n Kc Kc];rfl
theorem Io:∀(f:Nat) (j:J) (sp:ByteArray) (E:Env) (s:Sch) (E':Env),rdS f j sp E=some (s,E')->gj E->np s->∀k,j.within k->(jOf s).plain k/\(jB (jOf s)).length<=j.cost:=by
 intro f
 obtain ⟨p1,p2,p3,p4,p5,p6,p7,p8,p9,p10,p11,p12⟩:=wR
 induction f with
 |zero=>intro j sp E s E' h _;rw [rdS] at h;cases h
 |succ f ih=>
  intro j sp E s E' h hE hp k hw
  cases j with
  |null=>exact Z219
  |bool b=>exact Z219
  |num n=>exact Z219
  |str t=>
   rw [lW] at h
   obtain ⟨rfl,⟨h1,rfl⟩|⟨h1,kk,hk,rfl⟩⟩:=jO h
   ·rw [yu h1,J.plain,jB,J.cost,fh (og h1)]
    exact ⟨og h1,NL _⟩
   rw [np] at hp
   have hn:=oH ((hE _ (lg hk)).2.1 hp)
   rw [jOf,J.plain,jB,fh hn,J.cost]
   refine ⟨hn,?_⟩
   rw [yj hp];exact NL _
  |arr l=>
   rw [nz] at h
   obtain ⟨ss,h1,h2,hu,rfl⟩:=jL h
   rw [np] at hp
   cases k with
   |zero=>exact Z224
   |succ k=>
    rw [J.within] at hw
    obtain ⟨new,e1,e2,e3⟩:=vw k _ (λj E s E' h hE=>nP f j sp E s E' h hE) (λj E s E' h hE hn hw=>ih j sp E s E' h hE hn k hw) l [] E ss E' hu hE (nO hp.2) hw
    rw [List.nil_append] at e1
    subst e1
    rw [jOf,if_neg Ke,if_neg Ke,if_neg Ke,if_neg Ke,if_neg Ke,if_pos rfl,nL,J.plain,wu,J.cost]
    exact ⟨e2,by omega⟩
  |obj ns vs=>
   rw [jZ] at h
   generalize J.obj ns vs=j at h hw
   obtain ⟨w,ht,h⟩:=lX h
   have ht':=kX ht
   rcases h with ⟨h1,rfl,rfl⟩|⟨rfl,h⟩|⟨rfl,h⟩|⟨rfl,h⟩|⟨rfl,h⟩|⟨rfl,h⟩
   ·have c:=AV ht'
    rw [yu h1,J.plain,jB,fh (og h1)]
    rw [J.cost] at c
    exact ⟨og h1,by omega⟩
   ·obtain ⟨v,x,hv,hr,rfl⟩:=mg h
    obtain ⟨k',rfl,hwv⟩:=fZ hv hw
    obtain ⟨q1,q2⟩:=Y68
    have c:=Iz Ke ht' hv
    rw [jOf,if_neg Ke,if_neg Ke,if_neg Ke,if_pos rfl,jI,jI]
    refine ⟨IV Ke p2 p6 (by rw [J.plain];exact p8) q1,?_⟩
    rw [len2,fh p2,fh p6,jB,fh p8]
    rw [J.cost] at c
    omega
   ·obtain ⟨v,x,hv,hr,rfl⟩:=mg h
    obtain ⟨k',rfl,hwv⟩:=fZ hv hw
    obtain ⟨q1,q2⟩:=Y68
    have c:=Iz Ke ht' hv
    rw [jOf,if_neg Ke,if_neg Ke,if_neg Ke,if_neg Ke,if_pos rfl,jI,jI]
    refine ⟨IV Ke p2 p7 (by rw [J.plain];exact p9) q1,?_⟩
    rw [len2,fh p2,fh p7,jB,fh p9]
    rw [J.cost] at c
    omega
   ·obtain ⟨n,l,fs,ss,ds,hn,hl,hf,rfl⟩:=jN h
    rw [np] at hp
    have hpn:=hp.1 Ke
    have hnp:=Y69
    have hn':=rG hn hpn
    obtain ⟨hl',_,_⟩:=jy hl
    obtain ⟨k',rfl,hwl⟩:=fZ hl' hw
    have c:=Y70
    have hq:J.plain k' (.arr (dW fs ss))/\lJ (dW fs ss)<=bC l:=by
     cases k' with
     |zero=>rw [J.within] at hwl;exact hwl.elim
     |succ k'=>
      rw [J.within] at hwl
      rw [J.plain]
      cases k' with
      |zero=>
       cases l with
       |nil=>
        rw [eG] at hf
        cases hf
        rw [dW,bT,lJ]
        exact ⟨trivial,NQ _⟩
       |cons x r=>
        exfalso
        rw [bX] at hwl
        rw [eG] at hf
        cases h0:x.textIn gm with
        |none=>rw [h0] at hf;cases hf
        |some n0=>
         obtain ⟨k2,e,_⟩:=fZ (kX h0) hwl.1
         cases e
      |succ k'=>
       obtain ⟨nn,nk,e1,e2,e3,e4⟩:=tK k' _ (λj E s E' h hE=>nP f j (gi n) E s E' h hE) (λj E s E' h hE hn hw=>ih j (gi n) E s E' h hE hn k' hw) l [] [] [] _ fs ss ds E' hf (hE.app (iD hn Ke)) (nO hp.2) hwl
       rw [List.nil_append] at e1 e2
       subst e1 e2
       exact ⟨e3,e4⟩
    rw [jOf,if_pos rfl]
    refine ⟨DB Ke p1 p2 p3 Nh (by rw [J.plain];exact p10) hq.1,?_⟩
    rw [len3,fh p1,fh p2,fh p3,jB,fh hnp,jB,fh p10,wu]
    rw [J.cost,J.cost,J.cost] at c
    have:=hq.2
    omega
   ·obtain ⟨n,l,sy,hn,hl,hsy,rfl,rfl⟩:=kU h
    rw [np] at hp
    have hpn:=hp.1 Ke
    have hnp:=Y69
    have hn':=rG hn hpn
    obtain ⟨hl',_,_⟩:=jy hl
    obtain ⟨k',rfl,hwl⟩:=fZ hl' hw
    have c:=Y70
    obtain ⟨nn,e1,e2,e3⟩:=zq l [] sy hsy
    rw [List.nil_append] at e1
    subst e1
    have hq:J.plain k' (.arr (sy.map .str)):=by
     cases k' with
     |zero=>rw [J.within] at hwl;exact hwl.elim
     |succ k'=>rw [J.plain];exact e2 k'
    rw [jOf,if_neg Ke,if_pos rfl]
    refine ⟨DB Ke p1 p2 p4 Nh (by rw [J.plain];exact p11) hq,?_⟩
    rw [len3,fh p1,fh p2,fh p4,jB,fh hnp,jB,fh p11,wu]
    rw [J.cost,J.cost,J.cost] at c
    omega
   obtain ⟨n,z,hn,hz,hz0,hz1,rfl,rfl⟩:=kF h
   rw [np] at hp
   have hpn:=hp.1 Ke
   have hnp:=Y69
   have hn':=rG hn hpn
   obtain ⟨k',rfl,hwl⟩:=fZ hz hw
   have c:=cost3 Ke Ke Ke hn' ht' hz
   rw [jOf,if_neg Ke,if_neg Ke,if_pos rfl]
   refine ⟨DB Ke p1 p2 p5 Nh (by rw [J.plain];exact p12) (by rw [J.plain];omega),?_⟩
   rw [len3,fh p1,fh p2,fh p5,jB,jB,jB,fh hnp,fh p12,Cy z.toNat Kc]
   rw [J.cost,J.cost,J.cost] at c
   split at c <;> split <;> omega
end
section
variable{b:UInt8}{v:J}
def Z123(h:p:=by
 refine ⟨λ_=>pu λh0=>h (qw (v:=.str n) Kh (by rw [jB];exact Ed h0)),?_⟩
 rw [hkid,ny];trivial):p:=h
mutual
theorem uu:∀s:Sch,jOf (eO s)=jOf s
 |.ref k n=>by rw [eO]
 |.mk k n ns size kids defs=>by
  rw [eO,jOf,jOf,xn kids,rf kids ns]
theorem xn:∀l:List Sch,jI (dS l)=jI l
 |[]=>by rw [dS]
 |s::r=>by rw [dS,jI,jI,uu s,xn r]
theorem rf:∀(l:List Sch) (ns:List ByteArray),dW ns (dS l)=dW ns l
 |[],ns=>by rw [dS]
 |s::r,ns=>by rw [dS,dW,dW,uu s,rf r]
end
mutual
theorem BL:∀s:Sch,eO (eO s)=eO s
 |.ref k n=>by rw [eO,eO]
 |.mk k n ns size kids defs=>by rw [eO,eO,nu kids,List.map_map];rfl
theorem nu:∀l:List Sch,dS (dS l)=dS l
 |[]=>by rw [dS,dS]
 |s::r=>by rw [dS,dS,BL s,nu r]
end
theorem pu{n:ByteArray}(h:(46:UInt8) ∉ n.data.toList):fB n=false:=by
 unfold fB
 rw [decide_eq_false_iff_not]
 intro h0
 obtain ⟨o,ho⟩:∃o:Nat,Lib.indexByte n.data.toList 46=o:=⟨_,(Int.toNat_of_nonneg h0).symm⟩
 obtain ⟨h1,_⟩:=Lib.indexByte_some ho
 exact h (List.mem_iff_getElem?.2 ⟨o,h1⟩)
theorem Ed{s:ByteArray}(h:b∈s.data.toList):b∈qB s:=by
 unfold qB
 exact List.mem_cons_of_mem _ (List.mem_append_left _ h)
theorem EE : ∀ {l:List J} {f:Bool},v∈l->b∈jB v->b∈jBs f l
 |x::r,f,hv,hb=>by
  rw [jBs]
  rcases List.mem_cons.1 hv with rfl|hv
  ·exact List.mem_append_right _ (List.mem_append_left _ hb)
  exact List.mem_append_right _ (List.mem_append_right _ (EE hv hb))
theorem Fg : ∀ {l:List J} {ns:List ByteArray} {f:Bool},v∈l->b∈jB v->b∈jBo f ns l
 |x::r,ns,f,hv,hb=>by
  rw [jBo]
  rcases List.mem_cons.1 hv with rfl|hv
  ·exact List.mem_append_right _ (List.mem_append_right _ (List.mem_cons_of_mem _ (List.mem_append_left _ hb)))
  exact List.mem_append_right _ (List.mem_append_right _ (List.mem_cons_of_mem _ (List.mem_append_right _ (Fg hv hb))))
theorem Fe{l:List J}(hv:v∈l)(hb:b∈jB v):b∈jB (.arr l):=by
 rw [jB]
 exact List.mem_cons_of_mem _ (List.mem_append_left _ (EE hv hb))
theorem qw{ns:List ByteArray}{l:List J}(hv:v∈l)(hb:b∈jB v):b∈jB (.obj ns l):=by
 rw [jB]
 exact List.mem_cons_of_mem _ (List.mem_append_left _ (Fg hv hb))
mutual
theorem GW:∀s:Sch,shp s->(46:UInt8) ∉ jB (jOf s)->np s
 |.ref k n,_,h=>by
  rw [np]
  refine pu λh0=>h ?_
  rw [jOf,jB]
  exact Ed h0
 |.mk k n ns size kids defs,hs,h=>by
  rw [shp] at hs
  obtain ⟨hk,hs⟩:=hs
  rw [np]
  rcases hs with ⟨h1,h2,_,_,_,hkid,_⟩|⟨rfl,_⟩|⟨rfl,hkid,_⟩|⟨rfl,hkid,_⟩|⟨h1,_⟩|⟨rfl,_⟩
  ·refine ⟨λh=>by omega,?_⟩
   rw [hkid,ny];trivial
  ·rw [jOf,if_pos rfl] at h
   refine ⟨λ_=>pu λh0=>h (qw (v:=.str n) Kh (by rw [jB];exact Ed h0)),?_⟩
   exact Ju kids ns hk λh0=>h (qw (v:=.arr (dW ns kids)) Kh h0)
  ·rw [jOf,if_neg Ke,if_pos rfl] at h
   exact Z123
  ·rw [jOf,if_neg Ke,if_neg Ke,if_pos rfl] at h
   exact Z123
  ·refine ⟨λh=>by omega,?_⟩
   rw [jOf,if_neg Kc,if_neg Kc,if_neg Kc] at h
   refine DL kids hk λv hv hb=>?_
   rcases h1 with rfl|rfl
   ·rw [if_pos rfl] at h
    exact h (qw (List.mem_cons_of_mem _ hv) hb)
   rw [if_neg Ke,if_pos rfl] at h
   exact h (qw (List.mem_cons_of_mem _ hv) hb)
  refine ⟨λh=>by omega,?_⟩
  rw [jOf,if_neg Kc,if_neg Kc,if_neg Kc,if_neg Kc,if_neg Kc,if_pos rfl] at h
  exact DL kids hk λv hv hb=>h (Fe hv hb)
theorem DL:∀l:List Sch,gH l->(∀v∈jI l,(46:UInt8) ∉ jB v)->ny l
 |[],_,_=>by rw [ny];trivial
 |s::r,hs,h=>by
  rw [gH] at hs
  rw [jI] at h
  rw [ny]
  exact ⟨GW s hs.1 (h _ List.mem_cons_self),DL r hs.2 λv hv=>h v (List.mem_cons_of_mem _ hv)⟩
theorem Ju:∀(l:List Sch) (ns:List ByteArray),gH l->(46:UInt8) ∉ jB (.arr (dW ns l))->ny l
 |[],_,_,_=>by rw [ny];trivial
 |s::r,ns,hs,h=>by
  rw [gH] at hs
  rw [dW] at h
  rw [ny]
  refine ⟨GW s hs.1 λhb=>h (Fe List.mem_cons_self (qw (v:=jOf s) Kh hb)),Ju r ns.tail hs.2 λhb=>h ?_⟩
  rw [jB] at hb ⊢
  rcases List.mem_cons.1 hb with hb|hb
  ·exact absurd hb Ke
  rcases List.mem_append.1 hb with hb|hb
  ·refine List.mem_cons_of_mem _ (List.mem_append_left _ ?_)
   rw [jBs]
   refine List.mem_append_right _ (List.mem_append_right _ ?_)
   cases hr:dW ns.tail r with
   |nil=>rw [hr] at hb;exact hb
   |cons x t=>
    rw [hr,jBs] at hb
    rw [jBs]
    refine List.mem_append_right _ ?_
    rcases List.mem_append.1 hb with hb|hb
    ·cases hb
    exact hb
  exact absurd hb Ke
end
end
end Go.Proofs.YtjmlghgnbclmfaaGreatDoor
