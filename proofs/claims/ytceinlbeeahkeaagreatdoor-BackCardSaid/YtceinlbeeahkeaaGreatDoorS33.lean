import Derived.Shelf.Spec.SlicesGrow
import Derived.Test.YtceinlbeeahkeaaGreatDoorS26
set_option linter.defProp false
open Go.Proofs.Tryz
namespace Go.Proofs.YtceinlbeeahkeaaGreatDoor
variable{p:Prop}
section
open Go Go.RowKit
variable{g:Nat->Dat->Nat->Option Nat}{t u:ByteArray}{i id j:Nat}
def Z49(h:p:=by
 cases hv:lT t i with
 |none=>simp only [hv] at h;cases h
 |some p=>
  obtain ⟨z,j1⟩:=p
  obtain ⟨r1,r2,r3⟩:=iX hv
  simp only [hv] at h
  split at h
  ·rename_i h2
   cases h
   exact ⟨jK hn e KF (by unfold ofB;simp [e,h2]) KK,hl,by omega,r3,kT r1 Ke Ke ik AQ⟩
  cases h):p:=h
def Z198(h:p:=by
 simp only
 rw [b2 (l2+(l1-l)) Kc]
 congr 1
 omega):p:=h
def Z237(h:p:=by
 simp only [hp] at h;cases h):p:=h
def Z242(h:p:=by
 rw [hv] at h;cases h):p:=h
def qW(g:Nat->Dat->Nat->Option Nat):Prop:=∀id d l l',g id d l=some l'->l<=l'/\∀l2,l2+(l'-l)<=1000->g id d l2=some (l2+(l'-l))
theorem xW(hg:qW g)(id:Nat):∀(ks:List Dat) (l l':Nat),eu (g id) ks l=some l'->l<=l'/\∀l2,l2+(l'-l)<=1000->eu (g id) ks l2=some (l2+(l'-l))
 |[],l,l',h=>by
  rw [eu] at h
  cases h
  exact ⟨NL _,λl2 _=>by rw [eu,Nat.sub_self,Nat.add_zero]⟩
 |d::r,l,l',h=>by
  rw [eu] at h
  cases h1:g id d l with
  |none=>exact Z238
  |some l1=>
   simp only [h1] at h
   obtain ⟨a1,a2⟩:=hg id d l l1 h1
   obtain ⟨b1,b2⟩:=xW hg id r l1 l' h
   refine ⟨by omega,λl2 hl=>?_⟩
   rw [eu,a2 l2 Kc]
   exact Z198
theorem za(hg:qW g):∀(ids:List Nat) (ks:List Dat) (l l':Nat),jM g ids ks l=some l'->l<=l'/\∀l2,l2+(l'-l)<=1000->jM g ids ks l2=some (l2+(l'-l))
 |[],ks,l,l',h=>by
  rw [jM] at h
  cases h
  exact ⟨NL _,λl2 _=>by rw [jM,Nat.sub_self,Nat.add_zero]⟩
 |id::ids,[],l,l',h=>by rw [jM] at h;cases h
 |id::ids,d::r,l,l',h=>by
  rw [jM] at h
  cases h1:g id d l with
  |none=>exact Z238
  |some l1=>
   simp only [h1] at h
   obtain ⟨a1,a2⟩:=hg id d l l1 h1
   obtain ⟨b1,b2⟩:=za hg ids r l1 l' h
   refine ⟨by omega,λl2 hl=>?_⟩
   rw [jM,a2 l2 Kc]
   exact Z198
theorem uT(hg:qW g)(id:Nat)(ks:List Dat)(l l':Nat)(h:gL g id ks l=some l'):l<=l'/\∀l2,l2+(l'-l)<=1000->gL g id ks l2=some (l2+(l'-l)):=by
 unfold gL at h ⊢
 by_cases hb:1000<l+ks.length
 ·rw [if_pos hb] at h;cases h
 rw [if_neg hb] at h
 obtain ⟨a1,a2⟩:=xW hg id ks _ l' h
 refine ⟨by omega,λl2 hl=>?_⟩
 rw [if_neg Kc,a2 (l2+ks.length) Kc]
 congr 1
 omega
theorem Ec(hg:qW g)(n:TNode)(i:Int)(ns:List ByteArray)(ks:List Dat)(l l':Nat)(h:gT g n i ns ks l=some l'):l<=l'/\∀l2,l2+(l'-l)<=1000->gT g n i ns ks l2=some (l2+(l'-l)):=by
 unfold gT gR at h ⊢
 by_cases e9:n.kind=9
 ·simp only [if_pos e9] at h ⊢
  exact za hg _ ks l l' h
 simp only [if_neg e9] at h ⊢
 by_cases e13:n.kind=13
 ·simp only [if_pos e13] at h ⊢
  cases hb:n.branches[i.toNat]? with
  |none=>simp only [hb] at h;cases h
  |some b=>
   cases ks with
   |nil=>simp only [hb] at h;cases h
   |cons d r=>
    simp only [hb] at h ⊢
    exact hg b d l l' h
 simp only [if_neg e13] at h ⊢
 by_cases e11:n.kind=11
 ·simp only [if_pos e11] at h ⊢
  exact uT hg _ ks l l' h
 simp only [if_neg e11] at h ⊢
 by_cases e12:n.kind=12
 ·simp only [if_pos e12] at h ⊢
  by_cases hl:ns.length=ks.length
  ·simp only [if_pos hl] at h ⊢
   cases hi:gL g n.item ks l with
   |none=>rw [hi] at h;cases h
   |some l1=>
    simp only [hi] at h
    by_cases hk:kQ ns=true
    ·rw [if_pos hk] at h
     cases h
     obtain ⟨a1,a2⟩:=uT hg _ ks l _ hi
     refine ⟨a1,λl2 h2=>?_⟩
     rw [a2 l2 h2]
     simp only [if_pos hk]
    rw [if_neg hk] at h;cases h
  simp only [if_neg hl] at h;cases h
 simp only [if_neg e12] at h ⊢
 cases h
 exact ⟨NL _,λl2 _=>by rw [Nat.sub_self,Nat.add_zero]⟩
theorem oD(tab:List TNode):∀f,qW (eZ tab f):=by
 intro f
 induction f with
 |zero=>intro id d l l' h;rw [eZ] at h;cases h
 |succ f ih=>
  intro id d l l' h
  obtain ⟨k,m,b,u,ns,ks⟩:=d
  rw [eZ] at h
  cases hn:tab[id]? with
  |none=>exact Z241
  |some n=>
   simp only [hn] at h
   by_cases hc:k=n.kind/\gu n.kind m b u ns ks=true/\ofB n m b u ks=true
   ·rw [if_pos hc] at h
    obtain ⟨a1,a2⟩:=Ec ih n m ns ks l l' h
    refine ⟨a1,λl2 h2=>?_⟩
    rw [eZ,hn]
    simp only
    rw [if_pos hc]
    exact a2 l2 h2
   rw [if_neg hc] at h;cases h
theorem DJ(t:ByteArray):∀(f k i a z j:Nat),vrd t f k i a=.ok z j->k+f=10->a<128 ^ k->0<f->z<18446744073709551616/\i<j/\j<=t.size:=by
 intro f
 induction f with
 |zero=>intro k i a z j _ _ _ h;omega
 |succ f ih=>
  intro k i a z j h hk ha _
  rw [vrd] at h
  by_cases hi:i<t.size
  ·rw [dif_pos hi] at h
   by_cases h9:k<9\/t[i].toNat<=1
   ·rw [if_pos h9] at h
    have hb:=yS (x:=t[i].toNat) ha Kc (t[i].toNat_lt) h9
    by_cases hs:t[i].toNat<128
    ·rw [if_pos hs] at h
     cases h
     exact ⟨hb,by omega,by omega⟩
    rw [if_neg hs] at h
    have hk9:k<9:=Kc
    have:=ih (k+1) (i+1) _ z j h Kc (Co ha) Kc
    exact ⟨this.1,by omega,this.2.2⟩
   rw [if_neg h9] at h;cases h
  rw [dif_neg hi] at h;cases h
theorem iX{n:Int}(h:lT t i=some (n,j)):(-9223372036854775808<=n/\n<=9223372036854775807)/\i<j/\j<=t.size:=by
 unfold lT at h
 cases hv:vrd t 10 0 i 0 with
 |ok z j'=>
  rw [hv] at h
  cases h
  obtain ⟨h1,h2,h3⟩:=DJ t 10 0 i 0 z _ hv rfl Ke Kc
  refine ⟨?_,h2,h3⟩
  unfold jR
  split <;> omega
 |short=>exact Z242
 |range=>exact Z242
theorem Du(h:lrd t i=.ok u j):u.size<=t.size/\i<j/\j<=t.size:=by
 unfold lrd at h
 cases hv:vrd t 10 0 i 0 with
 |ok z j'=>
  rw [hv] at h
  simp only at h
  obtain ⟨h1,h2,h3⟩:=DJ t 10 0 i 0 z j' hv rfl Ke Kc
  split at h
  ·cases h
  split at h
  ·cases h
  cases h
  refine ⟨?_,by omega,by omega⟩
  exact Z227
 |short=>exact Z242
 |range=>exact Z242
theorem DC(h:urd t i=.ok u j):Lib.validD u.data.toList=true/\u.size<=t.size/\i<j/\j<=t.size:=by
 unfold urd at h
 cases hv:lrd t i with
 |ok z j'=>
  rw [hv] at h
  simp only at h
  split at h
  ·rename_i hval
   cases h
   exact ⟨hval,Du hv⟩
  cases h
 |short=>exact Z242
 |range=>exact Z242
theorem xh{r:TR}(h:tr? r=some (u,j)):r=.ok u j:=by
 cases r with
 |ok a b=>cases h;rfl
 |short=>cases h
 |range=>cases h
theorem yl{k:Nat}(h:pre t i k=some u):i+k<=t.size/\u.size=k:=by
 unfold pre at h
 split at h
 ·cases h
  refine ⟨by assumption,?_⟩
  exact Z227
 cases h
theorem uq{c:Int}{s:Option Int}(h:kG t i=some (c,s,j)):0<=c/\i<j/\j<=t.size:=by
 unfold kG at h
 cases hv:lT t i with
 |none=>exact Z242
 |some p=>
  obtain ⟨z,j1⟩:=p
  have h1:=iX hv
  simp only [hv] at h
  by_cases hz:z<0
  ·rw [if_pos hz] at h
   cases hv2:lT t j1 with
   |none=>simp only [hv2] at h;cases h
   |some p=>
    obtain ⟨z2,j2⟩:=p
    have h2:=iX hv2
    simp only [hv2] at h
    split at h
    ·cases h;exact ⟨by omega,by omega,by omega⟩
    cases h
  rw [if_neg hz] at h
  cases h
  exact ⟨by omega,h1.2⟩
def uA(t:ByteArray)(g:Nat->Dat->Nat->Option Nat)(g':Nat->Nat->Nat->DR):Prop:=∀id i l d j l',g' id i l=some (d,j,l')->l<=1000->i<=t.size->g id d l=some l'/\l'<=1000/\i<=j/\j<=t.size/\d.rng
theorem rx:∀a b:List Dat,aS a->aS b->aS (a++b)
 |[],b,_,h=>h
 |d::a,b,h,k=>by
  rw [aS] at h
  rw [List.cons_append,aS]
  exact ⟨h.1,rx a b h.2 k⟩
theorem vU{g:Dat->Nat->Option Nat} : ∀(a b:List Dat) (l l1:Nat),eu g a l=some l1->eu g (a++b) l=eu g b l1
 |[],b,l,l1,h=>by rw [eu] at h;cases h;rfl
 |d::a,b,l,l1,h=>by
  rw [eu] at h
  rw [List.cons_append,eu]
  cases h1:g d l with
  |none=>exact Z238
  |some l2=>
   simp only [h1] at h ⊢
   exact vU a b l2 l1 h
def jU(g:Nat->Dat->Nat->Option Nat)(id:Nat)(ks:List Dat)(s:Nat):Prop:=∀L,L+s<=1000->eu (g id) ks L=some (L+s)
theorem jU.nil(g:Nat->Dat->Nat->Option Nat)(id:Nat):jU g id [] 0:=λ_ _=>rfl
theorem jU.app{a b:List Dat}{s1 s2:Nat}(h1:jU g id a s1)(h2:jU g id b s2):jU g id (a++b) (s1+s2):=λL hL=>by
 rw [vU a b L (L+s1) (h1 L Kc),h2 (L+s1) Kc,Nat.add_assoc]
theorem jU.one(hs:qW g){l l':Nat}{d:Dat}(h:g id d l=some l'):l<=l'/\jU g id [d] (l'-l):=by
 obtain ⟨a1,a2⟩:=hs id d l l' h
 exact ⟨a1,λL hL=>by rw [eu,a2 L hL];rfl⟩
theorem vR{g':Nat->Nat->Nat->DR}(hs:qW g)(hb:uA t g g')(id:Nat):∀(c:Nat) (acc:List Dat) (i l:Nat) (a:List Dat) (j l':Nat),rep (lC g' id) c acc i l=some (a,j,l')->l<=1000->i<=t.size->∃new s,a=acc++new/\new.length=c/\jU g id new s/\l'=l+s/\l'<=1000/\i<=j/\j<=t.size/\aS new
 |0,acc,i,l,a,j,l',h,hl,hi=>by
  rw [rep] at h
  cases h
  exact ⟨[],0,by simp,rfl,jU.nil _ _,rfl,hl,NL _,hi,by rw [aS];trivial⟩
 |c+1,acc,i,l,a,j,l',h,hl,hi=>by
  rw [rep] at h
  unfold lC at h
  cases h1:g' id i l with
  |none=>exact Z231
  |some p=>
   obtain ⟨d,j1,l1⟩:=p
   simp only [h1] at h
   obtain ⟨q1,q2,q3,q4,q5⟩:=hb id i l d j1 l1 h1 hl hi
   obtain ⟨o1,o2⟩:=jU.one hs q1
   obtain ⟨new,s,e1,e2,e3,e4,e5,e6,e7,e8⟩:=vR hs hb id c (acc++[d]) j1 l1 a j l' h q2 q4
   exact ⟨d::new,(l1-l)+s,by rw [e1];simp,by simp [e2],jU.app o2 e3,by omega,e5,by omega,e7,by rw [aS];exact ⟨q5,e8⟩⟩
theorem mC{g':Nat->Nat->Nat->DR}(hs:qW g)(hb:uA t g g')(id:Nat):∀(f:Nat) (acc:List Dat) (i l:Nat) (a:List Dat) (j l':Nat),eB t (lC g' id) f acc i l=some (a,j,l')->l<=1000->i<=t.size->∃new s,a=acc++new/\jU g id new s/\l'=l+new.length+s/\l'<=1000/\i<=j/\j<=t.size/\aS new
 |0,acc,i,l,a,j,l',h,_,_=>by rw [eB] at h;cases h
 |f+1,acc,i,l,a,j,l',h,hl,hi=>by
  rw [eB] at h
  cases hh:kG t i with
  |none=>rw [hh] at h;cases h
  |some p=>
   obtain ⟨c,sz,j1⟩:=p
   obtain ⟨p1,p2,p3⟩:=uq hh
   simp only [hh] at h
   by_cases hc:c=0
   ·rw [if_pos hc] at h
    cases h
    exact ⟨[],0,by simp,jU.nil _ _,rfl,hl,by omega,p3,by rw [aS];trivial⟩
   rw [if_neg hc] at h
   by_cases hm:c<=1000-(l:Int)
   ·rw [if_pos hm] at h
    cases hr:rep (lC g' id) c.toNat acc j1 (l+c.toNat) with
    |none=>exact Z233
    |some p=>
     obtain ⟨a1,j2,l2⟩:=p
     simp only [hr] at h
     obtain ⟨n1,s1,e1,e2,e3,e4,e5,e6,e7,e8⟩:=vR hs hb id c.toNat acc j1 (l+c.toNat) a1 j2 l2 hr Kc p3
     split at h
     ·obtain ⟨n2,s2,g1,g2,g3,g4,g5,g6,g7⟩:=mC hs hb id f a1 j2 l2 a j l' h e5 e7
      exact ⟨n1++n2,s1+s2,by rw [g1,e1,List.append_assoc],e3.app g2,by rw [List.length_append];omega,g4,by omega,g6,rx _ _ e8 g7⟩
     cases h
   rw [if_neg hm] at h;cases h
theorem zu(s:ByteArray):∀(ns seen:List ByteArray),iy seen ns=true->lG s ns=false->lG s seen=false->Lib.validD s.data.toList=true->iy seen (ns++[s])=true
 |[],seen,_,_,h2,h3=>by
  show iy seen [s]=true
  rw [iy,if_neg (by rw [h2];decide),if_pos h3,iy]
 |x::r,seen,h,h1,h2,h3=>by
  rw [iy] at h
  rw [List.cons_append,iy]
  rw [uF,Bool.or_eq_false_iff] at h1
  by_cases hx:lG x seen=true
  ·rw [if_pos hx] at h;cases h
  rw [if_neg hx] at h ⊢
  by_cases hv:Lib.validD x.data.toList=true
  ·rw [if_pos hv] at h ⊢
   exact zu s r (x::seen) h h1.2 (by rw [uF,h1.1,h2];rfl) h3
  rw [if_neg hv] at h;cases h
theorem vT{g':Nat->Nat->Nat->DR}(hs:qW g)(hb:uA t g g')(hz:t.size<=70368744177000)(id:Nat):∀(c:Nat) (an:List ByteArray) (ak:List Dat) (i l:Nat) (a:List ByteArray × List Dat) (j l':Nat),rep (jS t g' id) c (an,ak) i l=some (a,j,l')->l<=1000->i<=t.size->an.length=ak.length->kQ an=true->(∀s∈an,s.size<=70368744177000)->∃new s,a.2=ak++new/\a.1.length=a.2.length/\kQ a.1=true/\(∀s∈a.1,s.size<=70368744177000)/\new.length=c/\jU g id new s/\l'=l+s/\l'<=1000/\i<=j/\j<=t.size/\aS new
 |0,an,ak,i,l,a,j,l',h,hl,hi,hn,hk,hsz=>by
  rw [rep] at h
  cases h
  exact ⟨[],0,by simp,hn,hk,hsz,rfl,jU.nil _ _,rfl,hl,NL _,hi,by rw [aS];trivial⟩
 |c+1,an,ak,i,l,a,j,l',h,hl,hi,hn,hk,hsz=>by
  rw [rep] at h
  unfold jS at h
  cases hu:tr? (urd t i) with
  |none=>simp only [hu] at h;cases h
  |some p=>
   obtain ⟨s,j0⟩:=p
   obtain ⟨u1,u2,u3,u4⟩:=DC (xh hu)
   simp only [hu] at h
   by_cases hin:lG s an=true
   ·rw [if_pos hin] at h;cases h
   rw [if_neg hin] at h
   cases h1:g' id j0 l with
   |none=>exact Z231
   |some p=>
    obtain ⟨d,j1,l1⟩:=p
    simp only [h1] at h
    obtain ⟨q1,q2,q3,q4,q5⟩:=hb id j0 l d j1 l1 h1 hl u4
    obtain ⟨o1,o2⟩:=jU.one hs q1
    have hkk:kQ (an++[s])=true:=zu s an [] hk (by simpa using hin) rfl u1
    obtain ⟨new,s',e1,e2,e3,e4,e5,e6,e7,e8,e9,e10,e11⟩:=vT hs hb hz id c (an++[s]) (ak++[d]) j1 l1 a j l' h q2 q4 (by simp [hn]) hkk (λx hx=>by
     rcases List.mem_append.1 hx with hx|hx
     ·exact hsz x hx
     rw [List.mem_singleton.1 hx];omega)
    exact ⟨d::new,(l1-l)+s',by rw [e1];simp,e2,e3,e4,by simp [e5],jU.app o2 e6,by omega,e8,by omega,e10,by rw [aS];exact ⟨q5,e11⟩⟩
theorem mM{g':Nat->Nat->Nat->DR}(hs:qW g)(hb:uA t g g')(hz:t.size<=70368744177000)(id:Nat):∀(f:Nat) (acc:List ByteArray × List Dat) (i l:Nat) (a:List ByteArray × List Dat) (j l':Nat),eB t (jS t g' id) f acc i l=some (a,j,l')->l<=1000->i<=t.size->acc.1.length=acc.2.length->kQ acc.1=true->(∀s∈acc.1,s.size<=70368744177000)->∃new s,a.2=acc.2++new/\a.1.length=a.2.length/\kQ a.1=true/\(∀s∈a.1,s.size<=70368744177000)/\jU g id new s/\l'=l+new.length+s/\l'<=1000/\i<=j/\j<=t.size/\aS new
 |0,acc,i,l,a,j,l',h,_,_,_,_,_=>by rw [eB] at h;cases h
 |f+1,acc,i,l,a,j,l',h,hl,hi,hn,hk,hsz=>by
  rw [eB] at h
  cases hh:kG t i with
  |none=>rw [hh] at h;cases h
  |some p=>
   obtain ⟨c,sz,j1⟩:=p
   obtain ⟨p1,p2,p3⟩:=uq hh
   simp only [hh] at h
   by_cases hc:c=0
   ·rw [if_pos hc] at h
    cases h
    exact ⟨[],0,by simp,hn,hk,hsz,jU.nil _ _,rfl,hl,by omega,p3,by rw [aS];trivial⟩
   rw [if_neg hc] at h
   by_cases hm:c<=1000-(l:Int)
   ·rw [if_pos hm] at h
    cases hr:rep (jS t g' id) c.toNat acc j1 (l+c.toNat) with
    |none=>exact Z233
    |some p=>
     obtain ⟨a1,j2,l2⟩:=p
     simp only [hr] at h
     obtain ⟨n1,s1,e1,x1,x2,x3,e2,e3,e4,e5,e6,e7,e8⟩:=vT hs hb hz id c.toNat acc.1 acc.2 j1 (l+c.toNat) a1 j2 l2 hr Kc p3 hn hk hsz
     split at h
     ·obtain ⟨n2,s2,g1,y1,y2,y3,g2,g3,g4,g5,g6,g7⟩:=mM hs hb hz id f a1 j2 l2 a j l' h e5 e7 x1 x2 x3
      exact ⟨n1++n2,s1+s2,by rw [g1,e1,List.append_assoc],y1,y2,y3,e3.app g2,by rw [List.length_append];omega,g4,by omega,g6,rx _ _ e8 g7⟩
     cases h
   rw [if_neg hm] at h;cases h
theorem CE{g':Nat->Nat->Nat->DR}(hb:uA t g g'):∀(ids:List Nat) (acc:List Dat) (i l:Nat) (a:List Dat) (j l':Nat),ov g' ids acc i l=some (a,j,l')->l<=1000->i<=t.size->∃new,a=acc++new/\new.length=ids.length/\jM g ids new l=some l'/\l'<=1000/\i<=j/\j<=t.size/\aS new
 |[],acc,i,l,a,j,l',h,hl,hi=>by
  rw [ov] at h
  cases h
  exact ⟨[],by simp,rfl,rfl,hl,NL _,hi,by rw [aS];trivial⟩
 |id::ids,acc,i,l,a,j,l',h,hl,hi=>by
  rw [ov] at h
  cases h1:g' id i l with
  |none=>exact Z231
  |some p=>
   obtain ⟨d,j1,l1⟩:=p
   simp only [h1] at h
   obtain ⟨q1,q2,q3,q4,q5⟩:=hb id i l d j1 l1 h1 hl hi
   obtain ⟨new,e1,e2,e3,e5,e6,e7,e8⟩:=CE hb ids (acc++[d]) j1 l1 a j l' h q2 q4
   exact ⟨d::new,by rw [e1];simp,by simp [e2],by rw [jM,q1];exact e3,e5,by omega,e7,by rw [aS];exact ⟨q5,e8⟩⟩
theorem jK{tab:List TNode}{f:Nat}{n:TNode}{k m:Int}{b:Nat}{ns:List ByteArray}{ks:List Dat}{l l':Nat}(hn:tab[id]?=some n)(e:n.kind=k)(hb:gu k m b u ns ks=true)(ho:ofB n m b u ks=true)(hk:gT (eZ tab f) n m ns ks l=some l'):eZ tab (f+1) id (.mk k m b u ns ks) l=some l':=by
 rw [eZ,hn]
 simp only
 rw [if_pos ⟨e.symm,by rw [e];exact hb,ho⟩]
 exact hk
theorem kT{k m:Int}{b:Nat}{ns:List ByteArray}{ks:List Dat}(h1 : -9223372036854775808<=m/\m<=9223372036854775807)(h2:b<18446744073709551616)(h3:u.size<=70368744177000)(h4:∀s∈ns,s.size<=70368744177000)(h5:aS ks):(Dat.mk k m b u ns ks).rng:=by
 rw [Dat.rng]
 exact ⟨h1,h2,h3,h4,h5⟩
theorem AQ:aS []:=by rw [aS];trivial
theorem ik:∀s∈([]:List ByteArray),s.size<=70368744177000:=λ_ h=>by cases h
theorem pH(t:ByteArray)(tab:List TNode)(hk:∀n∈tab,1<=n.kind/\n.kind<=14)(hz:t.size<=70368744177000):∀f,uA t (eZ tab f) (jt t tab f):=by
 intro f
 induction f with
 |zero=>intro id i l d j l' h;rw [jt] at h;cases h
 |succ f ih=>
  intro id i l d j l' h hl hi
  have hs:=oD tab f
  rw [jt] at h
  cases hn:tab[id]? with
  |none=>exact Z241
  |some n=>
   simp only [hn] at h
   obtain ⟨hk1,hk2⟩:=hk n (List.mem_of_getElem? hn)
   unfold iZ at h
   rcases rM hk1 hk2 with e|e|e|e|e|e|e|e|e|e|e|e|e|e
   all_goals (rw [e] at h;simp at h)
   ·obtain ⟨rfl,rfl,rfl⟩:=h
    exact ⟨jK hn e KF Lp KK,hl,NL _,hi,kT Ke Ke Ke ik AQ⟩
   ·cases hp:pre t i 1 with
    |none=>exact Z237
    |some v=>
     simp only [hp] at h
     obtain ⟨p1,p2⟩:=yl hp
     split at h
     ·rename_i h2
      cases h
      generalize (v.data.toList.head?.getD 0).toNat=x at h2
      exact ⟨jK hn e KF (by unfold ofB gq;simp [e];omega) KK,hl,by omega,p1,kT Kc Ke Ke ik AQ⟩
     cases h
   ·exact Z49
   ·cases hv:lT t i with
    |none=>exact Z236
    |some p=>
     obtain ⟨z,j1⟩:=p
     obtain ⟨r1,r2,r3⟩:=iX hv
     simp only [hv] at h
     cases h
     exact ⟨jK hn e KF Lp KK,hl,by omega,r3,kT r1 Ke Ke ik AQ⟩
   ·cases hp:pre t i 4 with
    |none=>exact Z237
    |some v=>
     simp only [hp] at h
     obtain ⟨p1,p2⟩:=yl hp
     have hul:=sJ v.data.toList
     rw [Array.length_toList,show v.data.size=4 from p2] at hul
     have hul':gG v.data.toList<4294967296:=hul
     cases h
     exact ⟨jK hn e KF (by unfold ofB;simp [e];omega) KK,hl,by omega,p1,kT Ke Kc Ke ik AQ⟩
   ·cases hp:pre t i 8 with
    |none=>exact Z237
    |some v=>
     simp only [hp] at h
     obtain ⟨p1,p2⟩:=yl hp
     have hul:=sJ v.data.toList
     rw [Array.length_toList,show v.data.size=8 from p2] at hul
     have hul':gG v.data.toList<18446744073709551616:=hul
     cases h
     exact ⟨jK hn e KF Lp KK,hl,by omega,p1,kT Ke hul' Ke ik AQ⟩
   ·cases hv:tr? (lrd t i) with
    |none=>exact Z236
    |some p=>
     obtain ⟨u,j1⟩:=p
     obtain ⟨r1,r2,r3⟩:=Du (xh hv)
     simp only [hv] at h
     cases h
     exact ⟨jK hn e KF Lp KK,hl,by omega,r3,kT Ke Ke Kc ik AQ⟩
   ·cases hv:tr? (urd t i) with
    |none=>exact Z236
    |some p=>
     obtain ⟨u,j1⟩:=p
     obtain ⟨r0,r1,r2,r3⟩:=DC (xh hv)
     simp only [hv] at h
     cases h
     exact ⟨jK hn e KF (by unfold ofB;simp [e,r0]) KK,hl,by omega,r3,kT Ke Ke Kc ik AQ⟩
   ·cases hv:ov (jt t tab f) (List.map Prod.snd n.fields) [] i l with
    |none=>exact Z236
    |some p=>
     obtain ⟨ks,j1,l1⟩:=p
     obtain ⟨new,e1,e2,e3,e5,e6,e7,e8⟩:=CE ih _ [] i l ks j1 l1 hv hl hi
     rw [List.nil_append] at e1
     subst e1
     simp only [hv] at h
     cases h
     exact ⟨jK hn e KF (by unfold ofB;rw [List.length_map] at e2;simp [e,e2]) (by unfold gT;rw [if_pos e];exact e3),e5,e6,e7,kT Ke Ke Ke ik e8⟩
   ·exact Z49
   ·cases hv:eB t (lC (jt t tab f) n.item) 1001 [] i l with
    |none=>exact Z236
    |some p=>
     obtain ⟨ks,j1,l1⟩:=p
     obtain ⟨new,s,e1,e2,e3,e4,e5,e6,e7⟩:=mC hs ih n.item 1001 [] i l ks j1 l1 hv hl hi
     rw [List.nil_append] at e1
     subst e1
     simp only [hv] at h
     cases h
     refine ⟨jK hn e KF Lp ?_,e4,e5,e6,kT Ke Ke Ke ik e7⟩
     unfold gT gR gL
     simp only [e]
     rw [if_neg Ke,if_neg Ke,if_pos trivial,if_neg Kc,e2 _ Kc,e3]
   ·cases hv:eB t (jS t (jt t tab f) n.item) 1001 ([],[]) i l with
    |none=>exact Z236
    |some p=>
     obtain ⟨a,j1,l1⟩:=p
     obtain ⟨new,s,e1,x1,x2,x3,e2,e3,e4,e5,e6,e7⟩:=mM hs ih hz n.item 1001 ([],[]) i l a j1 l1 hv hl hi rfl rfl ik
     rw [show ([]:List Dat)++new=new from rfl] at e1
     simp only [hv] at h
     cases h
     rw [e1] at x1 ⊢
     refine ⟨jK hn e KF Lp ?_,e4,e5,e6,kT Ke Ke Ke x3 e7⟩
     unfold gT gR gL
     simp only [e]
     rw [if_neg Ke,if_neg Ke,if_neg Ke,if_pos trivial,if_pos x1,if_neg Kc,e2 _ Kc,e3]
     simp only [x2,if_true]
   ·cases hv:lT t i with
    |none=>exact Z236
    |some p=>
     obtain ⟨z,j1⟩:=p
     obtain ⟨r1,r2,r3⟩:=iX hv
     simp only [hv] at h
     split at h
     ·rename_i h2
      cases hg:jt t tab f (n.branches[z.toNat]?.getD 0) j1 l with
      |none=>simp only [hg] at h;cases h
      |some p=>
       obtain ⟨d1,j2,l2⟩:=p
       obtain ⟨q1,q2,q3,q4,q5⟩:=ih _ j1 l d1 j2 l2 hg hl r3
       simp only [hg] at h
       cases h
       have hp2:0<=z/\z<n.branches.length:=by unfold gq at h2;simpa using h2
       have hlt:z.toNat<n.branches.length:=Kc
       rw [NP hlt,Option.getD_some] at q1
       refine ⟨jK hn e KF (by unfold ofB;simp [e,h2]) ?_,q2,by omega,q4,kT r1 Ke Ke ik (by rw [aS,aS];exact ⟨q5,trivial⟩)⟩
       unfold gT gR
       simp only [e]
       rw [if_neg Ke,if_pos trivial,NP hlt]
       exact q1
     cases h
   cases hp:pre t i n.size with
   |none=>exact Z237
   |some v=>
    simp only [hp] at h
    obtain ⟨p1,p2⟩:=yl hp
    cases h
    exact ⟨jK hn e KF (by unfold ofB;simp [e,p2]) KK,hl,by omega,p1,kT Ke Ke Kc ik AQ⟩
end
end Go.Proofs.YtceinlbeeahkeaaGreatDoor
section
namespace Go.Proofs
open Go.Shelf
def Tryz.laysGrow_ren:Shelf.Ren:=⟨fun|4=>131|n=>n,fun|22=>28|25=>42|n=>n,fun|n=>n⟩
theorem Tryz.laysGrow:Lays8.n4 prog Tryz.laysGrow_ren:=by constructor<;>first|kernel_rfl|(intros;kernel_rfl)|exact ⟨f131.name,by decide,lyF func131⟩
namespace YtceinlbeeahkeaaGreatDoor
open Go Go.RowKit Go.Extern.Stop Go.Stop Go.Extern
theorem pE(z:Array Value)(n:Nat):(Builtin.zeroCells z n).size=n*z.size:=by simp [Builtin.zeroCells]
theorem Hq(n:Nat)(hn:n<=12)(w:World):
  Calls prog 131 #[.slice none 0 0,.int .i64 n] w λe w'=>∃v,e=.returned v/\KidD w.heap.size w' v [] []/\Add w w':=by
 by_cases h0:n=0
 ·subst h0
  refine (Any8.slices_Grow_room Tryz.laysGrow none 0 0 0 w Kc Kc Kc Kc).mono ?_
  rintro e w' ⟨rfl,rfl⟩
  exact ⟨_,rfl,KidD.nil _ _,Add.refl _⟩
 obtain ⟨i,z,hi,hz,hs,hc,hb⟩:=Tryz.infoD6
 have hbig:(0+n)*i.bytes<=140737488355328:=NM (Nat.mul_le_mul (show 0+n<=12 by omega) hb) Ke
 refine (Any8.slices_Grow_grow Tryz.laysGrow i z hi hz Kc none 0 0 n [] w Kc Kc hbig Kc Kh (λ_=>rfl) (λa h=>by cases h)).mono ?_
 rintro e w' ⟨rfl,rfl⟩
 have hG:=grownCap_ge w (0+n) 0 (Tryz.laysGrow_ren.t 25)
 have hM:=grownCap_le_maxLen w (0+n) 0 (Tryz.laysGrow_ren.t 25) Ki
 refine ⟨_,rfl,⟨.inr ⟨_,_,rfl,?_,NQ _,hM,rfl,λj hj=>by simp at hj,λj hj=>?_⟩,λg h=>by cases h;exact NL _,rfl⟩,(af w).trans (ae _ _)⟩
 ·rw [dE]
  show w.heap.size<w.drew.heap.size+1
  exact NU _
 have hb:=dD w.drew (.cells (([]:List Value).toArray++Builtin.zeroCells z.cells (0+n-0)++Builtin.zeroCells z.cells (grownCap w (0+n) 0 (Tryz.laysGrow_ren.t 25)-(0+n))) (Tryz.laysGrow_ren.t 25) (0,0))
 have hz2:(([]:List Value).toArray++Builtin.zeroCells z.cells (0+n-0)++Builtin.zeroCells z.cells (grownCap w (0+n) 0 (Tryz.laysGrow_ren.t 25)-(0+n))).size=grownCap w (0+n) 0 (Tryz.laysGrow_ren.t 25)*6:=by
  rw [Array.size_append,Array.size_append,pE,pE,hc]
  show 0+(0+n-0)*6+_=_
  omega
 generalize (([]:List Value).toArray++Builtin.zeroCells z.cells (0+n-0)++Builtin.zeroCells z.cells (grownCap w (0+n) 0 (Tryz.laysGrow_ren.t 25)-(0+n)))=A at *
 generalize w.drew.alloc (.cells A (Tryz.laysGrow_ren.t 25) (0,0))=H at *
 have hb':H.heap[w.heap.size]?=some (.cells A (Tryz.laysGrow_ren.t 25) (0,0)):=hb
 refine ⟨?_,by unfold World.frozen?;rw [hb'];simp⟩
 unfold World.cell?
 rw [hb']
 simp
 omega
end YtceinlbeeahkeaaGreatDoor
end Go.Proofs
end
namespace Go.Proofs.YtceinlbeeahkeaaGreatDoor
variable{p:Prop}
section
open Go Go.RowKit
variable{g:Nat->Dat->Nat->Option Nat}
def GS(g:Nat->Dat->Nat->Option Nat):Prop:=∀id d l l',g id d l=some l'->l<=1000->l'<=1000
def gd(g:Nat->Dat->Nat->Option Nat)(id:Nat)(d:Dat)(l:Nat):Option Nat:=if l<=1000 then g id d l else none
theorem gd_le(h:GS g):∀id d l l',gd g id d l=some l'->l'<=1000:=λid d l l' e=>by
 unfold gd at e
 split at e
 ·exact h id d l l' e (by assumption)
 cases e
theorem zh{id:Nat}{d:Dat}{l:Nat}(h:l<=1000):gd g id d l=g id d l:=if_pos h
theorem Eh(hg:GS g)(id:Nat):∀(ks:List Dat) (l:Nat),l<=1000->eu (gd g id) ks l=eu (g id) ks l/\∀l',eu (g id) ks l=some l'->l'<=1000
 |[],l,hl=>⟨rfl,λl' h=>by rw [eu] at h;cases h;exact hl⟩
 |d::r,l,hl=>by
  rw [eu,eu,zh hl]
  cases h1:g id d l with
  |none=>exact ⟨rfl,λl' h=>by cases h⟩
  |some l1=>exact Eh hg id r l1 (hg id d l l1 h1 hl)
theorem JH(hg:GS g):∀(ids:List Nat) (ks:List Dat) (l:Nat),l<=1000->jM (gd g) ids ks l=jM g ids ks l/\∀l',jM g ids ks l=some l'->l'<=1000
 |[],ks,l,hl=>by
  rw [jM,jM]
  exact ⟨rfl,λl' h=>by cases h;exact hl⟩
 |id::ids,[],l,hl=>by
  rw [jM,jM]
  exact ⟨rfl,λl' h=>by cases h⟩
 |id::ids,d::r,l,hl=>by
  rw [jM,jM,zh hl]
  cases h1:g id d l with
  |none=>exact ⟨rfl,λl' h=>by cases h⟩
  |some l1=>exact JH hg ids r l1 (hg id d l l1 h1 hl)
theorem Br(hg:GS g)(id:Nat)(ks:List Dat)(l:Nat):gL (gd g) id ks l=gL g id ks l/\∀l',gL g id ks l=some l'->l'<=1000:=by
 unfold gL
 by_cases h:1000<l+ks.length
 ·rw [if_pos h,if_pos h]
  exact ⟨rfl,λl' h=>by cases h⟩
 rw [if_neg h,if_neg h]
 exact Eh hg id ks _ Kc
theorem BV(hg:GS g)(n:TNode)(i:Int)(ns:List ByteArray)(ks:List Dat)(l:Nat)(hl:l<=1000):gT (gd g) n i ns ks l=gT g n i ns ks l/\∀l',gT g n i ns ks l=some l'->l'<=1000:=by
 unfold gT gR
 by_cases e9:n.kind=9
 ·simp only [if_pos e9]
  exact JH hg _ ks l hl
 simp only [if_neg e9]
 by_cases e13:n.kind=13
 ·simp only [if_pos e13]
  cases hb:n.branches[i.toNat]? with
  |none=>exact ⟨rfl,λl' h=>by cases h⟩
  |some b=>
   cases ks with
   |nil=>exact ⟨rfl,λl' h=>by cases h⟩
   |cons d r=>exact ⟨zh hl,λl' h=>hg b d l l' h hl⟩
 simp only [if_neg e13]
 by_cases e11:n.kind=11
 ·simp only [if_pos e11]
  exact Br hg _ ks l
 simp only [if_neg e11]
 by_cases e12:n.kind=12
 ·simp only [if_pos e12]
  obtain ⟨a1,a2⟩:=Br hg n.item ks l
  rw [a1]
  refine ⟨rfl,λl' h=>?_⟩
  split at h
  ·cases hi:gL g n.item ks l with
   |none=>rw [hi] at h;cases h
   |some l1=>
    simp only [hi] at h
    split at h
    ·cases h;exact a2 _ hi
    cases h
  cases h
 simp only [if_neg e12]
 exact ⟨trivial,λl' h=>by cases h;exact hl⟩
theorem Ei(tab:List TNode):∀f,GS (eZ tab f):=by
 intro f
 induction f with
 |zero=>intro id d l l' h;rw [eZ] at h;cases h
 |succ f ih=>
  intro id d l l' h hl
  obtain ⟨k,m,b,u,ns,ks⟩:=d
  rw [eZ] at h
  cases hn:tab[id]? with
  |none=>exact Z241
  |some n=>
   simp only [hn] at h
   split at h
   ·exact (BV ih n m ns ks l hl).2 l' h
   cases h
end
end Go.Proofs.YtceinlbeeahkeaaGreatDoor
