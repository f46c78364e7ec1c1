import Derived.Lib.IndexLaws
import Derived.Lib.IndexBytes
import Derived.Test.YtceinlbeeahkeaaGreatDoorS12
set_option linter.defProp false
open Go.Proofs.Tryz
open Go
namespace Go.Proofs.YtceinlbeeahkeaaGreatDoor
variable{p:Prop}
section
variable{l:List J}{n sp t:ByteArray}{j:J}{E E':Env}{k:Nat}{s:Sch}{rd:J->ByteArray->Env->Option (Sch × Env)}
def Y67(h:p:=by exact (show gp jj ByteArray.empty E=some n from BJ (by rw [<-hJ,gI]) KJ KJ (s1 hpn) s2 s3 s4)):p:=h
def Z175(h:p:=by
 unfold ofS
 rw [e2]
 simp only [hr']
 rw [eO,dS,dS];rfl):p:=h
def Z187(h:p:=by
 obtain ⟨v,x,_,hr,_⟩:=mg h
 exact ih v sp E x E' hr hE):p:=h
def Z209(h:p:=by
 cases h
 exact ⟨n,l,sy,rfl,rfl,hs,rfl,rfl⟩):p:=h
def Z219(h:p:=by
 rw [rdS] at h;cases h;all_goals simp):p:=h
def Z229(h:p:=by
 simp only [h3] at h;cases h):p:=h
def Z230(h:p:=by
 simp only [h4] at h;cases h):p:=h
def Z232(h:p:=by
 simp only [hj] at h;cases h):p:=h
def Z234(h:p:=by
 simp only [hz] at h;cases h):p:=h
def Z239(h:p:=by
 rw [hj] at h;cases h):p:=h
def Z240(h:p:=by
 rw [h0] at h;cases h):p:=h
mutual
def jOf:Sch->J
 |.ref _ n=>.str n
 |.mk k n ns size kids _=>
  if k=9 then .obj [gm,eW,kg] [.str n,.str kI,.arr (dW ns kids)]
  else if k=10 then .obj [gm,eW,iY] [.str n,.str oU,.arr (ns.map .str)]
  else if k=14 then .obj [gm,eW,oL] [.str n,.str mQ,.num size]
  else if k=11 then .obj [eW,jm] (.str lK::jI kids)
  else if k=12 then .obj [eW,ig] (.str wh::jI kids)
  else if k=13 then .arr (jI kids)
  else .str (kC.getD (k-1) ByteArray.empty)
def jI:List Sch->List J
 |[]=>[]
 |s::r=>jOf s::jI r
def dW:List ByteArray->List Sch->List J
 |_,[]=>[]
 |ns,s::r=>.obj [gm,eW] [.str (ns.headD ByteArray.empty),jOf s]::dW ns.tail r
end
mutual
def eO:Sch->Sch
 |.ref k n=>.ref k n
 |.mk k n ns size kids defs=>.mk k n ns size (dS kids) (defs.map λ_=>none)
def dS:List Sch->List Sch
 |[]=>[]
 |s::r=>eO s::dS r
end
mutual
def np:Sch->Prop
 |.ref _ n=>fB n=false
 |.mk k n _ _ kids _=>(k=9\/k=10\/k=14->fB n=false)/\ny kids
def ny:List Sch->Prop
 |[]=>True
 |s::r=>np s/\ny r
end
theorem nL:∀l:List Sch,jI l=l.map jOf
 |[]=>by rw [jI];rfl
 |s::r=>by rw [jI,nL r];rfl
theorem oF:∀l:List Sch,dS l=l.map eO
 |[]=>by rw [dS];rfl
 |s::r=>by rw [dS,oF r];rfl
theorem nO:∀ {l:List Sch},ny l->∀s∈l,np s
 |[],_,_,h=>by cases h
 |x::r,hp,s,h=>by
  rw [ny] at hp
  rcases List.mem_cons.1 h with rfl|h
  ·exact hp.1
  exact nO hp.2 s h
theorem rp(s:Sch):(eO s).kind=s.kind:=MG
theorem xR(s:Sch):(eO s).name=s.name:=MG
theorem BF(a b:Sch):kL (eO a) (eO b)=kL a b:=by unfold kL;rw [rp,rp,xR,xR]
def gj(E:Env):Prop:=∀p∈E,eP p.1=0/\(fB p.1=false->dJ p.1=true)/\(p.2=9\/p.2=10\/p.2=14)
theorem BI{l:List UInt8}{c:UInt8}(h:¬ 0<=Lib.indexByte l c):Lib.indexByte l c = -1:=by
 have:=Lib.indexByte_ge l c
 omega
theorem np_full(h:fB n=false):eY n=dJ n:=by
 unfold fB at h
 have h1:=BI (of_decide_eq_false h)
 have h2:Lib.indexB n gC = -1:=by
  show Lib.index n.data.toList gC.data.toList = -1
  show Lib.index n.data.toList [46] = -1
  rw [Lib.index_one];exact h1
 unfold eY
 rw [Lib.splitB_miss _ _ _ _ h2]
 simp
theorem IX(h:fB n=false):∀b∈n.data.toList,b≠46:=by
 unfold fB at h
 have h1:=BI (of_decide_eq_false h)
 intro b hb e
 obtain ⟨i,hi,rfl⟩:=List.mem_iff_getElem.1 hb
 exact Lib.indexByte_none h1 i (by rw [NP hi,e])
theorem Jl(h:fB n=false):gi n=ByteArray.empty:=by
 unfold gi
 rcases Lib.lastIndexByte_spec n 46 with ⟨e,_⟩|⟨i,hi,_,e,_⟩
 ·rw [e]
  show n.extract 0 0=_
  simp
 exfalso
 have hi':i<n.data.size:=hi
 rw [getElem!_pos n.data i hi'] at e
 have hm:n.data[i]∈n.data.toList:=Kh
 apply IX h _ hm
 apply UInt8.toNat_inj.1
 show _=46
 omega
theorem zN(h:(46:UInt8)∈n.data.toList):fB n=true:=by
 cases hp:fB n with
 |true=>rfl
 |false=>exact absurd rfl (IX hp _ h)
theorem yj(h:fB (fI n sp)=false):fI n sp=n:=by
 unfold fI at h ⊢
 split at h
 ·rename_i h1;rw [if_pos h1]
 exfalso
 rw [zN] at h
 ·cases h
 simp [ByteArray.data_append,gC]
theorem vF(n:ByteArray):fI n ByteArray.empty=n:=by
 unfold fI
 rw [if_pos (.inl rfl)]
theorem vk(t:ByteArray):∀(l:List ByteArray) (i:Nat),1<=i->dX t i l≠0->i<=dX t i l/\dX t i l<i+l.length/\l.getD (dX t i l-i) ByteArray.empty=t
 |[],i,_,h=>absurd rfl h
 |w::r,i,hi,h=>by
  rw [dX] at h ⊢
  by_cases e:w=t
  ·rw [if_pos e]
   simp [e]
  rw [if_neg e] at h ⊢
  obtain ⟨h1,h2,h3⟩:=vk t r (i+1) Kc h
  refine ⟨by omega,by simp;omega,?_⟩
  have:dX t (i+1) r-i=(dX t (i+1) r-(i+1))+1:=Kc
  rw [this]
  exact h3
theorem iB(h:eP t≠0):1<=eP t/\eP t<=8/\kC.getD (eP t-1) ByteArray.empty=t:=by
 obtain ⟨h1,h2,h3⟩:=vk t kC 1 Kc h
 exact ⟨h1,by have e:kC.length=8:=rfl;rw [e] at h2;unfold eP;omega,h3⟩
theorem yu(h:eP t≠0):jOf (lQ (eP t))=.str t:=by
 obtain ⟨h1,h2,h3⟩:=iB h
 unfold lQ
 rw [jOf,if_neg Kc,if_neg Kc,if_neg Kc,if_neg Kc,if_neg Kc,if_neg Kc,h3]
theorem Da(k:Nat):eO (lQ k)=lQ k:=by
 unfold lQ
 rw [eO,dS];rfl
theorem jx(h:gp j sp E=some n):(fB n=false->eY n=true)/\eP n=0/\E.kindOf? n=none/\E.length≠16:=by
 unfold gp at h
 cases h1:j.textIn gm with
 |none=>exact Z238
 |some n0=>
  simp only [h1] at h
  by_cases h2:eY n0=true
  ·rw [if_pos h2] at h
   cases h3:iG j sp with
   |none=>exact Z229
   |some sp'=>
    simp only [h3] at h
    cases h4:gK eY j with
    |none=>exact Z230
    |some a=>
     simp only [h4] at h
     by_cases h5:(E.kindOf? (fI n0 sp')).isSome=true
     ·rw [if_pos h5] at h;cases h
     rw [if_neg h5] at h
     by_cases h6:eP (fI n0 sp')≠0
     ·rw [if_pos h6] at h;cases h
     rw [if_neg h6] at h
     by_cases h7:E.length=16
     ·rw [if_pos h7] at h;cases h
     rw [if_neg h7] at h
     cases h
     refine ⟨λhp=>?_,by omega,by simpa using h5,h7⟩
     rw [yj hp];exact h2
  rw [if_neg h2] at h;cases h
theorem iD(h:gp j sp E=some n)(hk:k=9\/k=10\/k=14):eP n=0/\(fB n=false->dJ n=true)/\(k=9\/k=10\/k=14):=by
 obtain ⟨h1,h2,_⟩:=jx h
 exact ⟨h2,λhp=>by rw [<-np_full hp];exact h1 hp,hk⟩
theorem BJ(hn:j.named gm=some (.str n))(hs:j.named kM=none)(ha:j.named jY=none)(h1:eY n=true)(h2:eP n=0)(h3:E.kindOf? n=none)(h4:E.length≠16):gp j ByteArray.empty E=some n:=by
 unfold gp
 have e1:j.textIn gm=some n:=by unfold J.textIn;rw [hn];rfl
 have e2:iG j ByteArray.empty=some ByteArray.empty:=by unfold iG;rw [hs]
 have e3:gK eY j=some []:=by unfold gK;rw [ha]
 simp only [e1,e2,e3,vF,h1,h2,h3,if_neg h4]
 simp
theorem gI(k:ByteArray)(ns:List ByteArray)(v:J)(vs:List J):(J.obj (k::ns) (v::vs)).named k=some v:=by
 show ib k (k::ns) (v::vs)=_
 rw [ib,if_pos rfl]
theorem ep{k:ByteArray}(ns:List ByteArray)(v:J)(vs:List J)(h:n≠k):(J.obj (n::ns) (v::vs)).named k=(J.obj ns vs).named k:=by
 show ib k (n::ns) (v::vs)=_
 rw [ib,if_neg h]
 rfl
theorem nR(k:ByteArray):(J.obj [] []).named k=none:=rfl
theorem zy(rd rd':J->Env->Option (Sch × Env))(hrd:∀j E s E',rd j E=some (s,E')->gj E->np s->rd' (jOf s) E=some (eO s,E'))(hg:∀j E s E',rd j E=some (s,E')->gj E->gj E'):∀(l:List J) (acc:List Sch) (E:Env) (ss:List Sch) (E':Env),fD rd acc l E=some (ss,E')->gj E->(∀s∈ss,np s)->∃new,ss=acc++new/\new.length=l.length/\fD rd' (acc.map eO) (new.map jOf) E=some (ss.map eO,E')
 |[],acc,E,ss,E',h,_,_=>by
  rw [fD] at h
  cases h
  exact ⟨[],by simp,rfl,by rw [List.map_nil,fD]⟩
 |j::r,acc,E,ss,E',h,hE,hn=>by
  rw [fD] at h
  cases hj:rd j E with
  |none=>exact Z239
  |some p=>
   obtain ⟨s,E1⟩:=p
   simp only [hj] at h
   by_cases h1:s.kind=13
   ·rw [if_pos h1] at h;cases h
   rw [if_neg h1] at h
   by_cases h2:acc.any (λo=>kL o s)=true
   ·rw [if_pos h2] at h;cases h
   rw [if_neg h2] at h
   obtain ⟨new,e1,e2,e3⟩:=zy rd rd' hrd hg r (acc++[s]) E1 ss E' h (hg j E s E1 hj hE) hn
   have hs:np s:=hn s (by rw [e1];simp)
   refine ⟨s::new,by rw [e1];simp,by simp [e2],?_⟩
   have h2':(acc.map eO).any (λo=>kL o (eO s))=false:=by
    rw [List.any_map]
    have:((λo=>kL o (eO s)) ∘ eO)=λo=>kL o s:=by funext o;exact BF o s
    rw [this]
    simpa using h2
   rw [List.map_cons,fD,hrd j E s E1 hj hE hs]
   simp only [rp,if_neg h1,h2']
   rw [List.map_append] at e3
   simpa using e3
theorem wJ(rd rd':J->Env->Option (Sch × Env))(hrd:∀j E s E',rd j E=some (s,E')->gj E->np s->rd' (jOf s) E=some (eO s,E'))(hg:∀j E s E',rd j E=some (s,E')->gj E->gj E'):∀(l:List J) (ns:List ByteArray) (acc:List Sch) (ds:List (Option J)) (E:Env) (fs:List ByteArray) (ss:List Sch) (dd:List (Option J)) (E':Env),eG rd ns acc ds l E=some (fs,ss,dd,E')->gj E->(∀s∈ss,np s)->∃nn nk,fs=ns++nn/\ss=acc++nk/\nn.length=l.length/\nk.length=l.length/\(∀n∈nn,dJ n=true)/\eG rd' ns (acc.map eO) (ds.map λ_=>none) (dW nn nk) E=some (fs,ss.map eO,dd.map (λ_=>none),E')
 |[],ns,acc,ds,E,fs,ss,dd,E',h,_,_=>by
  rw [eG] at h
  cases h
  exact ⟨[],[],by simp,by simp,rfl,rfl,(λ_ h=>by cases h),by rw [dW,eG]⟩
 |j::r,ns,acc,ds,E,fs,ss,dd,E',h,hE,hn=>by
  rw [eG] at h
  cases h0:j.textIn gm with
  |none=>exact Z240
  |some n=>
   simp only [h0] at h
   cases h1:gK dJ j with
   |none=>exact Z231
   |some al=>
    simp only [h1] at h
    by_cases h2:dJ n=true
    ·rw [if_pos h2] at h
     cases h3:j.named eW with
     |none=>exact Z229
     |some t=>
      simp only [h3] at h
      cases hj:rd t E with
      |none=>exact Z232
      |some p=>
       obtain ⟨s,E1⟩:=p
       simp only [hj] at h
       by_cases h4:dU n ns=true
       ·rw [if_pos h4] at h;cases h
       rw [if_neg h4] at h
       obtain ⟨nn,nk,e1,e2,e3,e4,e5,e6⟩:=wJ rd rd' hrd hg r (ns++[n]) (acc++[s]) _ E1 fs ss dd E' h (hg t E s E1 hj hE) hn
       have hs:np s:=hn s (by rw [e2];simp)
       refine ⟨n::nn,s::nk,by rw [e1];simp,by rw [e2];simp,by simp [e3],by simp [e4],?_,?_⟩
       ·intro x hx
        rcases List.mem_cons.1 hx with rfl|hx
        ·exact h2
        exact e5 x hx
       rw [dW,eG]
       have q1:(J.obj [gm,eW] [.str ((n::nn).headD ByteArray.empty),jOf s]).textIn gm=some n:=MH
       have q2:gK dJ (J.obj [gm,eW] [.str ((n::nn).headD ByteArray.empty),jOf s])=some []:=by unfold gK;rw [ep _ _ _ Ke,ep _ _ _ Ke,nR]
       have q3:(J.obj [gm,eW] [.str ((n::nn).headD ByteArray.empty),jOf s]).named eW=some (jOf s):=by rw [ep _ _ _ Ke,gI]
       have q4:(J.obj [gm,eW] [.str ((n::nn).headD ByteArray.empty),jOf s]).named gD=none:=by rw [ep _ _ _ Ke,ep _ _ _ Ke,nR]
       simp only [q1,q2,q3,q4,h2,hrd t E s E1 hj hE hs,if_neg h4,if_true,List.tail_cons]
       rw [List.map_append,List.map_append] at e6
       simpa using e6
    rw [if_neg h2] at h;cases h
theorem pK(ok:ByteArray->Bool):∀(l:List J) (acc ns:List ByteArray),dQ ok acc l=some ns->∃nn,ns=acc++nn/\nn.length=l.length/\(∀n∈nn,ok n=true)/\dQ ok acc (nn.map .str)=some ns
 |[],acc,ns,h=>by
  rw [dQ] at h
  cases h
  exact ⟨[],by simp,rfl,(λ_ h=>by cases h),by rw [List.map_nil,dQ]⟩
 |j::r,acc,ns,h=>by
  cases j with
  |str t=>
   rw [dQ] at h
   by_cases h1:ok t=true/\dU t acc=false
   ·rw [if_pos h1] at h
    obtain ⟨nn,e1,e2,e3,e4⟩:=pK ok r (acc++[t]) ns h
    refine ⟨t::nn,by rw [e1];simp,by simp [e2],?_,by rw [List.map_cons,dQ,if_pos h1];exact e4⟩
    intro x hx
    rcases List.mem_cons.1 hx with rfl|hx
    ·exact h1.1
    exact e3 x hx
   rw [if_neg h1] at h;cases h
  |null=>cases h
  |bool b=>cases h
  |num n=>cases h
  |arr l=>cases h
  |obj a b=>cases h
theorem gj.app(h:gj E)(hn:eP n=0/\(fB n=false->dJ n=true)/\(k=9\/k=10\/k=14)):gj (E++[(n,k)]):=by
 intro p hp
 rcases List.mem_append.1 hp with hp|hp
 ·exact h p hp
 have:p=(n,k):=by simpa using hp
 rw [this];exact hn
theorem vH(rd:J->Env->Option (Sch × Env))(hg:∀j E s E',rd j E=some (s,E')->gj E->gj E'):∀(l:List J) (acc:List Sch) (E:Env) (ss:List Sch) (E':Env),fD rd acc l E=some (ss,E')->gj E->gj E'
 |[],acc,E,ss,E',h,hE=>by
  rw [fD] at h
  cases h
  exact hE
 |j::r,acc,E,ss,E',h,hE=>by
  rw [fD] at h
  cases hj:rd j E with
  |none=>exact Z239
  |some p=>
   obtain ⟨s,E1⟩:=p
   simp only [hj] at h
   split at h
   ·cases h
   split at h
   ·cases h
   exact vH rd hg r _ E1 ss E' h (hg j E s E1 hj hE)
theorem sD(rd:J->Env->Option (Sch × Env))(hg:∀j E s E',rd j E=some (s,E')->gj E->gj E'):∀(l:List J) (ns:List ByteArray) (acc:List Sch) (ds:List (Option J)) (E:Env) (fs:List ByteArray) (ss:List Sch) (dd:List (Option J)) (E':Env),eG rd ns acc ds l E=some (fs,ss,dd,E')->gj E->gj E'
 |[],ns,acc,ds,E,fs,ss,dd,E',h,hE=>by
  rw [eG] at h
  cases h
  exact hE
 |j::r,ns,acc,ds,E,fs,ss,dd,E',h,hE=>by
  rw [eG] at h
  cases h0:j.textIn gm with
  |none=>exact Z240
  |some n=>
   simp only [h0] at h
   cases h1:gK dJ j with
   |none=>exact Z231
   |some al=>
    simp only [h1] at h
    split at h
    ·cases h3:j.named eW with
     |none=>exact Z229
     |some t=>
      simp only [h3] at h
      cases hj:rd t E with
      |none=>exact Z232
      |some p=>
       obtain ⟨s,E1⟩:=p
       simp only [hj] at h
       split at h
       ·cases h
       exact sD rd hg r _ _ _ E1 fs ss dd E' h (hg t E s E1 hj hE)
    cases h
theorem jO(h:jJ t sp E=some (s,E')):E'=E/\((eP t≠0/\s=lQ (eP t))\/(eP t=0/\∃k,E.kindOf? (fI t sp)=some k/\s=.ref k (fI t sp))):=by
 unfold jJ at h
 by_cases h1:eP t≠0
 ·rw [if_pos h1] at h
  cases h
  exact ⟨rfl,.inl ⟨h1,rfl⟩⟩
 rw [if_neg h1] at h
 cases hk:E.kindOf? (fI t sp) with
 |none=>rw [hk] at h;cases h
 |some k=>
  rw [hk] at h
  cases h
  exact ⟨rfl,.inr ⟨by omega,k,rfl,rfl⟩⟩
theorem mg{key:ByteArray}(h:ofS rd k key j sp E=some (s,E')):∃v x,j.named key=some v/\rd v sp E=some (x,E')/\s=.mk k ByteArray.empty [] 0 [x] []:=by
 unfold ofS at h
 cases hn:j.named key with
 |none=>exact Z241
 |some v=>
  simp only [hn] at h
  cases hr:rd v sp E with
  |none=>exact Z233
  |some p=>
   obtain ⟨x,E1⟩:=p
   simp only [hr] at h
   cases h
   exact ⟨v,x,rfl,hr,rfl⟩
theorem jN(h:il rd j sp E=some (s,E')):∃n l fs ss ds,gp j sp E=some n/\j.listIn kg 0=some l/\eG (λj E=>rd j (gi n) E) [] [] [] l (E++[(n,9)])=some (fs,ss,ds,E')/\s=.mk 9 n fs 0 ss ds:=by
 unfold il at h
 cases hn:gp j sp E with
 |none=>exact Z241
 |some n=>
  simp only [hn] at h
  cases hl:j.listIn kg 0 with
  |none=>simp only [hl] at h;cases h
  |some l=>
   simp only [hl] at h
   cases hf:eG (λj E=>rd j (gi n) E) [] [] [] l (E++[(n,9)]) with
   |none=>simp only [hf] at h;cases h
   |some p=>
    obtain ⟨fs,ss,ds,E1⟩:=p
    simp only [hf] at h
    cases h
    exact ⟨n,l,fs,ss,ds,rfl,rfl,hf,rfl⟩
theorem kU(h:jW j sp E=some (s,E')):∃n l sy,gp j sp E=some n/\j.listIn iY 1=some l/\dQ dJ [] l=some sy/\s=.mk 10 n sy 0 [] []/\E'=E++[(n,10)]:=by
 unfold jW at h
 cases hn:gp j sp E with
 |none=>exact Z241
 |some n=>
  simp only [hn] at h
  cases hl:j.listIn iY 1 with
  |none=>simp only [hl] at h;cases h
  |some l=>
   simp only [hl,Option.bind_some] at h
   cases hs:dQ dJ [] l with
   |none=>simp only [hs] at h;cases h
   |some sy=>
    simp only [hs] at h
    cases hd:j.named gD with
    |none=>
     simp only [hd] at h
     exact Z209
    |some d=>
     simp only [hd] at h
     cases ht:d.text with
     |none=>simp only [ht] at h;cases h
     |some t=>
      simp only [ht] at h
      split at h
      ·exact Z209
      cases h
theorem kF(h:iU j sp E=some (s,E')):∃n z,gp j sp E=some n/\j.named oL=some (.num z)/\0<=z/\z<=64/\s=.mk 14 n [] z.toNat [] []/\E'=E++[(n,14)]:=by
 unfold iU at h
 cases hn:gp j sp E with
 |none=>exact Z241
 |some n=>
  simp only [hn] at h
  cases hz:j.named oL with
  |none=>exact Z234
  |some v=>
   cases v with
   |num z=>
    simp only [hz] at h
    split at h
    ·rename_i h1
     cases h
     exact ⟨n,z,rfl,rfl,h1.1,h1.2,rfl,rfl⟩
    cases h
   |null=>exact Z234
   |bool b=>exact Z234
   |str b=>exact Z234
   |arr b=>exact Z234
   |obj a b=>exact Z234
theorem jL(h:iM rd l sp E=some (s,E')):∃ss,1<=l.length/\l.length<=12/\fD (λj E=>rd j sp E) [] l E=some (ss,E')/\s=.mk 13 ByteArray.empty [] 0 ss []:=by
 unfold iM at h
 split at h
 ·rename_i h1
  cases hu:fD (λj E=>rd j sp E) [] l E with
  |none=>rw [hu] at h;cases h
  |some p=>
   obtain ⟨ss,E1⟩:=p
   simp only [hu] at h
   cases h
   exact ⟨ss,h1.1,h1.2,rfl,rfl⟩
 cases h
theorem lX(h:jl rd j sp E=some (s,E')):∃w,j.textIn eW=some w/\((eP w≠0/\s=lQ (eP w)/\E'=E)\/(w=lK/\ofS rd 11 jm j sp E=some (s,E'))\/(w=wh/\ofS rd 12 ig j sp E=some (s,E'))\/(w=kI/\il rd j sp E=some (s,E'))\/(w=oU/\jW j sp E=some (s,E'))\/(w=mQ/\iU j sp E=some (s,E'))):=by
 unfold jl at h
 cases ht:j.textIn eW with
 |none=>rw [ht] at h;cases h
 |some w=>
  simp only [ht] at h
  refine ⟨w,rfl,?_⟩
  by_cases h1:eP w≠0
  ·rw [if_pos h1] at h;cases h;exact .inl ⟨h1,rfl,rfl⟩
  rw [if_neg h1] at h
  by_cases h2:w=lK
  ·rw [if_pos h2] at h;exact .inr (.inl ⟨h2,h⟩)
  rw [if_neg h2] at h
  by_cases h3:w=wh
  ·rw [if_pos h3] at h;exact .inr (.inr (.inl ⟨h3,h⟩))
  rw [if_neg h3] at h
  by_cases h4:w=kI
  ·rw [if_pos h4] at h;exact .inr (.inr (.inr (.inl ⟨h4,h⟩)))
  rw [if_neg h4] at h
  by_cases h5:w=oU
  ·rw [if_pos h5] at h;exact .inr (.inr (.inr (.inr (.inl ⟨h5,h⟩))))
  rw [if_neg h5] at h
  by_cases h6:w=mQ
  ·rw [if_pos h6] at h;exact .inr (.inr (.inr (.inr (.inr ⟨h6,h⟩))))
  rw [if_neg h6] at h;cases h
theorem nP:∀(f:Nat) (j:J) (sp:ByteArray) (E:Env) (s:Sch) (E':Env),rdS f j sp E=some (s,E')->gj E->gj E':=by
 intro f
 induction f with
 |zero=>intro j sp E s E' h _;rw [rdS] at h;cases h
 |succ f ih=>
  intro j sp E s E' h hE
  cases j with
  |null=>exact Z219
  |bool b=>exact Z219
  |num n=>exact Z219
  |str t=>
   rw [lW] at h
   rw [(jO h).1];exact hE
  |arr l=>
   rw [nz] at h
   obtain ⟨ss,_,_,hu,_⟩:=jL h
   exact vH _ (λj E s E' h hE=>ih j sp E s E' h hE) l [] E ss E' hu hE
  |obj ns vs=>
   rw [jZ] at h
   obtain ⟨w,_,h⟩:=lX h
   rcases h with ⟨_,_,e⟩|⟨_,h⟩|⟨_,h⟩|⟨_,h⟩|⟨_,h⟩|⟨_,h⟩
   ·rw [e];exact hE
   ·exact Z187
   ·exact Z187
   ·obtain ⟨n,l,fs,ss,ds,hn,_,hf,_⟩:=jN h
    exact sD _ (λj E s E' h hE=>ih j (gi n) E s E' h hE) l [] [] [] _ fs ss ds E' hf (hE.app (iD hn Ke))
   ·obtain ⟨n,l,sy,hn,_,_,_,e⟩:=kU h
    rw [e];exact hE.app (iD hn Ke)
   obtain ⟨n,z,hn,_,_,_,_,e⟩:=kF h
   rw [e];exact hE.app (iD hn Ke)
theorem lg : ∀ {E:Env},E.kindOf? n=some k->(n,k)∈E
 |(m,k')::r,h=>by
  rw [Env.kindOf?] at h
  split at h
  ·rename_i e
   cases h
   rw [e];exact List.mem_cons_self
  exact List.mem_cons_of_mem _ (lg h)
theorem FC{l':List J}(h:J.list k (.arr l)=some l'):l'=l/\k<=l.length/\l.length<=12:=by
 unfold J.list at h
 simp only at h
 split at h
 ·rename_i h1;cases h;exact ⟨rfl,h1.1,h1.2⟩
 cases h
theorem jy{key:ByteArray}(h:j.listIn key k=some l):j.named key=some (.arr l)/\k<=l.length/\l.length<=12:=by
 unfold J.listIn at h
 cases hn:j.named key with
 |none=>exact Z241
 |some v=>
  rw [hn] at h
  change J.list k v=some l at h
  cases v with
  |arr l'=>obtain ⟨rfl,h1,h2⟩:=FC h;exact ⟨rfl,h1,h2⟩
  |null=>cases h
  |bool b=>cases h
  |num b=>cases h
  |str b=>cases h
  |obj a b=>cases h
theorem bR(h1:k<=l.length)(h2:l.length<=12):J.list k (.arr l)=some l:=by
 unfold J.list
 simp only
 rw [if_pos ⟨h1,h2⟩]
theorem vY:∀(ss:List Sch) (ns:List ByteArray),(dW ns ss).length=ss.length
 |[],_=>by rw [dW];rfl
 |s::r,ns=>by rw [dW,List.length_cons,vY r];rfl
theorem reread:∀(f:Nat) (j:J) (sp:ByteArray) (E:Env) (s:Sch) (E':Env),rdS f j sp E=some (s,E')->gj E->np s->rdS f (jOf s) ByteArray.empty E=some (eO s,E'):=by
 intro f
 induction f with
 |zero=>intro j sp E s E' h _;rw [rdS] at h;cases h
 |succ f ih=>
  intro j sp E s E' h hE hp
  have hof:∀(k:Nat) (key:ByteArray) (j:J),ofS (rdS f) k key j sp E=some (s,E')->(k=11/\key=jm)\/(k=12/\key=ig)->rdS (f+1) (jOf s) ByteArray.empty E=some (eO s,E'):=by
   intro k key j h hk
   obtain ⟨v,x,_,hr,rfl⟩:=mg h
   have hx:np x:=by rw [np,ny] at hp;exact hp.2.1
   have hr':=ih v sp E x E' hr hE hx
   rcases hk with ⟨rfl,rfl⟩|⟨rfl,rfl⟩
   ·rw [jOf,if_neg Ke,if_neg Ke,if_neg Ke,if_pos rfl,jI,jI,jZ]
    unfold jl
    have e1:(J.obj [eW,jm] [.str lK,jOf x]).textIn eW=some lK:=MH
    have e2:(J.obj [eW,jm] [.str lK,jOf x]).named jm=some (jOf x):=by rw [ep _ _ _ Ke,gI]
    rw [e1]
    show (if eP lK≠0 then _ else _)=_
    rw [if_neg Ke,if_pos rfl]
    exact Z175
   rw [jOf,if_neg Ke,if_neg Ke,if_neg Ke,if_neg Ke,if_pos rfl,jI,jI,jZ]
   unfold jl
   have e1:(J.obj [eW,ig] [.str wh,jOf x]).textIn eW=some wh:=MH
   have e2:(J.obj [eW,ig] [.str wh,jOf x]).named ig=some (jOf x):=by rw [ep _ _ _ Ke,gI]
   rw [e1]
   show (if eP wh≠0 then _ else _)=_
   rw [if_neg Ke,if_neg Ke,if_pos rfl]
   exact Z175
  have hprim:∀t,eP t≠0->s=lQ (eP t)->E'=E->rdS (f+1) (jOf s) ByteArray.empty E=some (eO s,E'):=by
   rintro t ht rfl rfl
   rw [yu ht,Da,lW]
   unfold jJ
   rw [if_pos ht]
  cases j with
  |null=>exact Z219
  |bool b=>exact Z219
  |num n=>exact Z219
  |str t=>
   rw [lW] at h
   obtain ⟨rfl,⟨h1,h2⟩|⟨h1,k,hk,rfl⟩⟩:=jO h
   ·exact hprim t h1 h2 rfl
   rw [jOf,eO,lW]
   unfold jJ
   have:=(hE _ (lg hk)).1
   rw [if_neg (by simpa using this),vF,hk]
  |arr l=>
   rw [nz] at h
   obtain ⟨ss,h1,h2,hu,rfl⟩:=jL h
   rw [np] at hp
   obtain ⟨new,e1,e2,e3⟩:=zy _ (λj E=>rdS f j ByteArray.empty E) (λj E s E' h hE hn=>ih j sp E s E' h hE hn) (λj E s E' h hE=>nP f j sp E s E' h hE) l [] E ss E' hu hE (nO hp.2)
   rw [List.nil_append] at e1
   subst e1
   rw [jOf,if_neg Ke,if_neg Ke,if_neg Ke,if_neg Ke,if_neg Ke,if_pos rfl,nL,nz]
   unfold iM
   rw [if_pos (by rw [List.length_map,e2];exact ⟨h1,h2⟩)]
   simp only [List.map_nil] at e3
   simp only [e3]
   rw [eO,oF]
   rfl
  |obj ns vs=>
   rw [jZ] at h
   obtain ⟨w,_,h⟩:=lX h
   rcases h with ⟨h1,h2,h3⟩|⟨_,h⟩|⟨_,h⟩|⟨_,h⟩|⟨_,h⟩|⟨_,h⟩
   ·exact hprim w h1 h2 h3
   ·exact hof 11 jm _ h (.inl ⟨rfl,rfl⟩)
   ·exact hof 12 ig _ h (.inr ⟨rfl,rfl⟩)
   ·obtain ⟨n,l,fs,ss,ds,hn,hl,hf,rfl⟩:=jN h
    rw [np] at hp
    have hpn:=hp.1 Ke
    obtain ⟨s1,s2,s3,s4⟩:=jx hn
    obtain ⟨_,_,hl12⟩:=jy hl
    obtain ⟨nn,nk,e1,e2,e3,e4,_,e6⟩:=wJ _ (λj E=>rdS f j ByteArray.empty E) (λj E s E' h hE hn'=>ih j (gi n) E s E' h hE hn') (λj E s E' h hE=>nP f j (gi n) E s E' h hE) l [] [] [] _ fs ss ds E' hf (hE.app (iD hn Ke)) (nO hp.2)
    rw [List.nil_append] at e1 e2
    subst e1 e2
    rw [jOf,if_pos rfl,jZ]
    generalize hJ:J.obj [gm,eW,kg] [.str n,.str kI,.arr (dW fs ss)]=jj
    have q1:jj.textIn eW=some kI:=by rw [<-hJ];unfold J.textIn;rw [ep _ _ _ Ke,gI];rfl
    have q2:=Y67
    have q3:jj.listIn kg 0=some (dW fs ss):=by
     unfold J.listIn
     rw [<-hJ,ep _ _ _ Ke,ep _ _ _ Ke,gI]
     exact bR (NQ _) (by rw [vY,e4];exact hl12)
    unfold jl
    rw [q1]
    show (if eP kI≠0 then _ else _)=_
    rw [if_neg Ke,if_neg Ke,if_neg Ke,if_pos rfl]
    unfold il
    rw [q2]
    simp only [q3,Jl hpn]
    simp only [List.map_nil] at e6
    rw [e6,eO,oF]
   ·obtain ⟨n,l,sy,hn,hl,hsy,rfl,rfl⟩:=kU h
    rw [np] at hp
    have hpn:=hp.1 Ke
    obtain ⟨s1,s2,s3,s4⟩:=jx hn
    obtain ⟨_,hl1,hl12⟩:=jy hl
    obtain ⟨nn,e1,e2,_,e4⟩:=pK dJ l [] sy hsy
    rw [List.nil_append] at e1
    subst e1
    rw [jOf,if_neg Ke,if_pos rfl,jZ]
    generalize hJ:J.obj [gm,eW,iY] [.str n,.str oU,.arr (sy.map .str)]=jj
    have q1:jj.textIn eW=some oU:=by rw [<-hJ];unfold J.textIn;rw [ep _ _ _ Ke,gI];rfl
    have q2:=Y67
    have q3:jj.listIn iY 1=some (sy.map .str):=by
     unfold J.listIn
     rw [<-hJ,ep _ _ _ Ke,ep _ _ _ Ke,gI]
     exact bR (by rw [List.length_map,e2];exact hl1) (by rw [List.length_map,e2];exact hl12)
    have q4:jj.named gD=none:=by rw [<-hJ,ep _ _ _ Ke,ep _ _ _ Ke,ep _ _ _ Ke,nR]
    unfold jl
    rw [q1]
    show (if eP oU≠0 then _ else _)=_
    rw [if_neg Ke,if_neg Ke,if_neg Ke,if_neg Ke,if_pos rfl]
    unfold jW
    rw [q2]
    simp only [q3,Option.bind_some,e4,q4]
    rw [eO,dS];rfl
   obtain ⟨n,z,hn,_,hz0,hz1,rfl,rfl⟩:=kF h
   rw [np] at hp
   have hpn:=hp.1 Ke
   obtain ⟨s1,s2,s3,s4⟩:=jx hn
   rw [jOf,if_neg Ke,if_neg Ke,if_pos rfl,jZ]
   generalize hJ:J.obj [gm,eW,oL] [.str n,.str mQ,.num (z.toNat:Int)]=jj
   have q1:jj.textIn eW=some mQ:=by rw [<-hJ];unfold J.textIn;rw [ep _ _ _ Ke,gI];rfl
   have q2:=Y67
   have q3:jj.named oL=some (.num (z.toNat:Int)):=by rw [<-hJ,ep _ _ _ Ke,ep _ _ _ Ke,gI]
   unfold jl
   rw [q1]
   show (if eP mQ≠0 then _ else _)=_
   rw [if_neg Ke,if_neg Ke,if_neg Ke,if_neg Ke,if_neg Ke,if_pos rfl]
   unfold iU
   rw [q2]
   simp only [q3]
   rw [if_pos ⟨by omega,by omega⟩,eO,dS];rfl
end
section
mutual
def shp:Sch->Prop
 |.ref k _=>k=9\/k=10\/k=14
 |.mk k n ns size kids defs=>gH kids/\((1<=k/\k<=8/\n=ByteArray.empty/\ns=[]/\size=0/\kids=[]/\defs=[]) \/
   (k=9/\kids.length=ns.length/\defs.length=ns.length/\ns.length<=12/\size=0/\(∀n∈ns,dJ n=true)/\(fB n=false->dJ n=true)) \/
   (k=10/\kids=[]/\defs=[]/\1<=ns.length/\ns.length<=12/\size=0/\(∀n∈ns,dJ n=true)/\(fB n=false->dJ n=true)) \/
   (k=14/\kids=[]/\defs=[]/\ns=[]/\size<=64/\(fB n=false->dJ n=true)) \/
   ((k=11\/k=12)/\kids.length=1/\defs=[]/\ns=[]/\size=0/\n=ByteArray.empty) \/
   (k=13/\1<=kids.length/\kids.length<=12/\defs=[]/\ns=[]/\size=0/\n=ByteArray.empty))
def gH:List Sch->Prop
 |[]=>True
 |s::r=>shp s/\gH r
end
theorem ol:∀ {l:List Sch},gH l↔∀s∈l,shp s
 |[]=>by rw [gH];simp
 |x::r=>by rw [gH,ol (l:=r)];simp
theorem AY{k:Nat}(h1:1<=k)(h2:k<=8):shp (lQ k):=by
 unfold lQ
 rw [shp]
 exact ⟨by rw [gH];trivial,.inl ⟨h1,h2,rfl,rfl,rfl,rfl,rfl⟩⟩
theorem yI(P:Sch->Prop)(rd:J->Env->Option (Sch × Env))(hg:∀j E s E',rd j E=some (s,E')->gj E->gj E')(hP:∀j E s E',rd j E=some (s,E')->gj E->P s):∀(l:List J) (acc:List Sch) (E:Env) (ss:List Sch) (E':Env),fD rd acc l E=some (ss,E')->gj E->(∀s∈acc,P s)->(∀s∈ss,P s)/\ss.length=acc.length+l.length
 |[],acc,E,ss,E',h,_,ha=>by
  rw [fD] at h
  cases h
  exact ⟨ha,rfl⟩
 |j::r,acc,E,ss,E',h,hE,ha=>by
  rw [fD] at h
  cases hj:rd j E with
  |none=>exact Z239
  |some p=>
   obtain ⟨s,E1⟩:=p
   simp only [hj] at h
   split at h
   ·cases h
   split at h
   ·cases h
   obtain ⟨h1,h2⟩:=yI P rd hg hP r _ E1 ss E' h (hg j E s E1 hj hE) (λx hx=>by
    rcases List.mem_append.1 hx with hx|hx
    ·exact ha x hx
    rw [List.mem_singleton.1 hx];exact hP j E s E1 hj hE)
   refine ⟨h1,?_⟩
   rw [h2];simp;omega
theorem uY(P:Sch->Prop)(rd:J->Env->Option (Sch × Env))(hg:∀j E s E',rd j E=some (s,E')->gj E->gj E')(hP:∀j E s E',rd j E=some (s,E')->gj E->P s):∀(l:List J) (ns:List ByteArray) (acc:List Sch) (ds:List (Option J)) (E:Env) (fs:List ByteArray) (ss:List Sch) (dd:List (Option J)) (E':Env),eG rd ns acc ds l E=some (fs,ss,dd,E')->gj E->(∀s∈acc,P s)->(∀n∈ns,dJ n=true)->(∀s∈ss,P s)/\(∀n∈fs,dJ n=true)/\fs.length=ns.length+l.length/\ss.length=acc.length+l.length/\dd.length=ds.length+l.length
 |[],ns,acc,ds,E,fs,ss,dd,E',h,_,ha,hb=>by
  rw [eG] at h
  cases h
  exact ⟨ha,hb,rfl,rfl,rfl⟩
 |j::r,ns,acc,ds,E,fs,ss,dd,E',h,hE,ha,hb=>by
  rw [eG] at h
  cases h0:j.textIn gm with
  |none=>exact Z240
  |some n=>
   simp only [h0] at h
   cases h1:gK dJ j with
   |none=>exact Z231
   |some al=>
    simp only [h1] at h
    by_cases h2:dJ n=true
    ·rw [if_pos h2] at h
     cases h3:j.named eW with
     |none=>exact Z229
     |some t=>
      simp only [h3] at h
      cases hj:rd t E with
      |none=>exact Z232
      |some p=>
       obtain ⟨s,E1⟩:=p
       simp only [hj] at h
       split at h
       ·cases h
       obtain ⟨q1,q2,q3,q4,q5⟩:=uY P rd hg hP r _ _ _ E1 fs ss dd E' h (hg t E s E1 hj hE) (λx hx=>by
        rcases List.mem_append.1 hx with hx|hx
        ·exact ha x hx
        ·rw [List.mem_singleton.1 hx];exact hP t E s E1 hj hE) (λx hx=>by
        rcases List.mem_append.1 hx with hx|hx
        ·exact hb x hx
        rw [List.mem_singleton.1 hx];exact h2)
       refine ⟨q1,q2,?_,?_,?_⟩
       ·rw [q3];simp;omega
       ·rw [q4];simp;omega
       rw [q5];simp;omega
    rw [if_neg h2] at h;cases h
theorem rdS_shp:∀(f:Nat) (j:J) (sp:ByteArray) (E:Env) (s:Sch) (E':Env),rdS f j sp E=some (s,E')->gj E->shp s:=by
 intro f
 induction f with
 |zero=>intro j sp E s E' h _;rw [rdS] at h;cases h
 |succ f ih=>
  intro j sp E s E' h hE
  have hof:∀(k:Nat) (key:ByteArray) (j:J),ofS (rdS f) k key j sp E=some (s,E')->(k=11\/k=12)->shp s:=by
   intro k key j h hk
   obtain ⟨v,x,_,hr,rfl⟩:=mg h
   rw [shp]
   exact ⟨by rw [gH,gH];exact ⟨ih v sp E x E' hr hE,trivial⟩,.inr (.inr (.inr (.inr (.inl ⟨hk,rfl,rfl,rfl,rfl,rfl⟩))))⟩
  cases j with
  |null=>exact Z219
  |bool b=>exact Z219
  |num n=>exact Z219
  |str t=>
   rw [lW] at h
   obtain ⟨rfl,⟨h1,rfl⟩|⟨h1,k,hk,rfl⟩⟩:=jO h
   ·exact AY (iB h1).1 (iB h1).2.1
   rw [shp];exact (hE _ (lg hk)).2.2
  |arr l=>
   rw [nz] at h
   obtain ⟨ss,h1,h2,hu,rfl⟩:=jL h
   obtain ⟨q1,q2⟩:=yI shp _ (λj E s E' h hE=>nP f j sp E s E' h hE) (λj E s E' h hE=>ih j sp E s E' h hE) l [] E ss E' hu hE (λ_ h=>by cases h)
   rw [List.length_nil,NV] at q2
   rw [shp]
   exact ⟨ol.2 q1,.inr (.inr (.inr (.inr (.inr ⟨rfl,by omega,by omega,rfl,rfl,rfl,rfl⟩))))⟩
  |obj ns vs=>
   rw [jZ] at h
   obtain ⟨w,_,h⟩:=lX h
   rcases h with ⟨h1,rfl,_⟩|⟨_,h⟩|⟨_,h⟩|⟨_,h⟩|⟨_,h⟩|⟨_,h⟩
   ·exact AY (iB h1).1 (iB h1).2.1
   ·exact hof 11 jm _ h (.inl rfl)
   ·exact hof 12 ig _ h (.inr rfl)
   ·obtain ⟨n,l,fs,ss,ds,hn,hl,hf,rfl⟩:=jN h
    obtain ⟨_,_,hl12⟩:=jy hl
    obtain ⟨q1,q2,q3,q4,q5⟩:=uY shp _ (λj E s E' h hE=>nP f j (gi n) E s E' h hE) (λj E s E' h hE=>ih j (gi n) E s E' h hE) l [] [] [] _ fs ss ds E' hf (hE.app (iD hn Ke)) (λ_ h=>by cases h) (λ_ h=>by cases h)
    rw [List.length_nil,NV] at q3 q4 q5
    rw [shp]
    exact ⟨ol.2 q1,.inr (.inl ⟨rfl,by omega,by omega,by omega,rfl,q2,(iD hn (k:=9) Ke).2.1⟩)⟩
   ·obtain ⟨n,l,sy,hn,hl,hsy,rfl,_⟩:=kU h
    obtain ⟨_,hl1,hl12⟩:=jy hl
    obtain ⟨nn,e1,e2,e3,_⟩:=pK dJ l [] sy hsy
    rw [List.nil_append] at e1
    subst e1
    rw [shp]
    exact ⟨by rw [gH];trivial,.inr (.inr (.inl ⟨rfl,rfl,rfl,by omega,by omega,rfl,e3,(iD hn (k:=9) Ke).2.1⟩))⟩
   obtain ⟨n,z,hn,_,hz0,hz1,rfl,_⟩:=kF h
   rw [shp]
   exact ⟨by rw [gH];trivial,.inr (.inr (.inr (.inl ⟨rfl,rfl,rfl,rfl,by omega,(iD hn (k:=9) Ke).2.1⟩)))⟩
end
end Go.Proofs.YtceinlbeeahkeaaGreatDoor
