import Derived.Test.YtceinlbeeahkeaaGreatDoorS45
set_option linter.defProp false
open Go.Proofs.Tryz
set_option maxRecDepth 8000
set_option maxHeartbeats 4000000
namespace Go.Proofs.YtceinlbeeahkeaaGreatDoor
variable{p:Prop}
section
open Go Go.RowKit
variable{t:ByteArray}
def Z65(h:p:=by
 cases hv:lT t i with
 |none=>simp only [hv] at h;cases h
 |some p=>
  obtain ⟨z,j1⟩:=p
  obtain ⟨r1,r2,r3⟩:=iX hv
  have hl:=fO (zig z) (jT _ r1.1 r1.2)
  simp only [hv] at h
  split at h
  ·cases h
   simp [Dat.enc]
   omega
  cases h):p:=h
def Z131(h:p:=by
 have hl:=fO (zig u.size) (jT _ Kc Kc)
 exact Z268):p:=h
def Z144(h:p:=by
 exact ⟨d::new,by rw [e1];simp,by rw [aB,List.length_append];omega,e3,by omega,e5⟩):p:=h
def Z172(h:p:=by
 cases h
 exact ⟨[],by simp,by simp [aB],hl,NL _,hi⟩):p:=h
def Z203(h:p:=by
 simp only [hp] at h
 cases h
 simp [Dat.enc,kr]):p:=h
def Z205(h:p:=by
 split
 ·simp only [List.length_nil];omega
 omega):p:=h
def Z268(h:p:=by
 simp only [hv] at h
 cases h
 simp [Dat.enc]
 omega):p:=h
theorem Jn{i:Nat}{u:ByteArray}{j:Nat}(h:lrd t i=.ok u j):i+1+u.size<=j/\u.size<=t.size:=by
 have h0:=Du h
 unfold lrd at h
 cases hv:vrd t 10 0 i 0 with
 |ok z j'=>
  rw [hv] at h
  have hl:=DJ t 10 0 i 0 z j' hv rfl Ke Ke
  simp only at h
  split at h
  ·cases h
  split at h
  ·cases h
  cases h
  refine ⟨?_,h0.1⟩
  exact Z227
 |short=>exact Z242
 |range=>exact Z242
theorem IQ{i:Nat}{u:ByteArray}{j:Nat}(h:urd t i=.ok u j):i+1+u.size<=j/\u.size<=t.size:=by
 unfold urd at h
 cases hv:lrd t i with
 |ok z j'=>
  rw [hv] at h
  simp only at h
  split at h
  ·cases h;exact Jn hv
  cases h
 |short=>exact Z242
 |range=>exact Z242
def uI(t:ByteArray)(g':Nat->Nat->Nat->DR):Prop:=∀id i l d j l',g' id i l=some (d,j,l')->l<=1000->i<=t.size->l'<=1000/\i<=j/\j<=t.size/\d.enc.length<=11*(j-i)
theorem xM:∀a b:List Dat,aB (a++b)=aB a++aB b
 |[],b=>by simp [aB]
 |d::a,b=>by simp [aB,xM a b]
theorem sO:∀(n1:List ByteArray) (k1:List Dat) (n2:List ByteArray) (k2:List Dat),n1.length=k1.length->aG (n1++n2) (k1++k2)=aG n1 k1++aG n2 k2
 |[],[],_,_,_=>by simp [aG]
 |[],_::_,_,_,h=>by simp at h
 |_::_,[],_,_,h=>by simp at h
 |s::n1,d::k1,n2,k2,h=>by simp [aG,sO n1 k1 n2 k2 Ky]
theorem vZ{g':Nat->Nat->Nat->DR}(hb:uI t g')(id:Nat):∀(c:Nat) (acc:List Dat) (i l:Nat) (a:List Dat) (j l':Nat),rep (lC g' id) c acc i l=some (a,j,l')->l<=1000->i<=t.size->∃new,a=acc++new/\(aB new).length<=11*(j-i)/\l'<=1000/\i<=j/\j<=t.size
 |0,acc,i,l,a,j,l',h,hl,hi=>by
  rw [rep] at h
  exact Z172
 |c+1,acc,i,l,a,j,l',h,hl,hi=>by
  rw [rep] at h
  unfold lC at h
  cases h1:g' id i l with
  |none=>exact Z231
  |some p=>
   obtain ⟨d,j1,l1⟩:=p
   simp only [h1] at h
   obtain ⟨q2,q3,q4,q5⟩:=hb id i l d j1 l1 h1 hl hi
   obtain ⟨new,e1,e2,e3,e4,e5⟩:=vZ hb id c (acc++[d]) j1 l1 a j l' h q2 q4
   exact Z144
theorem ph{g':Nat->Nat->Nat->DR}(hb:uI t g')(id:Nat):∀(f:Nat) (acc:List Dat) (i l:Nat) (a:List Dat) (j l':Nat),eB t (lC g' id) f acc i l=some (a,j,l')->l<=1000->i<=t.size->∃new,a=acc++new/\(aB new).length+11<=11*(j-i)/\l'<=1000/\i<j/\j<=t.size
 |0,acc,i,l,a,j,l',h,_,_=>by rw [eB] at h;cases h
 |f+1,acc,i,l,a,j,l',h,hl,hi=>by
  rw [eB] at h
  cases hh:kG t i with
  |none=>rw [hh] at h;cases h
  |some p=>
   obtain ⟨c,sz,j1⟩:=p
   obtain ⟨p1,p2,p3⟩:=uq hh
   simp only [hh] at h
   by_cases hc:c=0
   ·rw [if_pos hc] at h
    cases h
    exact ⟨[],by simp,by simp [aB];omega,hl,by omega,p3⟩
   rw [if_neg hc] at h
   by_cases hm:c<=1000-(l:Int)
   ·rw [if_pos hm] at h
    cases hr:rep (lC g' id) c.toNat acc j1 (l+c.toNat) with
    |none=>exact Z233
    |some p=>
     obtain ⟨a1,j2,l2⟩:=p
     simp only [hr] at h
     obtain ⟨n1,e1,e2,e3,e4,e5⟩:=vZ hb id c.toNat acc j1 (l+c.toNat) a1 j2 l2 hr Kc p3
     split at h
     ·obtain ⟨n2,g1,g2,g3,g4,g5⟩:=ph hb id f a1 j2 l2 a j l' h e3 e5
      exact ⟨n1++n2,by rw [g1,e1,List.append_assoc],by rw [xM,List.length_append];omega,g3,by omega,g5⟩
     cases h
   rw [if_neg hm] at h;cases h
theorem vS{g':Nat->Nat->Nat->DR}(hb:uI t g')(hz:t.size<=70368744177000)(id:Nat):∀(c:Nat) (an:List ByteArray) (ak:List Dat) (i l:Nat) (a:List ByteArray × List Dat) (j l':Nat),rep (jS t g' id) c (an,ak) i l=some (a,j,l')->l<=1000->i<=t.size->∃nn new,a=(an++nn,ak++new)/\nn.length=new.length/\(aG nn new).length<=11*(j-i)/\l'<=1000/\i<=j/\j<=t.size
 |0,an,ak,i,l,a,j,l',h,hl,hi=>by
  rw [rep] at h
  cases h
  exact ⟨[],[],by simp,rfl,by simp [aG],hl,NL _,hi⟩
 |c+1,an,ak,i,l,a,j,l',h,hl,hi=>by
  rw [rep] at h
  unfold jS at h
  cases hu:tr? (urd t i) with
  |none=>simp only [hu] at h;cases h
  |some p=>
   obtain ⟨s,j0⟩:=p
   obtain ⟨u1,u2,u3,u4⟩:=DC (xh hu)
   have u5:=IQ (xh hu)
   simp only [hu] at h
   by_cases hin:lG s an=true
   ·rw [if_pos hin] at h;cases h
   rw [if_neg hin] at h
   cases h1:g' id j0 l with
   |none=>exact Z231
   |some p=>
    obtain ⟨d,j1,l1⟩:=p
    simp only [h1] at h
    obtain ⟨q2,q3,q4,q5⟩:=hb id j0 l d j1 l1 h1 hl u4
    obtain ⟨nn,new,e1,e2,e3,e4,e5,e6⟩:=vS hb hz id c (an++[s]) (ak++[d]) j1 l1 a j l' h q2 q4
    have hv:=fO (zig s.size) (jT _ Kc Kc)
    have hs:s.data.toList.length=s.size:=Kh
    exact ⟨s::nn,d::new,by rw [e1];simp,by simp [e2],by rw [aG];simp only [List.length_append];omega,e4,by omega,e6⟩
theorem oN{g':Nat->Nat->Nat->DR}(hb:uI t g')(hz:t.size<=70368744177000)(id:Nat):∀(f:Nat) (acc:List ByteArray × List Dat) (i l:Nat) (a:List ByteArray × List Dat) (j l':Nat),eB t (jS t g' id) f acc i l=some (a,j,l')->l<=1000->i<=t.size->∃nn new,a=(acc.1++nn,acc.2++new)/\nn.length=new.length/\(aG nn new).length+11<=11*(j-i)/\l'<=1000/\i<j/\j<=t.size
 |0,acc,i,l,a,j,l',h,_,_=>by rw [eB] at h;cases h
 |f+1,acc,i,l,a,j,l',h,hl,hi=>by
  rw [eB] at h
  cases hh:kG t i with
  |none=>rw [hh] at h;cases h
  |some p=>
   obtain ⟨c,sz,j1⟩:=p
   obtain ⟨p1,p2,p3⟩:=uq hh
   simp only [hh] at h
   by_cases hc:c=0
   ·rw [if_pos hc] at h
    cases h
    exact ⟨[],[],by simp,rfl,by simp [aG];omega,hl,by omega,p3⟩
   rw [if_neg hc] at h
   by_cases hm:c<=1000-(l:Int)
   ·rw [if_pos hm] at h
    cases hr:rep (jS t g' id) c.toNat acc j1 (l+c.toNat) with
    |none=>exact Z233
    |some p=>
     obtain ⟨a1,j2,l2⟩:=p
     simp only [hr] at h
     obtain ⟨m1,n1,e1,e2,e3,e4,e5,e6⟩:=vS hb hz id c.toNat acc.1 acc.2 j1 (l+c.toNat) a1 j2 l2 hr Kc p3
     split at h
     ·obtain ⟨m2,n2,g1,g2,g3,g4,g5,g6⟩:=oN hb hz id f a1 j2 l2 a j l' h e4 e6
      exact ⟨m1++m2,n1++n2,by rw [g1,e1];simp,by simp [e2,g2],by rw [sO _ _ _ _ e2,List.length_append];omega,g4,by omega,g6⟩
     cases h
   rw [if_neg hm] at h;cases h
theorem CK{g':Nat->Nat->Nat->DR}(hb:uI t g'):∀(ids:List Nat) (acc:List Dat) (i l:Nat) (a:List Dat) (j l':Nat),ov g' ids acc i l=some (a,j,l')->l<=1000->i<=t.size->∃new,a=acc++new/\(aB new).length<=11*(j-i)/\l'<=1000/\i<=j/\j<=t.size
 |[],acc,i,l,a,j,l',h,hl,hi=>by
  rw [ov] at h
  exact Z172
 |id::ids,acc,i,l,a,j,l',h,hl,hi=>by
  rw [ov] at h
  cases h1:g' id i l with
  |none=>exact Z231
  |some p=>
   obtain ⟨d,j1,l1⟩:=p
   simp only [h1] at h
   obtain ⟨q2,q3,q4,q5⟩:=hb id i l d j1 l1 h1 hl hi
   obtain ⟨new,e1,e2,e3,e4,e5⟩:=CK hb ids (acc++[d]) j1 l1 a j l' h q2 q4
   exact Z144
theorem dec_len(t:ByteArray)(tab:List TNode)(hk:∀n∈tab,1<=n.kind/\n.kind<=14)(hz:t.size<=70368744177000):∀f,uI t (jt t tab f):=by
 intro f
 induction f with
 |zero=>intro id i l d j l' h;rw [jt] at h;cases h
 |succ f ih=>
  intro id i l d j l' h hl hi
  obtain ⟨-,h1,h2,h3,-⟩:=pH t tab hk hz (f+1) id i l d j l' h hl hi
  refine ⟨h1,h2,h3,?_⟩
  rw [jt] at h
  cases hn:tab[id]? with
  |none=>exact Z241
  |some n=>
   simp only [hn] at h
   obtain ⟨hk1,hk2⟩:=hk n (List.mem_of_getElem? hn)
   unfold iZ at h
   have h0:(eQ (zig 0)).length<=1:=by rw [show zig 0=0 from by decide,kV 0 Ke];exact NL _
   rcases rM hk1 hk2 with e|e|e|e|e|e|e|e|e|e|e|e|e|e
   all_goals (rw [e] at h;simp at h)
   ·obtain ⟨rfl,rfl,rfl⟩:=h
    simp [Dat.enc]
   ·cases hp:pre t i 1 with
    |none=>exact Z237
    |some v=>
     simp only [hp] at h
     split at h
     ·cases h
      simp [Dat.enc]
     cases h
   ·exact Z65
   ·cases hv:lT t i with
    |none=>exact Z236
    |some p=>
     obtain ⟨z,j1⟩:=p
     obtain ⟨r1,r2,r3⟩:=iX hv
     have hl:=fO (zig z) (jT _ r1.1 r1.2)
     exact Z268
   ·cases hp:pre t i 4 with
    |none=>exact Z237
    |some v=>
     exact Z203
   ·cases hp:pre t i 8 with
    |none=>exact Z237
    |some v=>
     exact Z203
   ·cases hv:tr? (lrd t i) with
    |none=>exact Z236
    |some p=>
     obtain ⟨u,j1⟩:=p
     obtain ⟨r1,r2⟩:=Jn (xh hv)
     exact Z131
   ·cases hv:tr? (urd t i) with
    |none=>exact Z236
    |some p=>
     obtain ⟨u,j1⟩:=p
     obtain ⟨r1,r2⟩:=IQ (xh hv)
     exact Z131
   ·cases hv:ov (jt t tab f) (List.map Prod.snd n.fields) [] i l with
    |none=>exact Z236
    |some p=>
     obtain ⟨ks,j1,l1⟩:=p
     obtain ⟨new,e1,e2,-⟩:=CK ih _ [] i l ks j1 l1 hv hl hi
     rw [List.nil_append] at e1
     subst e1
     simp only [hv] at h
     cases h
     simpa [Dat.enc] using e2
   ·exact Z65
   ·cases hv:eB t (lC (jt t tab f) n.item) 1001 [] i l with
    |none=>exact Z236
    |some p=>
     obtain ⟨ks,j1,l1⟩:=p
     obtain ⟨new,e1,e2,-,-,e5⟩:=ph ih n.item 1001 [] i l ks j1 l1 hv hl hi
     have e6:=(mC (oD tab f) (pH t tab hk hz f) n.item 1001 [] i l ks j1 l1 hv hl hi)
     obtain ⟨new',s,g1,-,g3,g4,-⟩:=e6
     rw [List.nil_append] at e1 g1
     subst e1
     subst g1
     have hl:=fO (zig ks.length) (jT _ Kc Kc)
     simp only [hv] at h
     cases h
     rw [Dat.enc,if_neg Ke,if_neg Ke,if_neg Ke,if_neg Ke,if_neg Ke,if_neg Ke,if_neg Ke,if_neg Ke,if_pos rfl,List.length_append,List.length_append]
     exact Z205
   ·cases hv:eB t (jS t (jt t tab f) n.item) 1001 ([],[]) i l with
    |none=>exact Z236
    |some p=>
     obtain ⟨a,j1,l1⟩:=p
     obtain ⟨nn,new,e1,e2,e3,e4,e5,e6⟩:=oN ih hz n.item 1001 ([],[]) i l a j1 l1 hv hl hi
     obtain ⟨new',s,g1,-,-,-,-,g3,g4,-⟩:=mM (oD tab f) (pH t tab hk hz f) hz n.item 1001 ([],[]) i l a j1 l1 hv hl hi rfl rfl ik
     simp only [List.nil_append] at e1 g1
     subst e1
     simp only at g1
     subst g1
     have hl:=fO (zig new.length) (jT _ Kc Kc)
     simp only [hv] at h
     cases h
     rw [Dat.enc,if_neg Ke,if_neg Ke,if_neg Ke,if_neg Ke,if_neg Ke,if_neg Ke,if_neg Ke,if_neg Ke,if_neg Ke,if_pos rfl,List.length_append,List.length_append]
     exact Z205
   ·cases hv:lT t i with
    |none=>exact Z236
    |some p=>
     obtain ⟨z,j1⟩:=p
     obtain ⟨r1,r2,r3⟩:=iX hv
     have hl':=fO (zig z) (jT _ r1.1 r1.2)
     simp only [hv] at h
     split at h
     ·cases hg:jt t tab f (n.branches.getD z.toNat 0) j1 l with
      |none=>simp only [List.getD_eq_getElem?_getD] at hg;simp only [hg] at h;cases h
      |some p=>
       obtain ⟨d1,j2,l2⟩:=p
       obtain ⟨q1,q2,q3,q4⟩:=ih _ _ _ _ _ _ hg hl r3
       simp only [List.getD_eq_getElem?_getD] at hg
       simp only [hg] at h
       cases h
       simp [Dat.enc,aB]
       omega
     cases h
   cases hp:pre t i n.size with
   |none=>exact Z237
   |some v=>
    obtain ⟨p1,p2⟩:=yl hp
    simp only [hp] at h
    cases h
    have hv:v.data.toList.length=v.size:=Kh
    simp [Dat.enc]
    omega
end
section
open Go Go.RowKit
variable{w:World}{sb:Nat}{s:Sch}
def Z164(h:p:=by
 injection hr with hr
 injection hr with hr1 hr2
 subst hr1
 exact ⟨rb,he,hS',hA⟩):p:=h
theorem SchAt.kinds(h:SchAt w sb s):∀n∈fH s,1<=n.kind/\n.kind<=14:=λn hn=>by
 obtain ⟨pl,hL,-,-⟩:=h.lay
 obtain ⟨i,hi,rfl⟩:=List.getElem_of_mem hn
 exact hL.kinds i hi
theorem dok_lie{d:Dat}{cs:List Value}(h:d.lies w cs)(hz:d.sz<=262144):DOk d:=by
 have hr:=Ct d.count d cs (NL _) h Kc
 have he:=EK d.count d (NL _) hr Kc
 exact ⟨xB d.count d (NL _) Kc,hr,by omega⟩
theorem dok_dec(hS:SchAt w sb s){t:ByteArray}(ht:t.size<=262144){x:Dat}{j l:Nat}(h:jt t (fH s) 64 0 0 0=some (x,j,l)):(eZ (fH s) 64 0 x 0).isSome=true/\DOk x:=by
 obtain ⟨h1,-,-,-,h5⟩:=pH t (fH s) hS.kinds Kc 64 0 0 0 x j l h Ke (NQ _)
 obtain ⟨-,-,g3,g4⟩:=dec_len t (fH s) hS.kinds Kc 64 0 0 0 x j l h Ke (NQ _)
 exact ⟨by rw [h1];rfl,(AF hS.fields 64 0 x 0 l h1 h5).2,h5,by omega⟩
theorem CT{W w':World}{e:Ending}(hS:SchAt W sb s)(h46:(46:UInt8) ∉ jB (jOf s))(h:IW ⟨(jB (jOf s)).toArray⟩ w e w'):∃rb,e=.returned (.tuple #[.pointer (some ⟨rb,0,none⟩),.int .i64 0])/\SchAt w' rb (eO s)/\Add w w':=by
 obtain ⟨t,j,r1,r2⟩:=hS.read
 obtain ⟨c1,c2⟩:=BX r1 r2 hS.good.shp h46
 obtain ⟨hA,⟨n,-,-,hno⟩|⟨s',rb,j',he,hj,hr,hS',-⟩⟩:=h
 ·exact absurd (uZ s) (hno _ _ _ c1 c2)
 rw [c1] at hj
 cases hj
 rw [c2] at hr
 exact Z164
theorem ppar_al{w':World}{e:Ending}(h:IW alB w e w'):∃rb,e=.returned (.tuple #[.pointer (some ⟨rb,0,none⟩),.int .i64 0])/\SchAt w' rb alS/\Add w w':=by
 obtain ⟨hA,⟨n,-,-,hno⟩|⟨s',rb,j',he,hj,hr,hS',-⟩⟩:=h
 ·exact absurd (by unfold alS lQ;simp [nF,pQ]) (hno _ _ _ Cd Fl)
 rw [Cd] at hj
 cases hj
 rw [Fl] at hr
 exact Z164
theorem al_row{T:TypeId}{z:Nat × Nat}{b:Nat}(h:w.heap[b]?=some (.cells #[.int .i64 3,.int .i64 5,.int .u64 0,.string ⟨#[]⟩,.slice none 0 0,.slice none 0 0,.int .i64 3,.int .i64 (-6),.int .u64 0,.string ⟨#[]⟩,.slice none 0 0,.slice none 0 0] T z))(c:Nat):alD.lies w [.int .i64 11,.int .i64 0,.int .u64 0,.string ⟨#[]⟩,.slice none 0 0,.slice (some ⟨b,0,none⟩) 2 c]:=by
 have hb:=(Oh h).1
 unfold alD
 rw [Dat.lies]
 refine ⟨none,0,some ⟨b,0,none⟩,c,rfl,by decide,by decide,by decide,.inl rfl,?_⟩
 rw [Dat.lieAll,Dat.lieAll,Dat.lieAll]
 have hq:∀(n:Int),(-9223372036854775808<=n/\n<=9223372036854775807)->(Dat.mk 3 n 0 ⟨#[]⟩ [] []).lies w [.int .i64 3,.int .i64 n,.int .u64 0,.string ⟨#[]⟩,.slice none 0 0,.slice none 0 0]:=λn hn=>by
  rw [Dat.lies]
  exact ⟨none,0,none,0,rfl,by decide,hn,by decide,.inl rfl,by rw [Dat.lieAll];trivial⟩
 refine ⟨⟨b,0,[.int .i64 3,.int .i64 5,.int .u64 0,.string ⟨#[]⟩,.slice none 0 0,.slice none 0 0],rfl,hb,rfl,λf hf=>?_,hq 5 Ke⟩,⟨b,0,[.int .i64 3,.int .i64 (-6),.int .u64 0,.string ⟨#[]⟩,.slice none 0 0,.slice none 0 0],rfl,hb,rfl,λf hf=>?_,hq (-6) Ke⟩,trivial⟩
 all_goals
  unfold World.cell?
  rw [h]
  have hf':=Y105
  rcases hf' with rfl|rfl|rfl|rfl|rfl|rfl <;> rfl
end
section
open Go Go.RowKit Go.Extern.Stop Go.Stop Go.Extern
def Z128(h:p:=by
 go_wp2
 go_roundw
 case rel=>exact ⟨⟨_,rfl⟩,j+1,by omega,by go_num⟩
 simp only [intOf];exact wg hlt):p:=h
theorem aQ{w:World}{d:Dat}{cs:List Value}(q:Nat)(h:d.lies w cs):d.lies (w.drewN q) cs:=Dat.lies_carry (W:=w) (w:=w.drewN q) ⟨NL _,λ_ _=>rfl⟩ d cs h
theorem zW:∀(N:Nat) (d:Dat),d.count<=N->∀(w:World) (b o b' o':Nat),d.atP w b o->d.atP w b' o'->d.shapedT->Calls prog 13 #[.pointer (some ⟨b,o,none⟩),.pointer (some ⟨b',o',none⟩)] w λe w'=>e=.returned (.bool true)/\∃m,w'=w.drewN m
 |0,.mk _ _ _ _ _ _,h=>by rw [Dat.count] at h;omega
 |N+1,.mk k n bb t ns ks,h=>by
  have ih:=zW N
  rintro w b o b' o' ⟨cs,-,hc,hl⟩ ⟨cs',-,hc',hl'⟩ hz
  rw [Dat.lies] at hl hl'
  obtain ⟨na,nc,ka,kc,rfl,-,-,-,hns,hks⟩:=hl
  obtain ⟨na',nc',ka',kc',rfl,-,-,-,hns',hks'⟩:=hl'
  rw [Dat.shapedT] at hz
  rw [Dat.count] at h
  have q0:w.cell? ⟨b,o,none⟩=some (.int .i64 k):=hc 0 Kc
  have q1:w.cell? ⟨b,o+1,none⟩=some (.int .i64 n):=hc 1 Kc
  have q2:w.cell? ⟨b,o+2,none⟩=some (.int .u64 (bb:Int)):=hc 2 Kc
  have q3:=Y10
  have q4:=Y11
  have q5:=Y12
  have p0:w.cell? ⟨b',o',none⟩=some (.int .i64 k):=hc' 0 Kc
  have p1:w.cell? ⟨b',o'+1,none⟩=some (.int .i64 n):=hc' 1 Kc
  have p2:w.cell? ⟨b',o'+2,none⟩=some (.int .u64 (bb:Int)):=hc' 2 Kc
  have p3:w.cell? ⟨b',o'+3,none⟩=some (.string t):=hc' 3 Kc
  have p4:w.cell? ⟨b',o'+4,none⟩=some (.slice na' ns.length nc'):=hc' 4 Kc
  have p5:w.cell? ⟨b',o'+5,none⟩=some (.slice ka' ks.length kc'):=hc' 5 Kc
  have hlen:ns.length<=70368744177000:=hz.2.1
  have hlek:ks.length<=70368744177000:=hz.2.2.2.1
  have HZ:Hid (aV ks):=hz.2.2.2.2
  clear hc hc' hz
  go_enter func13,ntmps13
  go_upto_region 1 with fail
  go_cut [75] (λc wx=>c=.bool false/\∃q,wx=w.drewN q)
  case rest=>
   obtain ⟨rfl,q0,rfl⟩:=hcut
   go_wp2
   go_loopw [5] (λcnt wr=>(∃q,wr=w.drewN q)/\∃(j:Nat),j<=ns.length/\cnt=.int .i64 j) (λcnt _=>ns.length-(intOf cnt).toNat)
   case atStart=>exact ⟨⟨_,rfl⟩,0,NQ _,rfl⟩
   obtain ⟨⟨q,rfl⟩,j,hj,rfl⟩:=hrel
   by_cases hlt:j<ns.length
   ·obtain ⟨bn,on,hna,hcn⟩:=hns.get hlt
    obtain ⟨bm,om,hnm,hcm⟩:=hns'.get hlt
    subst hna hnm
    generalize ns[j]=sj at *
    clear ih hks hns hks' hns'
    go_wp2
    go_quiet (fail)
    exact Z128
   obtain rfl:j=ns.length:=Kc
   go_wp2
   go_loopw [6] (λcnt wr=>(∃q,wr=w.drewN q)/\∃(j:Nat),j<=ks.length/\cnt=.int .i64 j) (λcnt _=>ks.length-(intOf cnt).toNat)
   case atStart=>exact ⟨⟨q,rfl⟩,0,NQ _,rfl⟩
   obtain ⟨⟨q,rfl⟩,j,hj,rfl⟩:=hrel
   by_cases hlt:j<ks.length
   ·obtain ⟨bn,on,cs,hka,-,h6,hcn,hd⟩:=Dat.lieAll_get ks 0 hks j hlt
    obtain ⟨bm,om,cs',hkm,-,h6',hcm,hd'⟩:=Dat.lieAll_get ks 0 hks' j hlt
    subst hka hkm
    have hcj:=aA (NS hlt)
    have hs:∀x,Calls prog 13 #[.pointer (some ⟨bn,on+j*6,none⟩),.pointer (some ⟨bm,om+j*6,none⟩)] (w.drewN (q+x)) λe w'=>e=.returned (.bool true)/\∃n,w'=w.drewN (q+n):=λx=>
     (ih ks[j] Kc (w.drewN (q+x)) bn (on+j*6) bm (om+j*6) ⟨cs,h6,λf hf=>by have:=hcn f hf;rwa [NV] at this,aQ _ hd⟩ ⟨cs',h6',λf hf=>by have:=hcm f hf;rwa [NV] at this,aQ _ hd'⟩ (aX HZ.out (NS hlt))).mono λe w' h=>⟨h.1,h.2.elim λm hm=>⟨x+m,by rw [hm,World.drewN_drewN,Nat.add_assoc]⟩⟩
    clear ih hks hns hd hcn hcj h6 hks' hns' hd' hcm h6'
    go_wp2
    go_quiet ((go_at_call 13;exact hs _))
    exact Z128
   obtain rfl:=Y5
   go_wp2
   go_ret
   exact ⟨rfl,_,rfl⟩
  go_quiet (fail)
  go_wp2
  go_meet
  exact ⟨rfl,_,rfl⟩
def Z66(h:p:=by
 obtain ⟨h1,⟨hO,-⟩|⟨x,j,l,cs,hO,he,hx,-⟩⟩:=h
 ·rw [hM] at hO;cases hO
 rw [hM] at hO
 cases hO
 obtain ⟨dk,dn,db,dt,dna,dka,dnl,dnc,dkl,dkc,rfl⟩:=aO hx
 exact ⟨dk,dn,db,dt,dna,dka,dnl,dnc,dkl,dkc,he,aR _ _ hx,h1⟩):p:=h
def Z181(h:p:=by
 exact ⟨rfl,HA5.out.trans ⟨rfl,rfl,NL _,λ_ _=>rfl⟩⟩):p:=h
theorem ag{w w':World}{d:Dat}{b o:Nat}(h:d.atP w b o)(a:Add w w'):d.atP w' b o:=by
 exact Z72
theorem Jm{tab:List TNode}(hk:∀n∈tab,1<=n.kind/\n.kind<=14){d:Dat}(hr:d.rng){l:Nat}(h:eZ tab 64 0 d 0=some l):jt (kP d.enc++⟨#[109,111,114,101]⟩) tab 64 0 0 0=some (d,d.enc.length,l):=by
 have:=EO (kP d.enc++⟨#[109,111,114,101]⟩) tab hk 64 0 d 0 0 l h hr ⟨[109,111,114,101],by unfold kP;simp⟩ (NQ _)
 rw [NV] at this
 exact this
theorem Ii{a q:Nat->Addr}{w:World}{kb sb rb b o:Nat}{s s':Sch}{d:Dat}(hG:Glb a q w)(hc:w.cell? ⟨kb,0,none⟩=some (.pointer (some ⟨sb,0,none⟩)))(hS:SchAt w sb s)(hR:SchAt w rb s')(htab:fH s'=fH s)(hd:d.atP w b o)(hz:DOk d):
  Calls prog 9 #[.pointer (some ⟨kb,0,none⟩),.pointer (some ⟨b,o,none⟩),.pointer (some ⟨rb,0,none⟩)] w λe w'=>e=.returned (.bool true)/\Add w w':=by
 have HD:=bf hd
 obtain ⟨cs,-,hcs,hl⟩:=hd
 obtain ⟨na,nc,ka,kc,rfl,-⟩:=Dat.lies_cells hl
 have q0:w.cell? ⟨b,o,none⟩=some (.int .i64 d.kind):=hcs 0 Kc
 have q1:w.cell? ⟨b,o+1,none⟩=some (.int .i64 d.int):=hcs 1 Kc
 have q2:w.cell? ⟨b,o+2,none⟩=some (.int .u64 (d.bits:Int)):=hcs 2 Kc
 have q3:w.cell? ⟨b,o+3,none⟩=some (.string d.text):=hcs 3 Kc
 have q4:w.cell? ⟨b,o+4,none⟩=some (.slice na d.names.length nc):=hcs 4 Kc
 have q5:w.cell? ⟨b,o+5,none⟩=some (.slice ka d.kids.length kc):=hcs 5 Kc
 have hld:=λW (k:Add w W)=>Dat.lies_carry (Old.add k) _ _ hl
 have hf:=λW (k:Add w W)=>uS (hG.add k) (hS.add k) (hld W k) hz.shT
 have he:=λW (k:Add w W)=>yq (hG.add k) (hS.add k) (hld W k) hz
 have hr:=λW (k:Add w W)=>yq (hG.add k) (hR.add k) (hld W k) hz
 have hdc:=λW t ht (k:Add w W)=>xk (hG.add k) (hS.add k) t ht
 obtain ⟨pl,hL,-,-⟩:=hS.lay
 have hkinds:∀n∈fH s,1<=n.kind/\n.kind<=14:=λn hn=>by obtain ⟨i,hi,rfl⟩:=List.getElem_of_mem hn;exact hL.kinds i hi
 rw [htab] at hr
 have HM:Hid (∀l,eZ (fH s) 64 0 d 0=some l->jt (kP d.enc++⟨#[109,111,114,101]⟩) (fH s) 64 0 0 0=some (d,d.enc.length,l)):=λl h=>Jm hkinds hz.rng h
 generalize fH s=tab at *
 have HZ:=bf hz
 clear hG hS hR htab hcs hl hL hkinds hld hz
 have A1:=af w
 have hf1:=hf _ A1
 go_enter func9,ntmps9
 go_upto_region 1 with fail
 refine wp_region_held_drew (S:=(λw'=>w'.cell? ⟨kb,0,none⟩=some (.pointer (some ⟨sb,0,none⟩))/\w'.cell? ⟨b,o,none⟩=some (.int .i64 d.kind)/\w'.cell? ⟨b,o+1,none⟩=some (.int .i64 d.int)/\w'.cell? ⟨b,o+2,none⟩=some (.int .u64 (d.bits:Int))/\w'.cell? ⟨b,o+3,none⟩=some (.string d.text)/\w'.cell? ⟨b,o+4,none⟩=some (.slice na d.names.length nc)/\w'.cell? ⟨b,o+5,none⟩=some (.slice ka d.kids.length kc))) Kf ?_ (λhH=>?_)
 ·exact ⟨hc,q0,q1,q2,q3,q4,q5⟩
 apply tk 0
 apply tk 1
 apply tk 2
 apply tk 3
 apply tk 4
 apply tk 5
 apply tk 6
 apply rd 7
 intro K hK
 go_simp
 go_wp2_with (go_at_call 11;(with_reducible refine hf1.mono ?_);rintro e w1 ⟨rfl,hA1⟩)
 have A2:=A1.trans hA1
 refine hK.out _ _ ⟨A2.cell hc,A2.cell q0,A2.cell q1,A2.cell q2,A2.cell q3,A2.cell q4,A2.cell q5⟩ (λhH=>?_)
 clear hK K
 try simp only [Act.put,List.getElem_toArray,List.getElem_cons_zero,List.getElem_cons_succ,List.setIfInBounds_toArray,List.set_cons_zero,List.set_cons_succ]
 apply tk 8
 refine wpAnyH_done Kf ?_ _
 have pc:=A2.cell hc
 have p0:=A2.cell q0
 have p1:=A2.cell q1
 have p2:=A2.cell q2
 have p3:=A2.cell q3
 have p4:=A2.cell q4
 have p5:=A2.cell q5
 have he1:=he _ (A2.trans (af w1))
 have HA2:=bf A2
 clear hf hf1 hA1 A1 A2 hH
 go_upto_region 2 with fail
 refine wp_region_held_drew (S:=(λw'=>w'.cell? ⟨kb,0,none⟩=some (.pointer (some ⟨sb,0,none⟩))/\w'.cell? ⟨b,o,none⟩=some (.int .i64 d.kind)/\w'.cell? ⟨b,o+1,none⟩=some (.int .i64 d.int)/\w'.cell? ⟨b,o+2,none⟩=some (.int .u64 (d.bits:Int))/\w'.cell? ⟨b,o+3,none⟩=some (.string d.text)/\w'.cell? ⟨b,o+4,none⟩=some (.slice na d.names.length nc)/\w'.cell? ⟨b,o+5,none⟩=some (.slice ka d.kids.length kc))) Kf ?_ (λhH=>?_)
 ·exact ⟨pc,p0,p1,p2,p3,p4,p5⟩
 apply tk 0
 apply tk 1
 apply tk 2
 apply tk 3
 apply tk 4
 apply tk 5
 apply tk 6
 apply rd 7
 intro K hK
 go_simp
 go_wp2_with (go_at_call 12;(with_reducible refine he1.mono ?_);rintro e w2 ⟨hA2,⟨hB,rfl⟩|⟨hB,rfl⟩⟩)
 ·have A3:=HA2.out.trans ((af w1).trans hA2)
  refine hK.out _ _ ⟨A3.cell hc,A3.cell q0,A3.cell q1,A3.cell q2,A3.cell q3,A3.cell q4,A3.cell q5⟩ (λhH=>?_)
  clear hK K
  try simp only [Act.put,List.getElem_toArray,List.getElem_cons_zero,List.getElem_cons_succ,List.setIfInBounds_toArray,List.set_cons_zero,List.set_cons_succ]
  apply tk 8
  apply tk 9
  apply tk 10
  apply tk 11
  apply tk 12
  refine wpAnyH_done Kf ?_ _
  clear hH he1 hA2 pc p0 p1 p2 p3 p4 p5
  obtain ⟨l',hl'⟩:=Option.isSome_iff_exists.1 hB
  have hM:=HM.out l' hl'
  have hsz:(kP d.enc).size=d.enc.length:=by unfold kP;simp [ByteArray.size]
  have hlen:=HZ.out.len
  have hdc2:=hdc w2 (kP d.enc++⟨#[109,111,114,101]⟩) (by rw [ByteArray.size_append,hsz];show d.enc.length+4<=_;omega) A3
  have hdc3:Calls prog 10 #[.pointer (some ⟨sb,0,none⟩),.string (kP d.enc++⟨#[109,111,114,101]⟩)] w2 λe w'=>∃dk dn db dt dna dka dnl dnc dkl dkc,e=.returned (.tuple #[.agg (dcs dk dn db dt dna dka dnl dnc dkl dkc).toArray,.int .i64 (d.enc.length:Int),.int .i64 0])/\d.lies w' (dcs dk dn db dt dna dka dnl dnc dkl dkc)/\Add w2 w':=hdc2.mono λe w' h=>by
   exact Z66
  have hr':=λW (k:Add w W)=>(hr W k).mono (R':=λe w'=>e=.returned (.tuple #[.string (kP d.enc),.int .i64 0])/\Add W w') λe w' h=>by
   obtain ⟨h1,⟨-,he⟩|⟨hn,-⟩⟩:=h
   ·exact ⟨he,h1⟩
   rw [hB] at hn;cases hn
  have hsT:=HZ.out.shT
  generalize kP d.enc=E at *
  generalize d.enc.length=n at *
  have hcat:(9223372036854775807<E.size+4)=False:=eq_false Kc
  have hcat2:(9223372036854775807<n+4)=False:=eq_false Kc
  have HA3:=bf A3
  have c3:=A3.cell hc
  clear hM hl' hB hdc hdc2 hr HM he A3 HZ
  go_upto_region 6 with (go_at_call 10;(with_reducible refine hdc3.mono ?_);rintro e w3 ⟨dk,dn,db,dt,dna,dka,dnl,dnc,dkl,dkc,rfl,hx3,hA3⟩;unfold dcs;have HX3:=bf hx3;have HA3':=bf hA3;clear hx3 hA3)
  have hA4:=HA3'.out.trans (ae w3 (.cells #[.int .i64 dk,.int .i64 dn,.int .u64 (db:Int),.string dt,.slice dna dnl dnc,.slice dka dkl dkc] 42 (0,0)))
  have hb4:=dD w3 (.cells #[.int .i64 dk,.int .i64 dn,.int .u64 (db:Int),.string dt,.slice dna dnl dnc,.slice dka dkl dkc] 42 (0,0))
  have hx4:=Dat.lies_carry (Old.add (ae w3 (.cells #[.int .i64 dk,.int .i64 dn,.int .u64 (db:Int),.string dt,.slice dna dnl dnc,.slice dka dkl dkc] 42 (0,0)))) _ _ HX3.out
  generalize w3.alloc (.cells #[.int .i64 dk,.int .i64 dn,.int .u64 (db:Int),.string dt,.slice dna dnl dnc,.slice dka dkl dkc] 42 (0,0))=w4 at *
  have A4:=HA3.out.trans hA4
  have r0:=A4.cell q0
  have r1:=A4.cell q1
  have r2:=A4.cell q2
  have r3:=A4.cell q3
  have r4:=A4.cell q4
  have r5:=A4.cell q5
  have hr4:=hr' w4 A4
  have HB4:=bf hb4
  have HX4:=bf hx4
  have HA4:=bf A4
  clear hr' hdc3 hA4 hb4 hx4 A4 c3
  go_upto_region 7 with (go_at_call 12;(with_reducible refine hr4.mono ?_);rintro e w5 ⟨rfl,hA5⟩)
  have HA5:=bf (HA4.out.trans hA5)
  have hsm:=zW d.count d (NL _) w5 b o w3.heap.size 0 (ag HD.out HA5.out) (by
   obtain ⟨t0,t1,t2,t3,t4,t5,-⟩:=dF ((hA5.old _ (Oh HB4.out).1).trans HB4.out)
   refine ⟨_,rfl,λf hf=>?_,Dat.lies_carry (Old.add hA5) _ _ HX4.out⟩
   have hf':=Y105
   rcases hf' with rfl|rfl|rfl|rfl|rfl|rfl
   ·exact t0
   ·exact t1
   ·exact t2
   ·exact t3
   ·exact t4
   exact t5) hsT
  have hnn:((n:Int)=(E.size:Int))=True:=eq_true Kc
  have hnb:((n:Int)==(E.size:Int))=true:=by rw [hsz];simp
  clear hr4 r0 r1 r2 r3 r4 r5 hA5
  go_wp2_with (go_at_call 13;(with_reducible refine hsm.mono ?_);rintro e w6 ⟨rfl,m,hw6⟩)
  go_ret
  exact Z181
 have A3:=HA2.out.trans ((af w1).trans hA2)
 refine hK.out _ _ ⟨A3.cell hc,A3.cell q0,A3.cell q1,A3.cell q2,A3.cell q3,A3.cell q4,A3.cell q5⟩ (λhH=>?_)
 clear hK K
 try simp only [Act.put,List.getElem_toArray,List.getElem_cons_zero,List.getElem_cons_succ,List.setIfInBounds_toArray,List.set_cons_zero,List.set_cons_succ]
 apply tk 8
 apply tk 9
 apply tk 10
 apply tk 11
 apply tk 12
 refine wpAnyH_done Kf ?_ _
 clear hH he1 hA2 pc p0 p1 p2 p3 p4 p5
 have HA3:=bf A3
 clear A3 he hr hdc hB
 go_wp2
 go_ret
 exact ⟨rfl,HA3.out⟩
theorem Fu{a q:Nat->Addr}{w:World}(hG:Glb a q w):Calls prog 4 #[] w λe w'=>e=.returned (.bool true)/\Add w w':=by
 have hp:=(rE hG alB Ke).mono λe w' h=>ppar_al h
 unfold alB at hp
 have HG:=bf hG
 clear hG
 go_enter func4,ntmps4
 go_upto_region 4 with (go_at_call 7;(with_reducible refine hp.mono ?_);rintro e w1 ⟨sb,rfl,hS,hA1⟩)
 have HS:=bf hS
 have HA1:=bf hA1
 clear hp hS hA1
 go_upto_region 5 with fail
 have r1:=dD w1 (.cells #[.int .i64 3,.int .i64 5,.int .u64 0,.string ⟨#[]⟩,.slice none 0 0,.slice none 0 0,.int .i64 3,.int .i64 (-6),.int .u64 0,.string ⟨#[]⟩,.slice none 0 0,.slice none 0 0] 42 (0,0))
 have a1:=ae w1 (.cells #[.int .i64 3,.int .i64 5,.int .u64 0,.string ⟨#[]⟩,.slice none 0 0,.slice none 0 0,.int .i64 3,.int .i64 (-6),.int .u64 0,.string ⟨#[]⟩,.slice none 0 0,.slice none 0 0] 42 (0,0))
 have z1:=dE w1 (.cells #[.int .i64 3,.int .i64 5,.int .u64 0,.string ⟨#[]⟩,.slice none 0 0,.slice none 0 0,.int .i64 3,.int .i64 (-6),.int .u64 0,.string ⟨#[]⟩,.slice none 0 0,.slice none 0 0] 42 (0,0))
 have r2:=dD (w1.alloc (.cells #[.int .i64 3,.int .i64 5,.int .u64 0,.string ⟨#[]⟩,.slice none 0 0,.slice none 0 0,.int .i64 3,.int .i64 (-6),.int .u64 0,.string ⟨#[]⟩,.slice none 0 0,.slice none 0 0] 42 (0,0))) (.cells #[.int .i64 11,.int .i64 0,.int .u64 0,.string ⟨#[]⟩,.slice none 0 0,.slice (some ⟨w1.heap.size,0,none⟩) 2 2] 42 (0,0))
 have a2:=ae (w1.alloc (.cells #[.int .i64 3,.int .i64 5,.int .u64 0,.string ⟨#[]⟩,.slice none 0 0,.slice none 0 0,.int .i64 3,.int .i64 (-6),.int .u64 0,.string ⟨#[]⟩,.slice none 0 0,.slice none 0 0] 42 (0,0))) (.cells #[.int .i64 11,.int .i64 0,.int .u64 0,.string ⟨#[]⟩,.slice none 0 0,.slice (some ⟨w1.heap.size,0,none⟩) 2 2] 42 (0,0))
 rw [z1] at r2
 have r3:=(a2.old _ (Oh r1).1).trans r1
 have A:=a1.trans a2
 clear r1 a1 z1 a2
 generalize ((w1.alloc (.cells #[.int .i64 3,.int .i64 5,.int .u64 0,.string ⟨#[]⟩,.slice none 0 0,.slice none 0 0,.int .i64 3,.int .i64 (-6),.int .u64 0,.string ⟨#[]⟩,.slice none 0 0,.slice none 0 0] 42 (0,0))).alloc (.cells #[.int .i64 11,.int .i64 0,.int .u64 0,.string ⟨#[]⟩,.slice none 0 0,.slice (some ⟨w1.heap.size,0,none⟩) 2 2] 42 (0,0)))=w2 at *
 have hl:=al_row r3 2
 have hP:=zU r2 hl
 obtain ⟨q0,q1,q2,q3,q4,q5,-⟩:=dF r2
 generalize w1.heap.size=B at *
 have A2:=HA1.out.trans A
 have he:=(yq (HG.out.add A2) (HS.out.add A) hl al_ok).mono (R':=λe w'=>e=.returned (.tuple #[.string ⟨#[4,10,11,0]⟩,.int .i64 0])/\Add w2 w') λe w' h=>by
  obtain ⟨h1,⟨-,h2⟩|⟨h2,-⟩⟩:=h
  ·rw [JK] at h2;exact ⟨h2,h1⟩
  obtain ⟨l,hl⟩:=Em
  rw [hl] at h2;cases h2
 have hdc:=λW (k:Add w2 W)=>(xk (HG.out.add (A2.trans k)) (HS.out.add (A.trans k)) ⟨#[4,10,11,0]⟩ Ke).mono (R':=λe w'=>∃dk dn db dt dna dka dnl dnc dkl dkc,e=.returned (.tuple #[.agg (dcs dk dn db dt dna dka dnl dnc dkl dkc).toArray,.int .i64 4,.int .i64 0])/\alD.lies w' (dcs dk dn db dt dna dka dnl dnc dkl dkc)/\Add W w') λe w' h=>by
  obtain ⟨l0,hM⟩:=al_dec
  exact Z66
 have HP:=bf hP
 have HA2:=bf A2
 clear r2 r3 A A2 hl hP HG HS HA1
 go_upto_region 8 with (go_at_call 12;(with_reducible refine he.mono ?_);rintro e w3 ⟨rfl,hA3⟩)
 have hdc3:=hdc w3 hA3
 have HA3:=bf hA3
 clear he hdc q0 q1 q2 q3 q4 q5 hA3
 go_upto_region 9 with (go_at_call 10;(with_reducible refine hdc3.mono ?_);rintro e w4 ⟨dk,dn,db,dt,dna,dka,dnl,dnc,dkl,dkc,rfl,hx,hA4⟩;unfold dcs;have HX:=bf hx;have HA4:=bf hA4;clear hx hA4)
 have a5:=ae w4 (.cells #[.int .i64 dk,.int .i64 dn,.int .u64 (db:Int),.string dt,.slice dna dnl dnc,.slice dka dkl dkc] 42 (0,0))
 have r5:=dD w4 (.cells #[.int .i64 dk,.int .i64 dn,.int .u64 (db:Int),.string dt,.slice dna dnl dnc,.slice dka dkl dkc] 42 (0,0))
 have hx5:=Dat.lies_carry (Old.add a5) _ _ HX.out
 generalize w4.alloc (.cells #[.int .i64 dk,.int .i64 dn,.int .u64 (db:Int),.string dt,.slice dna dnl dnc,.slice dka dkl dkc] 42 (0,0))=w5 at *
 have hsm:=zW alD.count alD (NL _) w5 (B+1) 0 w4.heap.size 0 (ag HP.out (HA3.out.trans (HA4.out.trans a5))) (zU r5 hx5) Ha
 have HA5:=bf (HA2.out.trans (HA3.out.trans (HA4.out.trans a5)))
 clear hdc3 a5 r5 hx5 HP HX HA4 HA3 HA2
 go_wp2_with (go_at_call 13;(with_reducible refine hsm.mono ?_);rintro e w6 ⟨rfl,m,hw6⟩)
 go_ret
 subst hw6
 exact Z181
theorem bkc_of{a q:Nat->Addr}{w:World}{kb sb:Nat}{s:Sch}{xa ya:Option Addr}{xc yc:Nat}{ds:List Dat}{bs:List ByteArray}(hG:Glb a q w)(h:KtAt w kb sb s xa ya xc yc ds bs):
  BkC DOk (λd=>(eZ (fH s) 64 0 d 0).isSome=true) (λW rb=>∃s',SchAt W rb s'/\fH s'=fH s) w kb sb ⟨(jB (jOf s)).toArray⟩ xa ya xc yc ds bs where
 c0:=h.c0
 c2:=h.c2
 c13:=h.c13
 data:=h.data
 bytes:=h.bytes
 dok:=λd hd=>by
  obtain ⟨i,hi,rfl⟩:=List.getElem_of_mem hd
  obtain ⟨b,o,cs,-,-,-,-,hl⟩:=Dat.lieAll_get ds 0 h.data i hi
  have:=qf (NS hi)
  have:=h.sz
  exact dok_lie hl Kc
 dn:=by have:=ll ds;have:=h.sz;omega
 bz:=h.bz
 bn:=h.bn
 cn:=h.sch.good.len
 can:=λW k=>ym (hG.add k) (h.sch.add k)
 rd0:=⟨s,h.sch,rfl⟩
 rda:=λW W' rb ⟨s',h1,h2⟩ k=>⟨s',h1.add k,h2⟩
 par:=λhd W k=>by
  refine (rE (hG.add k) _ (by have:=h.sch.good.len;show (jB (jOf s)).length<=_;omega)).mono λe w' hp=>?_
  obtain ⟨rb,he,hS,hA⟩:=CT h.sch (JJ hd) hp
  refine ⟨rb,he,hA,⟨_,hS,BH s⟩,λW' k'=>?_,λW' k'=>?_⟩
  ·have:=ym (hG.add (k.trans (hA.trans k'))) (hS.add k')
   rw [uu] at this
   exact this
  exact (DV (h.sch.add (k.trans (hA.trans k'))) (hS.add k') rfl).mono λe w'' ⟨he,m,hw⟩=>⟨he,by subst hw;exact ⟨rfl,rfl,NL _,λ_ _=>rfl⟩⟩
 dec:=λW k t ht=>(xk (hG.add k) (h.sch.add k) t Kc).mono λe w' hp=>by
  obtain ⟨hA,⟨hO,n,dk,dn,db,dt,dna,dka,dnl,dnc,dkl,dkc,hn,he⟩|⟨x,j,l,cs,hO,he,hx,hj⟩⟩:=hp
  ·exact ⟨hA,0,n,dk,dn,db,dt,dna,dka,dnl,dnc,dkl,dkc,he,λh0=>absurd h0 hn⟩
  obtain ⟨dk,dn,db,dt,dna,dka,dnl,dnc,dkl,dkc,rfl⟩:=aO hx
  obtain ⟨hf,hok⟩:=dok_dec h.sch ht hO
  exact ⟨hA,j,0,dk,dn,db,dt,dna,dka,dnl,dnc,dkl,dkc,he,λ_=>⟨by omega,by omega,x,hx,hok,hf⟩⟩
 fit:=λW k x cs hx hok hf=>by
  have:=uS (hG.add k) (h.sch.add k) hx hok.shT
  rw [hf] at this
  exact this
 bck:=λW k rb ⟨s',h1,h2⟩ d b o hd hok=>Ii (hG.add k) (k.cell h.c0) (h.sch.add k) h1 h2 hd hok
theorem Eu{a q:Nat->Addr}{w:World}{sb so n cap:Nat}{K A B C:Nat->Int}{S:Nat->ByteArray}{ad:Option Addr}(hG:Glb a q w)(hA:ad=some ⟨sb,so,none⟩\/n=0)(hS:n=0\/ScrAt w sb so n K A B C S)
  (hsm:∀W,Add w W->Calls prog 14 #[.slice ad n cap] W λe w'=>e=.returned (.bool (ky n S))/\w'=W):
  Calls prog 3 #[.slice ad n cap] w λe w'=>e=.returned (.bool true)/\Add w w':=by
 refine FZ (Fu hG) λW k=>(told_of (hG.add k) hA (hS.imp id λh=>h.add k) (hsm W k)).mono λe w' ⟨h1,h2⟩=>⟨h1,?_⟩
 rcases h2 with h2|⟨kb,sb',s,xa,ya,xc,yc,ds,bs,he,hk⟩
 ·exact .inl h2
 exact .inr ⟨_,_,_,kb,sb',_,xa,ya,xc,yc,ds,bs,he,bkc_of (hG.add (k.trans h1)) hk⟩
end
end Go.Proofs.YtceinlbeeahkeaaGreatDoor
