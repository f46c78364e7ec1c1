import Derived.Laws.IdiomStrings
import Derived.Test.YtceinlbeeahkeaaGreatDoorS24
set_option linter.defProp false
open Go.Proofs.Tryz
set_option maxHeartbeats 1000000
namespace Go.Proofs.YtceinlbeeahkeaaGreatDoor
variable{p:Prop}
section
open Go Go.RowKit Go.Extern.Stop Go.Stop Go.Extern
def Z97(h:p:=by
 go_enter func60,ntmps60
 go_wp2
 all_goals
  go_ret
  exact ⟨Jd (by (try simp at *);first|(simp [gu, *];done)|(simp [gu, *];exact kids0 ks)),Old.alloc _ _,rfl,rfl⟩):p:=h
def gu(k n:Int)(b:Nat)(t:ByteArray)(ns:List ByteArray)(ks:List Dat):Bool:=
 (decide (k=2\/k=3\/k=4\/k=10\/k=13)||decide (n=0))&&(decide (k=5\/k=6)||decide (b=0))&&(decide (k=7\/k=8\/k=14)||decide (t.toList=[]))&&(decide (k=12)||decide (ns=[]))&&(decide (k=9\/k=11\/k=12\/k=13)||decide (ks=[]))
theorem kids0(ks:List Dat):((ks.length:Int)==0)=decide (ks=[]):=by cases ks <;> simp;omega
theorem Jd{a b:Bool}(h:a=b):Ending.returned (.bool a)=.returned (.bool b):=by rw [h]
theorem bare_1(k n:Int)(b:Nat)(t:ByteArray)(ns:List ByteArray)(ks:List Dat)(na ka:Option Addr)(nc kc:Nat)(w:World):
  Calls prog 60 #[.int .i64 1,.agg #[.int .i64 k,.int .i64 n,.int .u64 b,.string t,.slice na ns.length nc,.slice ka ks.length kc]] w λe w'=>e=.returned (.bool (gu 1 n b t ns ks))/\Old w w'/\w'.os=w.os/\w'.output=w.output:=by
 exact Z97
theorem bare_2(k n:Int)(b:Nat)(t:ByteArray)(ns:List ByteArray)(ks:List Dat)(na ka:Option Addr)(nc kc:Nat)(w:World):
  Calls prog 60 #[.int .i64 2,.agg #[.int .i64 k,.int .i64 n,.int .u64 b,.string t,.slice na ns.length nc,.slice ka ks.length kc]] w λe w'=>e=.returned (.bool (gu 2 n b t ns ks))/\Old w w'/\w'.os=w.os/\w'.output=w.output:=by
 exact Z97
theorem bare_3(k n:Int)(b:Nat)(t:ByteArray)(ns:List ByteArray)(ks:List Dat)(na ka:Option Addr)(nc kc:Nat)(w:World):
  Calls prog 60 #[.int .i64 3,.agg #[.int .i64 k,.int .i64 n,.int .u64 b,.string t,.slice na ns.length nc,.slice ka ks.length kc]] w λe w'=>e=.returned (.bool (gu 3 n b t ns ks))/\Old w w'/\w'.os=w.os/\w'.output=w.output:=by
 exact Z97
theorem bare_4(k n:Int)(b:Nat)(t:ByteArray)(ns:List ByteArray)(ks:List Dat)(na ka:Option Addr)(nc kc:Nat)(w:World):
  Calls prog 60 #[.int .i64 4,.agg #[.int .i64 k,.int .i64 n,.int .u64 b,.string t,.slice na ns.length nc,.slice ka ks.length kc]] w λe w'=>e=.returned (.bool (gu 4 n b t ns ks))/\Old w w'/\w'.os=w.os/\w'.output=w.output:=by
 exact Z97
theorem bare_5(k n:Int)(b:Nat)(t:ByteArray)(ns:List ByteArray)(ks:List Dat)(na ka:Option Addr)(nc kc:Nat)(w:World):
  Calls prog 60 #[.int .i64 5,.agg #[.int .i64 k,.int .i64 n,.int .u64 b,.string t,.slice na ns.length nc,.slice ka ks.length kc]] w λe w'=>e=.returned (.bool (gu 5 n b t ns ks))/\Old w w'/\w'.os=w.os/\w'.output=w.output:=by
 exact Z97
theorem bare_6(k n:Int)(b:Nat)(t:ByteArray)(ns:List ByteArray)(ks:List Dat)(na ka:Option Addr)(nc kc:Nat)(w:World):
  Calls prog 60 #[.int .i64 6,.agg #[.int .i64 k,.int .i64 n,.int .u64 b,.string t,.slice na ns.length nc,.slice ka ks.length kc]] w λe w'=>e=.returned (.bool (gu 6 n b t ns ks))/\Old w w'/\w'.os=w.os/\w'.output=w.output:=by
 exact Z97
theorem bare_7(k n:Int)(b:Nat)(t:ByteArray)(ns:List ByteArray)(ks:List Dat)(na ka:Option Addr)(nc kc:Nat)(w:World):
  Calls prog 60 #[.int .i64 7,.agg #[.int .i64 k,.int .i64 n,.int .u64 b,.string t,.slice na ns.length nc,.slice ka ks.length kc]] w λe w'=>e=.returned (.bool (gu 7 n b t ns ks))/\Old w w'/\w'.os=w.os/\w'.output=w.output:=by
 exact Z97
theorem bare_8(k n:Int)(b:Nat)(t:ByteArray)(ns:List ByteArray)(ks:List Dat)(na ka:Option Addr)(nc kc:Nat)(w:World):
  Calls prog 60 #[.int .i64 8,.agg #[.int .i64 k,.int .i64 n,.int .u64 b,.string t,.slice na ns.length nc,.slice ka ks.length kc]] w λe w'=>e=.returned (.bool (gu 8 n b t ns ks))/\Old w w'/\w'.os=w.os/\w'.output=w.output:=by
 exact Z97
theorem bare_9(k n:Int)(b:Nat)(t:ByteArray)(ns:List ByteArray)(ks:List Dat)(na ka:Option Addr)(nc kc:Nat)(w:World):
  Calls prog 60 #[.int .i64 9,.agg #[.int .i64 k,.int .i64 n,.int .u64 b,.string t,.slice na ns.length nc,.slice ka ks.length kc]] w λe w'=>e=.returned (.bool (gu 9 n b t ns ks))/\Old w w'/\w'.os=w.os/\w'.output=w.output:=by
 exact Z97
theorem bare_10(k n:Int)(b:Nat)(t:ByteArray)(ns:List ByteArray)(ks:List Dat)(na ka:Option Addr)(nc kc:Nat)(w:World):
  Calls prog 60 #[.int .i64 10,.agg #[.int .i64 k,.int .i64 n,.int .u64 b,.string t,.slice na ns.length nc,.slice ka ks.length kc]] w λe w'=>e=.returned (.bool (gu 10 n b t ns ks))/\Old w w'/\w'.os=w.os/\w'.output=w.output:=by
 exact Z97
theorem bare_11(k n:Int)(b:Nat)(t:ByteArray)(ns:List ByteArray)(ks:List Dat)(na ka:Option Addr)(nc kc:Nat)(w:World):
  Calls prog 60 #[.int .i64 11,.agg #[.int .i64 k,.int .i64 n,.int .u64 b,.string t,.slice na ns.length nc,.slice ka ks.length kc]] w λe w'=>e=.returned (.bool (gu 11 n b t ns ks))/\Old w w'/\w'.os=w.os/\w'.output=w.output:=by
 exact Z97
theorem bare_12(k n:Int)(b:Nat)(t:ByteArray)(ns:List ByteArray)(ks:List Dat)(na ka:Option Addr)(nc kc:Nat)(w:World):
  Calls prog 60 #[.int .i64 12,.agg #[.int .i64 k,.int .i64 n,.int .u64 b,.string t,.slice na ns.length nc,.slice ka ks.length kc]] w λe w'=>e=.returned (.bool (gu 12 n b t ns ks))/\Old w w'/\w'.os=w.os/\w'.output=w.output:=by
 exact Z97
theorem bare_13(k n:Int)(b:Nat)(t:ByteArray)(ns:List ByteArray)(ks:List Dat)(na ka:Option Addr)(nc kc:Nat)(w:World):
  Calls prog 60 #[.int .i64 13,.agg #[.int .i64 k,.int .i64 n,.int .u64 b,.string t,.slice na ns.length nc,.slice ka ks.length kc]] w λe w'=>e=.returned (.bool (gu 13 n b t ns ks))/\Old w w'/\w'.os=w.os/\w'.output=w.output:=by
 exact Z97
theorem bare_14(k n:Int)(b:Nat)(t:ByteArray)(ns:List ByteArray)(ks:List Dat)(na ka:Option Addr)(nc kc:Nat)(w:World):
  Calls prog 60 #[.int .i64 14,.agg #[.int .i64 k,.int .i64 n,.int .u64 b,.string t,.slice na ns.length nc,.slice ka ks.length kc]] w λe w'=>e=.returned (.bool (gu 14 n b t ns ks))/\Old w w'/\w'.os=w.os/\w'.output=w.output:=by
 exact Z97
theorem Jw(K k n:Int)(b:Nat)(t:ByteArray)(ns:List ByteArray)(ks:List Dat)(na ka:Option Addr)(nc kc:Nat)(w:World)(h1:1<=K)(h2:K<=14):
  Calls prog 60 #[.int .i64 K,.agg #[.int .i64 k,.int .i64 n,.int .u64 b,.string t,.slice na ns.length nc,.slice ka ks.length kc]] w λe w'=>e=.returned (.bool (gu K n b t ns ks))/\Old w w'/\w'.os=w.os/\w'.output=w.output:=by
 have h:K=1\/K=2\/K=3\/K=4\/K=5\/K=6\/K=7\/K=8\/K=9\/K=10\/K=11\/K=12\/K=13\/K=14:=Kc
 rcases h with rfl|rfl|rfl|rfl|rfl|rfl|rfl|rfl|rfl|rfl|rfl|rfl|rfl|rfl
 ·exact bare_1 k n b t ns ks na ka nc kc w
 ·exact bare_2 k n b t ns ks na ka nc kc w
 ·exact bare_3 k n b t ns ks na ka nc kc w
 ·exact bare_4 k n b t ns ks na ka nc kc w
 ·exact bare_5 k n b t ns ks na ka nc kc w
 ·exact bare_6 k n b t ns ks na ka nc kc w
 ·exact bare_7 k n b t ns ks na ka nc kc w
 ·exact bare_8 k n b t ns ks na ka nc kc w
 ·exact bare_9 k n b t ns ks na ka nc kc w
 ·exact bare_10 k n b t ns ks na ka nc kc w
 ·exact bare_11 k n b t ns ks na ka nc kc w
 ·exact bare_12 k n b t ns ks na ka nc kc w
 ·exact bare_13 k n b t ns ks na ka nc kc w
 exact bare_14 k n b t ns ks na ka nc kc w
theorem FK{P:Program}(w:World)(src dst e:TypeId)(s:ByteArray)(hs:P.underlying src=some .string)(hd:P.underlying dst=some (.slice e))(he:P.underlying e=some (.int .u8)):
  ∃w2 cap,(convert src dst (.string s)).run P w=.ok (.slice (some ⟨w.heap.size,0,none⟩) s.size cap) w2/\Old w w2/\w2.os=w.os/\w2.output=w.output/\∀j (h:j<s.size),w2.cell? ⟨w.heap.size,j,none⟩=some (.int .u8 (s[j].toNat:Int)):=by
 refine ⟨_,_,run_bytes_of_string w src dst e s hs hd he,(Old.drew w).trans (Old.alloc w.drew _),rfl,rfl,λj h=>?_⟩
 have e1:∀(C:Array Value) (fz:Nat × Nat),(w.drew.alloc (.cells C e fz)).cell? ⟨w.heap.size,j,none⟩=C[j]?:=λC fz=>by
  have:(w.drew.alloc (.cells C e fz)).heap[w.heap.size]?=some (.cells C e fz):=by
   exact Z213
  unfold World.cell?
  rw [this]
  simp
 rw [e1,bytesRow_at s _ j h]
 rfl
def gG:List UInt8->Nat
 |[]=>0
 |b::r=>b.toNat+256*gG r
theorem DU(l:List UInt8)(j:Nat)(h:j<l.length):gG (l.take (j+1))=gG (l.take j)+l[j].toNat*256 ^ j:=by
 induction l generalizing j with
 |nil=>exact absurd h (Nat.not_lt_zero _)
 |cons b r ih=>
  cases j with
  |zero=>simp [gG]
  |succ j=>
   simp only [List.take_succ_cons,gG,List.getElem_cons_succ]
   have hj:j<r.length:=Ky
   have e:256*(r[j].toNat*256 ^ j)=r[j].toNat*256 ^ (j+1):=by rw [Nat.pow_succ,Nat.mul_comm (256 ^ j) 256,Nat.mul_left_comm]
   rw [ih j hj,Nat.mul_add,e,Nat.add_assoc]
theorem sJ(l:List UInt8):gG l<256 ^ l.length:=by
 induction l with
 |nil=>simp [gG]
 |cons b r ih=>
  simp only [gG,List.length_cons,Nat.pow_succ]
  have:=b.toNat_lt
  omega
theorem yV(v k:Nat)(h:v<256 ^ k):gG (low v k)=v:=by
 induction k generalizing v with
 |zero=>simp at h;simp [low,gG,h]
 |succ k ih=>
  rw [Nat.pow_succ] at h
  simp only [low,gG]
  rw [ih (v / 256) (Nat.div_lt_of_lt_mul (by rw [Nat.mul_comm];exact h)),UInt8.toNat_ofNat_of_lt' Lj]
  omega
theorem pow8(k:Nat):2 ^ (8*k)=256 ^ k:=by rw [Nat.pow_mul]
theorem shl8(y k:Nat)(hy:y*256 ^ k<18446744073709551616):IntKind.u64.wrap ((y:Int)*2 ^ (8*(k:Int)).toNat)=((y*256 ^ k:Nat):Int):=by
 have e:(8*(k:Int)).toNat=8*k:=Kc
 have e2:(y:Int)*2 ^ (8*k)=((y*256 ^ k:Nat):Int):=by rw [<-pow8];push_cast;rfl
 rw [e,e2,qh]
 omega
theorem or8(a y k:Nat)(ha:a<256 ^ k)(hy:a+y*256 ^ k<18446744073709551616):bits .or .u64 (a:Int) ((y*256 ^ k:Nat):Int)=((a+y*256 ^ k:Nat):Int):=by
 rw [u64_or_nat _ _ Kc Kc]
 have h:=Nat.shiftLeft_add_eq_or_of_lt (i:=8*k) (b:=a) (by rw [pow8];exact ha) y
 rw [Nat.shiftLeft_eq,pow8] at h
 rw [Nat.or_comm,<-h,Nat.add_comm]
theorem low_ok(rb:Nat)(t:ByteArray)(i k:Nat)(l:Int)(s r d m:Value)(w:World)(hW:WErr w s r d m)(hR:Rdr w rb t i l)(hi:i+k<=t.size)(hk:k<=8)(hz:t.size<=70368744177000):
  Calls prog 91 #[.pointer (some ⟨rb,0,none⟩),.int .i64 k] w λe w'=>e=.returned (.int .u64 (gG (t.extract i (i+k)).data.toList:Int))/\Rdr w' rb t ((i:Int)+k) l/\Upd rb w w':=by
 have hby:=su rb t i k l s r d m w hW hR hi hz
 have hsz:(t.extract i (i+k)).size=k:=KP
 have hrl:rb<w.heap.size:=NW _ _ hR.c0
 clear hz hi hW hR
 generalize t.extract i (i+k)=u at hby hsz ⊢
 subst hsz
 have HK:Hid (u.size<=8):=hk
 clear hk
 go_enter func91,ntmps91
 go_wp2_with (go_at_call 88;refine hby.mono ?_;rintro e w1 ⟨rfl,hR1,hu1⟩;obtain ⟨w2,cap,hcv,ho2,hos2,hou2,hcell⟩:=FK (P:=prog) w1 9 76 5 u underlying9 underlying76 underlying5)
 have HC:Hid (∀j (h:j<u.size),w2.cell? ⟨w1.heap.size,j,none⟩=some (.int .u8 (u[j].toNat:Int))):=hcell
 clear hcell hcv hby
 go_loop [5,13] (λacc cnt=>∃j:Nat,j<=u.size/\cnt=.int .i64 j/\acc=.int .u64 ((gG (u.data.toList.take j):Nat):Int)) (λ_ cnt=>u.size-(intOf cnt).toNat)
 case atStart=>exact ⟨0,NQ _,rfl,by simp [gG]⟩
 obtain ⟨j,hj,rfl,rfl⟩:=hrel
 by_cases hlt:j<u.size
 ·have hlen:u.data.toList.length=u.size:=Lx
  have hcell:=HC.out j hlt
  have ha:gG (u.data.toList.take j)<256 ^ j:=by
   have:=sJ (u.data.toList.take j)
   rwa [List.length_take,hlen,Nat.min_eq_left Kc] at this
  have htk:=DU u.data.toList j Kc
  have hel:u.data.toList[j]' Kc=u[j]:=by rw [Array.getElem_toList];rfl
  rw [hel] at htk
  have hx:u[j].toNat<256:=u[j].toNat_lt
  have hj8:j<=7:=by have:=HK.out;omega
  have hqb:gG (u.data.toList.take j)+u[j].toNat*256 ^ j<18446744073709551616:=by
   have h1:256 ^ (j+1)<=18446744073709551616:=NM (Nat.pow_le_pow_right Ke (by omega:j+1<=8)) Ke
   rw [Nat.pow_succ] at h1
   have h2:u[j].toNat*256 ^ j<=255*256 ^ j:=Nat.mul_le_mul_right _ Kc
   omega
  have HF:Hid (bits .or .u64 (gG (u.data.toList.take j):Int) (IntKind.u64.wrap (IntKind.u64.wrap (u[j].toNat:Int)*2 ^ (8*j)))=((gG (u.data.toList.take j)+u[j].toNat*256 ^ j:Nat):Int)):=by
   show _=_
   have e1:IntKind.u64.wrap (u[j].toNat:Int)=(u[j].toNat:Int):=by rw [qh];omega
   have e2:=shl8 u[j].toNat j Kc
   rw [show (8*(j:Int)).toNat=8*j by omega] at e2
   rw [e1,e2]
   exact or8 (gG (u.data.toList.take j)) u[j].toNat j ha hqb
  have HT:Hid (gG (u.data.toList.take (j+1))=gG (u.data.toList.take j)+u[j].toNat*256 ^ j):=htk
  have hw8:wrap64 (8*(j:Int))=8*(j:Int):=Kn
  have hs0:(0:Int)<=8*(j:Int):=Kc
  have hs1:8*(j:Int)<=64:=Kc
  clear htk hel hlen ha hqb hx
  generalize u[j]=c at *
  go_wp2
  go_round
  case rel=>exact ⟨j+1,by omega,by go_num,by rw [HT.out,<-HF.out]⟩
  simp only [intOf];omega
 obtain rfl:j=u.size:=Kc
 go_wp2
 go_ret
 refine ⟨?_,?_,?_⟩
 ·rw [List.take_of_length_le (by rw [Array.length_toList];exact NL _)];rfl
 ·exact hR1.old ho2
 exact hu1.trans (Upd.of_old ho2 hos2 hou2)
end
section
open Go Go.RowKit
variable{t:ByteArray}{i:Nat}{a:List UInt8}{g:Nat->Dat->Nat->Option Nat}
def Z148(h:p:=by
 subst b2 b4 b5 h
 obtain rfl:=iC b3
 rw [sK hh hm.1 hm.2]
 simp only [hof,if_true]):p:=h
def Z150(h:p:=by
 simp only [h2]
 rw [h3,aB,List.length_append,List.append_assoc,Nat.add_assoc]
 rfl):p:=h
def Z202(h:p:=by
 cases h
 rw [aB]
 show some (acc,i,l)=_
 simp):p:=h
def jM(g:Nat->Dat->Nat->Option Nat):List Nat->List Dat->Nat->Option Nat
 |[],_,l=>some l
 |id::r,d::ks,l=>match g id d l with
  |some l'=>jM g r ks l'
  |none=>none
 |_::_,[],_=>none
def gT(g:Nat->Dat->Nat->Option Nat)(n:TNode)(i:Int)(ns:List ByteArray)(ks:List Dat)(l:Nat):Option Nat:=
 if n.kind=9 then jM g (n.fields.map Prod.snd) ks l else gR g n i ns ks l
def eZ(tab:List TNode):Nat->Nat->Dat->Nat->Option Nat
 |0,_,_,_=>none
 |f+1,id,.mk k i b t ns ks,l=>match tab[id]? with
  |none=>none
  |some n=>if k=n.kind/\gu n.kind i b t ns ks=true/\ofB n i b t ks=true then gT (eZ tab f) n i ns ks l else none
abbrev DR:=Option (Dat × Nat × Nat)
def lT(t:ByteArray)(i:Nat):Option (Int × Nat):=
 match vrd t 10 0 i 0 with
 |.ok z j=>some (jR z,j)
 |_=>none
def tr? : TR->Option (ByteArray × Nat)
 |.ok u j=>some (u,j)
 |_=>none
def pre(t:ByteArray)(i k:Nat):Option ByteArray:=if i+k<=t.size then some (t.extract i (i+k)) else none
def rep{α:Type}(item:α->Nat->Nat->Option (α × Nat × Nat)):Nat->α->Nat->Nat->Option (α × Nat × Nat)
 |0,a,i,l=>some (a,i,l)
 |c+1,a,i,l=>match item a i l with
  |none=>none
  |some (a,i,l)=>rep item c a i l
def kG(t:ByteArray)(i:Nat):Option (Int × Option Int × Nat):=
 match lT t i with
 |none=>none
 |some (z,j)=>if z<0 then (match lT t j with
   |none=>none
   |some (s,j2)=>if 0<=s /\ -9223372036854775808<z then some (-z,some s,j2) else none)
  else some (z,none,j)
def eB{α:Type}(t:ByteArray)(item:α->Nat->Nat->Option (α × Nat × Nat)):Nat->α->Nat->Nat->Option (α × Nat × Nat)
 |0,_,_,_=>none
 |f+1,a,i,l=>match kG t i with
  |none=>none
  |some (c,s,j)=>if c=0 then some (a,j,l) else if c<=1000-(l:Int) then (match rep item c.toNat a j (l+c.toNat) with
    |none=>none
    |some (a,j2,l2)=>if s=none\/s=some ((j2:Int)-j) then eB t item f a j2 l2 else none)
   else none
def lC(g:Nat->Nat->Nat->DR)(id:Nat)(ks:List Dat)(i l:Nat):Option (List Dat × Nat × Nat):=
 match g id i l with
 |none=>none
 |some (d,i,l)=>some (ks++[d],i,l)
def jS(t:ByteArray)(g:Nat->Nat->Nat->DR)(id:Nat)(a:List ByteArray × List Dat)(i l:Nat):Option ((List ByteArray × List Dat) × Nat × Nat):=
 match tr? (urd t i) with
 |none=>none
 |some (s,j)=>if lG s a.1 then none else match g id j l with
  |none=>none
  |some (d,i,l)=>some ((a.1++[s],a.2++[d]),i,l)
def ov(g:Nat->Nat->Nat->DR):List Nat->List Dat->Nat->Nat->Option (List Dat × Nat × Nat)
 |[],ks,i,l=>some (ks,i,l)
 |id::r,ks,i,l=>match g id i l with
  |none=>none
  |some (d,i,l)=>ov g r (ks++[d]) i l
def iZ(t:ByteArray)(g:Nat->Nat->Nat->DR)(n:TNode)(i l:Nat):DR:=
 let o (k:Int) (m:Int) (b:Nat) (u:ByteArray) (ns:List ByteArray) (ks:List Dat) (j l:Nat):DR:=some (.mk k m b u ns ks,j,l)
 if n.kind=1 then o 1 0 0 ByteArray.empty [] [] i l
 else if n.kind=2 then (match pre t i 1 with
  |none=>none
  |some u=>if (u.data.toList.headD 0).toNat<2 then o 2 (u.data.toList.headD 0).toNat 0 ByteArray.empty [] [] (i+1) l else none)
 else if n.kind=3 then (match lT t i with
  |none=>none
  |some (z,j)=>if Ak z then o 3 z 0 ByteArray.empty [] [] j l else none)
 else if n.kind=4 then (match lT t i with
  |none=>none
  |some (z,j)=>o 4 z 0 ByteArray.empty [] [] j l)
 else if n.kind=5 then (match pre t i 4 with
  |none=>none
  |some u=>o 5 0 (gG u.data.toList) ByteArray.empty [] [] (i+4) l)
 else if n.kind=6 then (match pre t i 8 with
  |none=>none
  |some u=>o 6 0 (gG u.data.toList) ByteArray.empty [] [] (i+8) l)
 else if n.kind=7 then (match tr? (lrd t i) with
  |none=>none
  |some (u,j)=>o 7 0 0 u [] [] j l)
 else if n.kind=8 then (match tr? (urd t i) with
  |none=>none
  |some (u,j)=>o 8 0 0 u [] [] j l)
 else if n.kind=14 then (match pre t i n.size with
  |none=>none
  |some u=>o 14 0 0 u [] [] (i+n.size) l)
 else if n.kind=10 then (match lT t i with
  |none=>none
  |some (z,j)=>if gq z n.symbols.length then o 10 z 0 ByteArray.empty [] [] j l else none)
 else if n.kind=9 then (match ov g (n.fields.map Prod.snd) [] i l with
  |none=>none
  |some (ks,j,l)=>o 9 0 0 ByteArray.empty [] ks j l)
 else if n.kind=11 then (match eB t (lC g n.item) 1001 [] i l with
  |none=>none
  |some (ks,j,l)=>o 11 0 0 ByteArray.empty [] ks j l)
 else if n.kind=12 then (match eB t (jS t g n.item) 1001 ([],[]) i l with
  |none=>none
  |some (a,j,l)=>o 12 0 0 ByteArray.empty a.1 a.2 j l)
 else if n.kind=13 then (match lT t i with
  |none=>none
  |some (z,j)=>if gq z n.branches.length then (match g (n.branches.getD z.toNat 0) j l with
    |none=>none
    |some (d,j,l)=>o 13 z 0 ByteArray.empty [] [d] j l) else none)
 else none
def jt(t:ByteArray)(tab:List TNode):Nat->Nat->Nat->Nat->DR
 |0,_,_,_=>none
 |f+1,id,i,l=>match tab[id]? with
  |none=>none
  |some n=>iZ t (jt t tab f) n i l
def Has(t:ByteArray)(i:Nat)(l:List UInt8):Prop:=∃r,t.data.toList.drop i=l++r
theorem Has.left{b:List UInt8}(h:Has t i (a++b)):Has t i a:=by
 obtain ⟨r,h⟩:=h
 exact ⟨b++r,by rw [h,List.append_assoc]⟩
theorem Has.right{b:List UInt8}(h:Has t i (a++b)):Has t (i+a.length) b:=by
 obtain ⟨r,h⟩:=h
 refine ⟨r,?_⟩
 rw [<-List.drop_drop,h,List.append_assoc,List.drop_left]
theorem Has.len(h:Has t i a)(ha:a≠[]):i+a.length<=t.size:=by
 obtain ⟨r,h⟩:=h
 have e:=congrArg List.length h
 rw [List.length_drop,List.length_append] at e
 have h0:0<a.length:=List.length_pos_iff.2 ha
 have:t.data.toList.length=t.size:=Lx
 omega
theorem Has.le(h:Has t i a)(hi:i<=t.size):i+a.length<=t.size:=by
 by_cases ha:a=[]
 ·rw [ha];simpa using hi
 exact h.len ha
theorem Has.head{b:UInt8}{r:List UInt8}(h:Has t i (b::r)):∃hi:i<t.size,t[i]=b:=by
 have hl:=h.len Kh
 simp at hl
 have hi:i<t.size:=Kc
 obtain ⟨s,h⟩:=h
 refine ⟨hi,?_⟩
 have e:(t.data.toList.drop i)[0]?=some b:=by rw [h];rfl
 rw [List.getElem?_drop,Nat.add_zero] at e
 have hi':i<t.data.toList.length:=by rw [Array.length_toList];exact hi
 rw [NP hi'] at e
 have e2:=Option.some.inj e
 rw [<-e2]
 simp [ByteArray.getElem_eq_getElem_data]
theorem Has.ext(h:Has t i a)(hi:i<=t.size):i+a.length<=t.size/\(t.extract i (i+a.length)).data.toList=a:=by
 refine ⟨h.le hi,?_⟩
 obtain ⟨r,h⟩:=h
 have:(t.extract i (i+a.length)).data.toList=(t.data.toList.drop i).take a.length:=by
  simp [ByteArray.data_extract,List.take_drop]
 rw [this,h,List.take_left]
theorem Cg(t:ByteArray):∀(f k i z a:Nat),Has t i (eQ z)->k+f=10->z*128 ^ k<18446744073709551616->0<f->vrd t f k i a=.ok (a+z*128 ^ k) (i+(eQ z).length):=by
 intro f
 induction f with
 |zero=>intro k i z a _ _ _ h;omega
 |succ f ih=>
  intro k i z a hh hk hz _
  by_cases hs:z<128
  ·rw [kV z hs] at hh ⊢
   obtain ⟨hi,hb⟩:=hh.head
   have hbt:t[i].toNat=z:=by rw [hb,UInt8.toNat_ofNat_of_lt' Lj]
   rw [vrd,dif_pos hi,hbt,if_pos,if_pos hs]
   ·have:z % 128=z:=Nat.mod_eq_of_lt hs
    rw [this]
    rfl
   by_cases h9:k<9
   ·exact .inl h9
   right
   have hk9:k=9:=Kc
   subst hk9
   omega
  have hg:128<=z:=Kc
  rw [rO z hg] at hh ⊢
  obtain ⟨hi,hb⟩:=hh.head
  have hbt:t[i].toNat=z % 128+128:=by rw [hb,UInt8.toNat_ofNat_of_lt' Lj]
  have hk9:k<9:=by
   by_cases h9:k<9
   ·exact h9
   exfalso
   have:k=9:=Kc
   subst this
   omega
  have hh2:Has t (i+1) (eQ (z / 128)):=by
   have:=Has.right (a:=[UInt8.ofNat (z % 128+128)]) (b:=eQ (z / 128)) hh
   exact this
  have hp:z / 128*128 ^ (k+1)<=z*128 ^ k:=by
   rw [Nat.pow_succ,Nat.mul_comm (128 ^ k) 128,<-Nat.mul_assoc]
   exact Nat.mul_le_mul_right _ (Nat.div_mul_le_self z 128)
  rw [vrd,dif_pos hi,hbt,if_pos (.inl hk9),if_neg Kc,ih (k+1) (i+1) (z / 128) _ hh2 Kc (Nat.lt_of_le_of_lt hp hz) Kc]
  have e1:(z % 128+128) % 128=z % 128:=Kc
  have e2:a+z % 128*128 ^ k+z / 128*128 ^ (k+1)=a+z*128 ^ k:=by
   have:z % 128*128 ^ k+z / 128*128 ^ (k+1)=z*128 ^ k:=by
    rw [Nat.pow_succ,Nat.mul_comm (128 ^ k) 128,<-Nat.mul_assoc,<-Nat.add_mul]
    congr 1
    omega
   omega
  rw [e1,e2,List.length_cons]
  congr 1
  omega
theorem sK{n:Int}(h:Has t i (eQ (zig n)))(h0 : -9223372036854775808<=n)(h1:n<=9223372036854775807):lT t i=some (n,i+(eQ (zig n)).length):=by
 unfold lT
 rw [Cg t 10 0 i (zig n) 0 h rfl (by have:=jT n h0 h1;omega) Kc]
 show some (jR (0+zig n*128 ^ 0),_)=_
 rw [Nat.pow_zero,Nat.mul_one,NV,zF]
mutual
def Dat.rng:Dat->Prop
 |.mk _ n b t ns ks=>(-9223372036854775808<=n/\n<=9223372036854775807)/\b<18446744073709551616/\t.size<=70368744177000/\(∀s∈ns,s.size<=70368744177000)/\aS ks
def aS:List Dat->Prop
 |[]=>True
 |d::r=>d.rng/\aS r
end
theorem iC(h:t.toList=[]):t=ByteArray.empty:=by
 rw [ByteArray.toList_eq] at h
 exact jP (by rw [h];rfl)
theorem wH(h:Has t i a)(hi:i<=t.size):∃u,pre t i a.length=some u/\u.data.toList=a:=by
 obtain ⟨h1,h2⟩:=h.ext hi
 exact ⟨_,by unfold pre;rw [if_pos h1],h2⟩
theorem Er{u:ByteArray}(h:Has t i (eQ (zig u.size)++u.data.toList))(hu:u.size<=70368744177000)(hi:i<=t.size):lrd t i=.ok u (i+(eQ (zig u.size)++u.data.toList).length):=by
 have h1:=Cg t 10 0 i (zig u.size) 0 h.left rfl (by have:=jT (u.size:Int) Kc Kc;omega) Kc
 rw [Nat.pow_zero,Nat.mul_one,NV] at h1
 have hle:=h.left.le hi
 obtain ⟨h2,h3⟩:=h.right.ext hle
 have hul:u.data.toList.length=u.size:=Lx
 unfold lrd
 rw [h1]
 show (if jR (zig u.size)<0 then _ else _)=_
 rw [zF,if_neg Kc,if_neg Kc]
 rw [hul] at h2 h3
 have e:(u.size:Int).toNat=u.size:=Kc
 rw [e,List.length_append,hul,Nat.add_assoc]
 congr 1
 exact jP (by rw [<-Nat.add_assoc];exact h3)
theorem EV{u:ByteArray}(h:Has t i (eQ (zig u.size)++u.data.toList))(hu:u.size<=70368744177000)(hi:i<=t.size)(hv:Lib.validD u.data.toList=true):urd t i=.ok u (i+(eQ (zig u.size)++u.data.toList).length):=by
 unfold urd
 rw [Er h hu hi]
 show (if Lib.validD u.data.toList=true then _ else _)=_
 rw [if_pos hv]
def AP(t:ByteArray)(g:Nat->Dat->Nat->Option Nat)(g':Nat->Nat->Nat->DR):Prop:=∀id d i l l',g id d l=some l'->d.rng->Has t i d.enc->i<=t.size->g' id i l=some (d,i+d.enc.length,l')
theorem Ey{g':Nat->Nat->Nat->DR}(hb:AP t g g')(id:Nat):∀(ks acc:List Dat) (i l l':Nat),eu (g id) ks l=some l'->aS ks->Has t i (aB ks)->i<=t.size->rep (lC g' id) ks.length acc i l=some (acc++ks,i+(aB ks).length,l')
 |[],acc,i,l,l',h,_,_,_=>by
  rw [eu] at h
  exact Z202
 |d::r,acc,i,l,l',h,hr,hh,hi=>by
  rw [eu] at h
  rw [aS] at hr
  rw [aB] at hh
  cases h1:g id d l with
  |none=>exact Z238
  |some l1=>
   simp only [h1] at h
   have h2:=hb id d i l l1 h1 hr.1 hh.left hi
   have hle:=hh.left.le hi
   have h3:=Ey hb id r (acc++[d]) (i+d.enc.length) l1 l' h hr.2 hh.right hle
   rw [List.length_cons,rep]
   unfold lC at h3 ⊢
   exact Z150
theorem Hl(x y:ByteArray)(l:List ByteArray):lG x (l++[y])=(lG x l||decide (x=y)):=by
 unfold lG
 rw [List.any_append]
 simp
theorem uF(x y:ByteArray)(l:List ByteArray):lG x (y::l)=(decide (x=y)||lG x l):=by
 unfold lG
 rw [List.any_cons]
theorem EP{g':Nat->Nat->Nat->DR}(hb:AP t g g')(id:Nat):∀(ks:List Dat) (ns seen an:List ByteArray) (ak:List Dat) (i l l':Nat),eu (g id) ks l=some l'->aS ks->ns.length=ks.length->(∀s∈ns,s.size<=70368744177000)->iy seen ns=true->(∀x,lG x an=lG x seen)->Has t i (aG ns ks)->i<=t.size->rep (jS t g' id) ks.length (an,ak) i l=some ((an++ns,ak++ks),i+(aG ns ks).length,l')
 |[],[],seen,an,ak,i,l,l',h,_,_,_,_,_,_,_=>by
  rw [eu] at h
  cases h
  show some ((an,ak),i,l)=_
  rw [aG]
  ·simp
  simp
 |d::r,s::ns,seen,an,ak,i,l,l',h,hr,hn,hz,hk,he,hh,hi=>by
  rw [eu] at h
  rw [aS] at hr
  rw [aG] at hh
  rw [iy] at hk
  by_cases hin:lG s seen=true
  ·rw [if_pos hin] at hk;cases hk
  rw [if_neg hin] at hk
  by_cases hv:Lib.validD s.data.toList=true
  ·rw [if_pos hv] at hk
   cases h1:g id d l with
   |none=>exact Z238
   |some l1=>
    simp only [h1] at h
    have hl1:=hh.left.left.le hi
    have hu:=EV hh.left.left (hz s List.mem_cons_self) hi hv
    have h2:=hb id d _ l l1 h1 hr.1 hh.left.right hl1
    have hl2:=hh.left.le hi
    have h3:=EP hb id r ns (s::seen) (an++[s]) (ak++[d]) _ l1 l' h hr.2 (by simpa using hn) (λx hx=>hz x (List.mem_cons_of_mem _ hx)) hk (λx=>by rw [Hl,uF,he x,Bool.or_comm]) hh.right hl2
    rw [List.length_cons,rep]
    have hm:jS t g' id (an,ak) i l=some ((an++[s],ak++[d]),i+((eQ (zig s.size)++s.data.toList)++d.enc).length,l1):=by
     unfold jS
     rw [hu]
     show (if lG s an=true then none else _)=_
     rw [he s,if_neg hin]
     rw [h2]
     simp only [List.length_append,Nat.add_assoc]
    rw [hm]
    show rep (jS t g' id) r.length _ _ _=_
    rw [h3,aG]
    simp only [List.length_append,List.append_assoc,List.cons_append,List.nil_append]
    congr 3
    omega
  rw [if_neg hv] at hk;cases hk
 |[],_::_,_,_,_,_,_,_,_,_,hn,_,_,_,_,_=>by simp at hn
 |_::_,[],_,_,_,_,_,_,_,_,hn,_,_,_,_,_=>by simp at hn
theorem zB{g':Nat->Nat->Nat->DR}(hb:AP t g g'):∀(ids:List Nat) (ks acc:List Dat) (i l l':Nat),jM g ids ks l=some l'->ks.length=ids.length->aS ks->Has t i (aB ks)->i<=t.size->ov g' ids acc i l=some (acc++ks,i+(aB ks).length,l')
 |[],[],acc,i,l,l',h,_,_,_,_=>by
  rw [jM] at h
  exact Z202
 |id::ids,d::r,acc,i,l,l',h,hn,hr,hh,hi=>by
  rw [jM] at h
  rw [aS] at hr
  rw [aB] at hh
  cases h1:g id d l with
  |none=>exact Z238
  |some l1=>
   simp only [h1] at h
   have h2:=hb id d i l l1 h1 hr.1 hh.left hi
   have hle:=hh.left.le hi
   have h3:=zB hb ids r (acc++[d]) (i+d.enc.length) l1 l' h (by simpa using hn) hr.2 hh.right hle
   rw [ov]
   exact Z150
 |[],_::_,_,_,_,_,_,hn,_,_,_=>by simp at hn
 |_::_,[],_,_,_,_,_,hn,_,_,_=>by simp at hn
theorem zk{t:ByteArray}{i c:Nat}(h:Has t i (eQ (zig (c:Int))))(hc:c<=70368744177000):kG t i=some ((c:Int),none,i+(eQ (zig (c:Int))).length):=by
 unfold kG
 rw [sK h Kc Kc]
 show (if (c:Int)<0 then _ else _)=_
 rw [if_neg Kc]
theorem rJ{α:Type}(item:α->Nat->Nat->Option (α × Nat × Nat))(f:Nat)(a:α)(i l:Nat)(h:Has t i (eQ (zig 0))):eB t item (f+1) a i l=some (a,i+(eQ (zig 0)).length,l):=by
 rw [eB,zk (c:=0) h Kc]
 show (if ((0:Nat):Int)=0 then _ else _)=_
 rw [if_pos (by rfl:((0:Nat):Int)=0)]
 rfl
theorem yh{α:Type}{t:ByteArray}(item:α->Nat->Nat->Option (α × Nat × Nat))(f c:Nat)(a a':α)(i l l':Nat)(e:List UInt8)(hc:c≠0)(hl:l+c<=1000)(h:Has t i (eQ (zig (c:Int))++e++eQ (zig 0)))(hr:rep item c a (i+(eQ (zig (c:Int))).length) (l+c)=some (a',i+(eQ (zig (c:Int))).length+e.length,l')):eB t item (f+2) a i l=some (a',i+(eQ (zig (c:Int))++e++eQ (zig 0)).length,l'):=by
 rw [eB,zk h.left.left Kc]
 show (if (c:Int)=0 then _ else _)=_
 rw [if_neg Kc,if_pos Kc]
 have ec:(c:Int).toNat=c:=Kc
 rw [ec,hr]
 show (if none=none\/_ then _ else _)=_
 rw [if_pos (.inl rfl)]
 have h2:=h.right
 rw [List.length_append,<-Nat.add_assoc] at h2
 rw [rJ item f a' _ l' h2]
 simp only [List.length_append,Nat.add_assoc]
theorem rM{k:Int}(h1:1<=k)(h2:k<=14):k=1\/k=2\/k=3\/k=4\/k=5\/k=6\/k=7\/k=8\/k=9\/k=10\/k=11\/k=12\/k=13\/k=14:=Kc
theorem EO(t:ByteArray)(tab:List TNode)(hk:∀n∈tab,1<=n.kind/\n.kind<=14):∀f,AP t (eZ tab f) (jt t tab f):=by
 intro f
 induction f with
 |zero=>intro id d i l l' h;rw [eZ] at h;cases h
 |succ f ih=>
  intro id d i l l' h hr hh hi
  obtain ⟨k,m,b,u,ns,ks⟩:=d
  rw [eZ] at h
  rw [jt]
  cases hn:tab[id]? with
  |none=>exact Z241
  |some n=>
   simp only [hn] at h ⊢
   obtain ⟨hk1,hk2⟩:=hk n (List.mem_of_getElem? hn)
   by_cases hc:k=n.kind/\gu n.kind m b u ns ks=true/\ofB n m b u ks=true
   ·rw [if_pos hc] at h
    obtain ⟨rfl,hbare,hof⟩:=hc
    rw [Dat.rng] at hr
    obtain ⟨hm,hbb,hu,hns,hks⟩:=hr
    unfold gu at hbare
    simp only [Bool.and_eq_true,Bool.or_eq_true,decide_eq_true_eq] at hbare
    obtain ⟨⟨⟨⟨b1,b2⟩,b3⟩,b4⟩,b5⟩:=hbare
    unfold iZ
    rcases rM hk1 hk2 with e|e|e|e|e|e|e|e|e|e|e|e|e|e
    all_goals (unfold gT gR at h;unfold ofB at hof;rw [e] at b1 b2 b3 b4 b5 hh h hof ⊢;rw [Dat.enc] at hh ⊢;simp at b1 b2 b3 b4 b5 hh h hof ⊢)
    ·subst b1 b2 b4 b5 h
     exact ⟨⟨rfl,rfl,(iC b3).symm,rfl,rfl⟩,rfl⟩
    ·subst b2 b4 b5 h
     obtain rfl:=iC b3
     obtain ⟨v,hp,hv⟩:=wH hh hi
     have hp':pre t i 1=some v:=hp
     unfold gq at hof
     simp at hof
     have e1:(UInt8.ofNat (m % 256).toNat).toNat=m.toNat:=by
      rw [UInt8.toNat_ofNat_of_lt' Lj];omega
     rw [hp']
     simp only [hv,List.head?_cons,Option.getD_some,e1]
     rw [if_pos Kc]
     have e2:((m.toNat:Nat):Int)=m:=Kc
     rw [e2]
    ·exact Z148
    ·subst b2 b4 b5 h
     obtain rfl:=iC b3
     rw [sK hh hm.1 hm.2]
    ·subst b1 b4 b5 h
     obtain rfl:=iC b3
     obtain ⟨v,hp,hv⟩:=wH hh hi
     rw [kr] at hp
     rw [hp]
     simp only [hv,kr,yV b 4 (by show b<4294967296;omega)]
    ·subst b1 b4 b5 h
     obtain rfl:=iC b3
     obtain ⟨v,hp,hv⟩:=wH hh hi
     rw [kr] at hp
     rw [hp]
     simp only [hv,kr,yV b 8 (by show b<18446744073709551616;omega)]
    ·subst b1 b2 b4 b5 h
     rw [Er hh hu hi]
     simp [tr?]
    ·subst b1 b2 b4 b5 h
     rw [EV hh hu hi hof]
     simp [tr?]
    ·subst b1 b2 b4
     obtain rfl:=iC b3
     rw [zB ih _ ks [] i l l' h (by rw [List.length_map];exact hof) hks hh hi]
     simp
    ·exact Z148
    ·subst b1 b2 b4
     obtain rfl:=iC b3
     unfold gL at h
     by_cases hbig:1000<l+ks.length
     ·rw [if_pos hbig] at h;cases h
     rw [if_neg hbig] at h
     by_cases hks0:ks=[]
     ·subst hks0
      rw [eu] at h
      cases h
      have hh':Has t i (eQ (zig 0)):=by simpa [aB] using hh
      rw [rJ _ 1000 [] i l hh']
      simp [aB]
     rw [if_neg hks0] at hh ⊢
     have hh':Has t i (eQ (zig (ks.length:Int))++aB ks++eQ (zig 0)):=by rw [List.append_assoc];exact hh
     have hrp:=Ey ih n.item ks [] _ _ l' h hks hh'.left.right (hh'.left.left.le hi)
     rw [yh _ 999 ks.length [] ([]++ks) i l l' (aB ks) (λe=>hks0 (NT e)) Kc hh' hrp]
     simp
    ·subst b1 b2
     obtain rfl:=iC b3
     obtain ⟨hlen,h⟩:=h
     cases hit:gL (eZ tab f) n.item ks l with
     |none=>rw [hit] at h;cases h
     |some l1=>
      simp only [hit] at h
      by_cases hkb:kQ ns=true
      ·rw [if_pos hkb] at h
       cases h
       unfold gL at hit
       unfold kQ at hkb
       by_cases hbig:1000<l+ks.length
       ·rw [if_pos hbig] at hit;cases hit
       rw [if_neg hbig] at hit
       by_cases hks0:ks=[]
       ·subst hks0
        have hns0:ns=[]:=NT hlen
        subst hns0
        rw [eu] at hit
        cases hit
        have hh':Has t i (eQ (zig 0)):=by simpa [aG] using hh
        rw [rJ _ 1000 ([],[]) i l hh']
        simp [aG]
       rw [if_neg hks0] at hh ⊢
       have hh':Has t i (eQ (zig (ks.length:Int))++aG ns ks++eQ (zig 0)):=by rw [List.append_assoc];exact hh
       have hrp:=EP ih n.item ks ns [] [] [] _ _ _ hit hks hlen hns hkb (λ_=>rfl) hh'.left.right (hh'.left.left.le hi)
       rw [yh _ 999 ks.length ([],[]) ([]++ns,[]++ks) i l _ (aG ns ks) (λe=>hks0 (NT e)) Kc hh' hrp]
       simp
      rw [if_neg hkb] at h;cases h
    ·subst b2 b4
     obtain rfl:=iC b3
     obtain ⟨hpl,hk1'⟩:=hof
     match ks,hk1' with
     |[d],_=>
      have hp2:0<=m/\m<n.branches.length:=by unfold gq at hpl;simpa using hpl
      have hlt:m.toNat<n.branches.length:=Kc
      rw [NP hlt] at h
      rw [sK hh.left hm.1 hm.2]
      simp only [hpl,if_true,List.getElem?_eq_getElem hlt,Option.getD_some]
      rw [aB,aB,List.append_nil] at hh ⊢
      rw [aS] at hks
      rw [ih _ d _ l l' h hks.1 hh.right (hh.left.le hi)]
      simp [Nat.add_assoc]
    subst b1 b2 b4 b5 h
    obtain ⟨v,hp,hv⟩:=wH hh hi
    rw [Array.length_toList] at hp
    have hp':pre t i n.size=some v:=by rw [<-hof];exact hp
    rw [hp']
    have:v=u:=jP hv
    subst this
    rw [hof]
   rw [if_neg hc] at h;cases h
end
end Go.Proofs.YtceinlbeeahkeaaGreatDoor
