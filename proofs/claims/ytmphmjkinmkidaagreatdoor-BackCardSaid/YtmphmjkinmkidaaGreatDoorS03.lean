import Derived.Maps.Own
import Derived.Maps.OwnSet
import Derived.Maps.Views
import Derived.WalkLawsBesides
import Derived.Laws.Cover4
import Derived.Test.YtmphmjkinmkidaaGreatDoorS02
set_option linter.defProp false
open Go.Proofs.Tryz
set_option maxRecDepth 8000
set_option maxHeartbeats 4000000
namespace Go.Proofs.YtmphmjkinmkidaaGreatDoor
variable{p:Prop}
section
open Go Go.RowKit Go.Extern.Stop Go.Stop Go.Extern Go.Maps Go.WideMaps
variable{ok ok':Nat->Prop}{w w':World}{a:Option Addr}{ns:List ByteArray}
def Z222(h:p:=by
 exact ⟨_,_,_,_,_,_,_,_,_,h⟩):p:=h
structure Keep(ok:Nat->Prop)(w w':World):Prop where
 size:w.heap.size<=w'.heap.size
 old:∀i,ok i->i<w.heap.size->w'.heap[i]?=w.heap[i]?
theorem Keep.refl(ok:Nat->Prop)(w:World):Keep ok w w:=⟨NL _,λ_ _ _=>rfl⟩
theorem Keep.cell(h:Keep ok w w'){b o:Nat}(hk:ok b)(hb:b<w.heap.size):w'.cell? ⟨b,o,none⟩=w.cell? ⟨b,o,none⟩:=NY (a:=⟨b,o,none⟩) (h.old b hk hb)
theorem Tryz.keyLaw:Keyed prog 9:=string_keyed underlying9
theorem Tryz.zeroInt(w:World):(zeroValue 3).run prog w=.ok (.int .i64 0) w:=Kf
theorem qH(s:ByteArray)(h:s.size<=70368744177000):keyOf prog 9 (.string s)=some (.string s.data.toList):=keyOf_string_mk underlying9 Ki
theorem jP{a b:ByteArray}(h:a.data.toList=b.data.toList):a=b:=by
 cases a
 cases b
 simp at h
 rw [h]
def kS(w:World)(m:Nat)(ns:List ByteArray):Prop:=∃D:DataW Unit,w.ownsMap prog 9 (plainElem prog 3) m ns.length D/\IsMap D/\(∀s:ByteArray,Maps.has D (.string s.data.toList)=dU s ns) /\
 ∀i (h:i<ns.length),D.atKey (.string (ns[i]).data.toList) (.lit (.int .i64 0))=.lit (.int .i64 i)
theorem kS.carry{m:Nat}(h:kS w m ns)(hb:w'.heap[m]?=w.heap[m]?):kS w' m ns:=by
 obtain ⟨D,⟨es,clock,h0,F,hs,hD⟩,h2,h3,h4⟩:=h
 exact ⟨D,⟨es,clock,hb.trans h0,F,hs,hD⟩,h2,h3,h4⟩
theorem kS.lt{m:Nat}(h:kS w m ns):m<w.heap.size:=by
 obtain ⟨D,hown,_⟩:=h
 exact hown.lt
def iK(ok:Nat->Prop)(w:World)(a:Option Addr)(ns:List ByteArray):Prop:=
 ns=[]\/∃b o,a=some ⟨b,o,none⟩/\ok b/\b<w.heap.size/\∀i (h:i<ns.length),w.cell? ⟨b,o+i,none⟩=some (.string ns[i])
theorem iK.carry(h:iK ok w a ns)(k:Keep ok w w'):iK ok w' a ns:=by
 rcases h with h|⟨b,o,h1,h2,h3,h4⟩
 ·exact .inl h
 exact .inr ⟨b,o,h1,h2,NK h3 k.size,λi hi=>(k.cell h2 h3).trans (h4 i hi)⟩
theorem iK.mono(h:iK ok w a ns)(k:∀b,ok b->b<w.heap.size->ok' b):iK ok' w a ns:=by
 rcases h with h|⟨b,o,h1,h2,h3,h4⟩
 ·exact .inl h
 exact .inr ⟨b,o,h1,k b h2 h3,h3,h4⟩
def jc(k n:Int)(t:ByteArray)(a na:Option Addr)(l c nl nc:Nat)(m:Option Nat):List Value:=[.int .i64 k,.int .i64 n,.string t,.slice a l c,.slice na nl nc,.map m]
mutual
def J.lies(ok:Nat->Prop)(w:World):J->List Value->Prop
 |.null,cs=>cs=jc 1 0 ByteArray.empty none none 0 0 0 0 none
 |.bool b,cs=>cs=jc 2 (if b then 1 else 0) ByteArray.empty none none 0 0 0 0 none
 |.num n,cs=>cs=jc 3 n ByteArray.empty none none 0 0 0 0 none /\ -1000000000000000000<n/\n<1000000000000000000
 |.str s,cs=>cs=jc 4 0 s none none 0 0 0 0 none/\s.size<=65536
 |.arr l,cs=>∃a c,cs=jc 5 0 ByteArray.empty a none l.length c 0 0 none/\l.length<=65536/\J.lieAll ok w a 0 l
 |.obj ns vs,cs=>∃a c na nc m,cs=jc 6 0 ByteArray.empty a na vs.length c ns.length nc (some m)/\ns.length=vs.length/\vs.length<=65536/\(∀s∈ns,s.size<=65536)/\ok m/\kS w m ns/\iK ok w na ns/\J.lieAll ok w a 0 vs
def J.lieAll(ok:Nat->Prop)(w:World)(a:Option Addr):Nat->List J->Prop
 |_,[]=>True
 |i,d::r=>(∃b o cs,a=some ⟨b,o,none⟩/\ok b/\b<w.heap.size/\cs.length=6/\(∀f,f<6->w.cell? ⟨b,o+i*6+f,none⟩=cs[f]?)/\d.lies ok w cs)/\J.lieAll ok w a (i+1) r
end
mutual
theorem J.lies_carry(k:Keep ok w w'):∀(j:J) (cs:List Value),j.lies ok w cs->j.lies ok w' cs
 |.null,cs,h=>by rw [J.lies] at h ⊢;exact h
 |.bool b,cs,h=>by rw [J.lies] at h ⊢;exact h
 |.num n,cs,h=>by rw [J.lies] at h ⊢;exact h
 |.str s,cs,h=>by rw [J.lies] at h ⊢;exact h
 |.arr l,cs,h=>by
  rw [J.lies] at h ⊢
  obtain ⟨a,c,h1,h2,h3⟩:=h
  exact ⟨a,c,h1,h2,J.lieAll_carry k a 0 l h3⟩
 |.obj ns vs,cs,h=>by
  rw [J.lies] at h ⊢
  obtain ⟨a,c,na,nc,m,h1,h2,h3,h4,h5,h6,h7,h8⟩:=h
  exact ⟨a,c,na,nc,m,h1,h2,h3,h4,h5,h6.carry (k.old m h5 h6.lt),h7.carry k,J.lieAll_carry k a 0 vs h8⟩
theorem J.lieAll_carry(k:Keep ok w w')(a:Option Addr):∀(i:Nat) (l:List J),J.lieAll ok w a i l->J.lieAll ok w' a i l
 |_,[],_=>by rw [J.lieAll];trivial
 |i,d::r,h=>by
  rw [J.lieAll] at h ⊢
  obtain ⟨⟨b,o,cs,h1,h2,h3,h4,h5,h6⟩,hr⟩:=h
  exact ⟨⟨b,o,cs,h1,h2,NK h3 k.size,h4,λf hf=>(k.cell h2 h3).trans (h5 f hf),J.lies_carry k d cs h6⟩,J.lieAll_carry k a (i+1) r hr⟩
end
mutual
theorem bP(k:∀b,ok b->b<w.heap.size->ok' b):∀(j:J) (cs:List Value),j.lies ok w cs->j.lies ok' w cs
 |.null,cs,h=>by rw [J.lies] at h ⊢;exact h
 |.bool b,cs,h=>by rw [J.lies] at h ⊢;exact h
 |.num n,cs,h=>by rw [J.lies] at h ⊢;exact h
 |.str s,cs,h=>by rw [J.lies] at h ⊢;exact h
 |.arr l,cs,h=>by
  rw [J.lies] at h ⊢
  obtain ⟨a,c,h1,h2,h3⟩:=h
  exact ⟨a,c,h1,h2,bJ k a 0 l h3⟩
 |.obj ns vs,cs,h=>by
  rw [J.lies] at h ⊢
  obtain ⟨a,c,na,nc,m,h1,h2,h3,h4,h5,h6,h7,h8⟩:=h
  exact ⟨a,c,na,nc,m,h1,h2,h3,h4,k m h5 h6.lt,h6,h7.mono k,bJ k a 0 vs h8⟩
theorem bJ(k:∀b,ok b->b<w.heap.size->ok' b)(a:Option Addr):∀(i:Nat) (l:List J),J.lieAll ok w a i l->J.lieAll ok' w a i l
 |_,[],_=>by rw [J.lieAll];trivial
 |i,d::r,h=>by
  rw [J.lieAll] at h ⊢
  obtain ⟨⟨b,o,cs,h1,h2,h3,h4,h5,h6⟩,hr⟩:=h
  exact ⟨⟨b,o,cs,h1,k b h2 h3,h3,h4,h5,bP k d cs h6⟩,bJ k a (i+1) r hr⟩
end
theorem J.lieAll_get : ∀(ks:List J) (i:Nat),J.lieAll ok w a i ks->∀j (h:j<ks.length),∃b o cs,a=some ⟨b,o,none⟩/\ok b/\b<w.heap.size/\cs.length=6/\(∀f,f<6->w.cell? ⟨b,o+(i+j)*6+f,none⟩=cs[f]?)/\ks[j].lies ok w cs
 |[],_,_,j,h=>absurd h (Nat.not_lt_zero _)
 |d::r,i,hl,0,h=>by
  rw [J.lieAll] at hl
  obtain ⟨⟨b,o,cs,h1,h2,h3,h4,h5,h6⟩,_⟩:=hl
  exact ⟨b,o,cs,h1,h2,h3,h4,h5,h6⟩
 |d::r,i,hl,j+1,h=>by
  rw [J.lieAll] at hl
  obtain ⟨b,o,cs,h1,h2,h3,h4,h5,h6⟩:=J.lieAll_get r (i+1) hl.2 j Ky
  refine ⟨b,o,cs,h1,h2,h3,h4,λf hf=>?_,h6⟩
  have e:i+1+j=i+(j+1):=Kc
  rw [<-e]
  exact h5 f hf
def J.kindI:J->Int
 |.null=>1
 |.bool _=>2
 |.num _=>3
 |.str _=>4
 |.arr _=>5
 |.obj _ _=>6
theorem J.lies_cells{j:J}{cs:List Value}(h:j.lies ok w cs):∃n t a na l c nl nc m,cs=jc j.kindI n t a na l c nl nc m:=by
 cases j <;> rw [J.lies] at h
 ·exact Z222
 ·exact Z222
 ·exact ⟨_,_,_,_,_,_,_,_,_,h.1⟩
 ·exact ⟨_,_,_,_,_,_,_,_,_,h.1⟩
 ·obtain ⟨a,c,h,_⟩:=h
  exact Z222
 obtain ⟨a,c,na,nc,m,h,_⟩:=h
 exact Z222
theorem bO{j:J}{cs:List Value}(h:j.lies ok w cs):cs.length=6:=by
 obtain ⟨n,t,a,na,l,c,nl,nc,m,h⟩:=J.lies_cells h
 rw [h]
 rfl
end
section
open Go Go.RowKit Go.Extern.Stop Go.Stop Go.Extern
variable{a b w w':World}{c g i o r rb:Nat}{L l rs:List Nat}
def Y13(h:p:=by exact (show Hid (lM wr rb+L1.length=rs.length) from hJ1.pos)):p:=h
structure JrI(w:World)(rb g o c:Nat)(rs:List Nat)(i:Nat):Prop where
 le:i<=rs.length
 len:rs.length<=4000
 cap:rs.length<=c
 max:∀r∈rs,r<=1114111
 ng:34<=rb
 ne:g<rb
 lt:g<w.heap.size
 c0:w.cell? ⟨rb,0,none⟩=some (.slice (some ⟨g,o,none⟩) rs.length c)
 c1:w.cell? ⟨rb,1,none⟩=some (.int .i64 i)
 f1:w.frozen? ⟨rb,1,none⟩=false
 runes:∀j (h:j<rs.length),w.cell? ⟨g,o+j,none⟩=some (.int .i32 (rs[j]:Int))
 pow:Pow w
def Jr(w:World)(rb:Nat)(rs L:List Nat):Prop:=∃g o c i,L=rs.drop i/\JrI w rb g o c rs i
theorem JrI.rlt(h:JrI w rb g o c rs i):rb<w.heap.size:=NW _ _ h.c0
theorem JrI.add(h:JrI w rb g o c rs i)(a:Add w w'):JrI w' rb g o c rs i:=
 ⟨h.le,h.len,h.cap,h.max,h.ng,h.ne,NK h.lt a.size,a.cell h.c0,a.cell h.c1,(Oa (a:=⟨rb,1,none⟩) (a.old _ h.rlt)).trans h.f1,λj hj=>a.cell (h.runes j hj),h.pow.add a⟩
theorem JrI.at(h:JrI w rb g o c rs i)(k:Nat)(hk:k<=rs.length):JrI (w.setCell ⟨rb,1,none⟩ (.int .i64 k)) rb g o c rs k:=
 ⟨hk,h.len,h.cap,h.max,h.ng,h.ne,by simpa using h.lt,(Ob _ _ _ _ Kh).trans h.c0,Oe _ _ _ h.c1,by rw [Od];exact h.f1,λj hj=>(Ob _ _ _ _ (λe=>by have:=h.ne;simp at e <;> omega)).trans (h.runes j hj),h.pow.upd (Upd.set _ _ _ _) h.ng⟩
theorem Jr.add(h:Jr w rb rs L)(a:Add w w'):Jr w' rb rs L:=by
 obtain ⟨g,o,c,i,hL,h⟩:=h
 exact ⟨g,o,c,i,hL,h.add a⟩
theorem Jr.rlt(h:Jr w rb rs L):rb<w.heap.size:=by
 obtain ⟨g,o,c,i,hL,h⟩:=h
 exact h.rlt
theorem Jr.len(h:Jr w rb rs L):L.length<=4000:=by
 obtain ⟨g,o,c,i,rfl,h⟩:=h
 have:=h.len
 simp
 omega
theorem Jr.max(h:Jr w rb rs L):∀r∈L,r<=1114111:=by
 obtain ⟨g,o,c,i,rfl,h⟩:=h
 exact λr hr=>h.max r (List.mem_of_mem_drop hr)
structure UpdN(n rb:Nat)(w w':World):Prop where
 os:w'.os=w.os
 output:w'.output=w.output
 size:w.heap.size<=w'.heap.size
 old:∀i,i<n->i≠rb->w'.heap[i]?=w.heap[i]?
theorem UpdN.trans{n:Nat}{c:World}(h:UpdN n rb a b)(k:UpdN n rb b c):UpdN n rb a c:=⟨k.os.trans h.os,k.output.trans h.output,NM h.size k.size,λi hi hn=>(k.old i hi hn).trans (h.old i hi hn)⟩
theorem Upd.n{n:Nat}(h:Upd rb a b)(hn:n<=a.heap.size):UpdN n rb a b:=⟨h.os,h.output,h.size,λi hi hne=>h.old i Kc hne⟩
theorem UpdN.upd{n:Nat}(h:UpdN n rb a b)(hn:a.heap.size<=n):Upd rb a b:=⟨h.os,h.output,h.size,λi hi hne=>h.old i Kc hne⟩
theorem JrI.below{n:Nat}(h:JrI w rb g o c rs i)(hn:rb<n)(hs:w.heap.size<=w'.heap.size)(k:∀i,i<n->w'.heap[i]?=w.heap[i]?):JrI w' rb g o c rs i:=by
 have hg:g<n:=by have:=h.ne;omega
 have hp:=h.ng
 exact ⟨h.le,h.len,h.cap,h.max,h.ng,h.ne,NK h.lt hs,(NY (a:=⟨rb,0,none⟩) (k rb hn)).trans h.c0,(NY (a:=⟨rb,1,none⟩) (k rb hn)).trans h.c1,(Oa (a:=⟨rb,1,none⟩) (k rb hn)).trans h.f1,λj hj=>(NY (a:=⟨g,o+j,none⟩) (k g hg)).trans (h.runes j hj),h.pow.carry (k _ Kc)⟩
theorem Jr.below{n:Nat}(h:Jr w rb rs L)(hn:rb<n)(hs:w.heap.size<=w'.heap.size)(k:∀i,i<n->w'.heap[i]?=w.heap[i]?):Jr w' rb rs L:=by
 obtain ⟨g,o,c,i,hL,h⟩:=h
 exact ⟨g,o,c,i,hL,h.below hn hs k⟩
theorem af(w:World):Add w w.drew:=⟨rfl,rfl,NL _,λ_ _=>rfl⟩
theorem ret_i32{a b:Int}(h:a=b):Ending.returned (.int .i32 a)=.returned (.int .i32 b):=by rw [h]
theorem eD(hJ:Jr w rb rs L):
  Calls prog 76 #[.pointer (some ⟨rb,0,none⟩)] w λe w'=>e=.returned (.int .i32 (pk L))/\Add w w':=by
 obtain ⟨g,o,c,i,rfl,J⟩:=hJ
 have c0:=J.c0
 have c1:=J.c1
 by_cases hlt:i<rs.length
 ·have cr:=J.runes i hlt
  have e:pk (rs.drop i)=(rs[i]:Int):=by rw [List.drop_eq_getElem_cons hlt];rfl
  rw [e]
  generalize rs[i]=r at *
  have t:((i:Int)==(rs.length:Int))=false:=Kt
  have hle:=J.len
  clear J e
  go_enter func76,ntmps76
  go_wp2
  go_quiet (fail)
  go_wp2
  go_quiet (fail)
  go_wp2
  go_ret
  exact ⟨rfl,(Add.drewN _ _).trans (Add.drewN _ _)⟩
 obtain rfl:i=rs.length:=by have:=J.le;omega
 have e:pk (rs.drop rs.length) = -1:=by rw [List.drop_length];rfl
 rw [e]
 clear J e hlt
 go_enter func76,ntmps76
 go_wp2
 go_quiet (fail)
 go_wp2
 go_ret
 exact ⟨rfl,Add.drewN _ _⟩
theorem Jr.step(hL:r::l=rs.drop i)(J:JrI w rb g o c rs i):i<rs.length/\l=rs.drop (i+1)/\r<=1114111:=by
 have h:i<rs.length:=by
  rcases Nat.lt_or_ge i rs.length with h|h
  ·exact h
  rw [List.drop_eq_nil_of_le h] at hL
  cases hL
 rw [List.drop_eq_getElem_cons h] at hL
 cases hL
 exact ⟨h,rfl,J.max _ (NS h)⟩
def kK(O:Option (Value × List Nat))(rb:Nat)(rs:List Nat)(w:World)(e:Ending)(w':World):Prop:=
 match O with
 |some (v,L)=>e=.returned v/\Jr w' rb rs L/\Upd rb w w'
 |none=>fV e/\Upd rb w w'
theorem qC(hJ:Jr w rb rs (r::l)):
  Calls prog 138 #[.pointer (some ⟨rb,0,none⟩)] w λe w'=>e=.returned (.int .i32 (r:Int))/\Jr w' rb rs l/\Upd rb w w':=by
 have hp:=eD hJ
 obtain ⟨g,o,c,i,hL,J⟩:=hJ
 obtain ⟨hlt,hl,hr⟩:=Jr.step hL J
 have t:((r:Int) == -1)=false:=beq_eq_false_iff_ne.2 Kc
 have HJ:Hid (JrI w rb g o c rs i):=J
 have hle:=J.len
 have c1:=J.c1
 have f1:=J.f1
 have hrl:=J.rlt
 clear J hL hr
 go_enter func138,ntmps138
 go_wp2_with (go_at_call 76;refine hp.mono ?_;rintro e w1 ⟨rfl,ha⟩;have c1':=ha.cell c1;have f1':=(Oa (a:=⟨rb,1,none⟩) (ha.old _ hrl)).trans f1)
 go_ret
 exact ⟨rfl,⟨g,o,c,i+1,hl,by simpa using (HJ.out.add ha).at (i+1) hlt⟩,(ha.upd _).trans (Upd.set _ _ _ _)⟩
theorem zL(hJ:Jr w rb rs []):
  Calls prog 138 #[.pointer (some ⟨rb,0,none⟩)] w λe w'=>fV e/\Upd rb w w':=by
 have hp:=eD hJ
 have hw:∀w1,Add w w1->∀s:ByteArray,s.size<=100000->Calls prog 77 #[.pointer (some ⟨rb,0,none⟩),.string s] w1 λe w'=>fV e/\Add w1 w':=by
  intro w1 ha s hs
  obtain ⟨g,o,c,i,hL,J⟩:=hJ
  exact uy rb i s w1 (ha.cell J.c1) Kc (by have:=J.le;have:=J.len;omega) (J.pow.add ha) hs
 clear hJ
 go_enter func138,ntmps138
 go_wp2_with (first
  |(go_at_call 76;refine hp.mono ?_;rintro e w1 ⟨rfl,ha⟩)
  |(go_at_call 77;refine (hw _ ha _ Ke).mono ?_;rintro e w2 ⟨⟨T,v,rfl⟩,hb⟩))
 exact ⟨rfl,⟨_,_,rfl⟩,(ha.trans hb).upd _⟩
theorem Jr.wrong(hJ:Jr w rb rs L)(s:ByteArray)(hs:s.size<=100000):
  Calls prog 77 #[.pointer (some ⟨rb,0,none⟩),.string s] w λe w'=>fV e/\Add w w':=by
 obtain ⟨g,o,c,i,hL,J⟩:=hJ
 exact uy rb i s w J.c1 Kc (by have:=J.le;have:=J.len;omega) J.pow hs
theorem gW(h:dY c L=some l):L=c::l:=by
 cases L with
 |nil=>cases h
 |cons r l'=>
  rw [dY] at h
  split at h
  ·rename_i e
   cases h
   rw [e]
  cases h
theorem gP(hJ:Jr w rb rs L)(hc:dY c L=some l)(x:Int)(hx:x=c):
  Calls prog 115 #[.pointer (some ⟨rb,0,none⟩),.int .i32 x] w λe w'=>e=.returned (.bool true)/\Jr w' rb rs l/\Upd rb w w':=by
 have hp:=eD hJ
 obtain rfl:=gW hc
 obtain ⟨g,o,k,i,hL,J⟩:=hJ
 obtain ⟨hlt,hl,hr⟩:=Jr.step hL J
 have t:(((c:Int)) != x)=false:=by rw [hx];simp
 have HJ:Hid (JrI w rb g o k rs i):=J
 have hle:=J.len
 have c1:=J.c1
 have f1:=J.f1
 have hrl:=J.rlt
 clear J hL hr hc hx
 change Calls _ _ _ _ λe w'=>e=.returned (.int .i32 (c:Int))/\Add w w' at hp
 go_enter func115,ntmps115
 go_wp2_with (go_at_call 76;refine hp.mono ?_;rintro e w1 ⟨rfl,ha⟩;have c1':=ha.cell c1;have f1':=(Oa (a:=⟨rb,1,none⟩) (ha.old _ hrl)).trans f1)
 go_ret
 exact ⟨rfl,⟨g,o,k,i+1,hl,by simpa using (HJ.out.add ha).at (i+1) hlt⟩,(ha.upd _).trans (Upd.set _ _ _ _)⟩
theorem Ik(h:dY c L=none):¬ pk L=(c:Int):=by
 cases L with
 |nil=>show ¬ (-1:Int)=(c:Int);omega
 |cons r l=>
  rw [dY] at h
  split at h
  ·cases h
  show ¬ (r:Int)=(c:Int);omega
theorem fQ(hJ:Jr w rb rs L)(hc:dY c L=none)(x:Int)(hx:x=c):
  Calls prog 115 #[.pointer (some ⟨rb,0,none⟩),.int .i32 x] w λe w'=>e=.returned (.bool false)/\Add w w':=by
 have hp:=eD hJ
 have t:(pk L != x)=true:=by rw [hx];exact bne_iff_ne.2 (Ik hc)
 clear hJ hc hx
 generalize pk L=y at *
 go_enter func115,ntmps115
 go_wp2_with (go_at_call 76;refine hp.mono ?_;rintro e w1 ⟨rfl,ha⟩)
 go_ret
 exact ⟨rfl,ha⟩
theorem ul(hJ:Jr w rb rs L)(hc:dY c L=some l)(x:Int)(hx:x=c):
  Calls prog 137 #[.pointer (some ⟨rb,0,none⟩),.int .i32 x] w λe w'=>e=.returned (.tuple #[])/\Jr w' rb rs l/\Upd rb w w':=by
 have ht:=gP hJ hc x hx
 clear hJ hc hx
 go_enter func137,ntmps137
 go_wp2_with (go_at_call 115;refine ht.mono ?_;rintro e w1 ⟨rfl,hJ1,hu⟩)
 go_end0
 exact ⟨rfl,hJ1,hu⟩
theorem small3{u:ByteArray}(h:u.size<=4):(({ data:=#[110,111,32] } : ByteArray)++u).size<=100000:=by
 rw [ByteArray.size_append]
 show 3+_<=_
 omega
theorem qd(hJ:Jr w rb rs L)(hc:dY c L=none)(x:Int)(hx:x=c):
  Calls prog 137 #[.pointer (some ⟨rb,0,none⟩),.int .i32 x] w λe w'=>fV e/\Upd rb w w':=by
 have ht:=fQ hJ hc x hx
 have hw:=λw1 (a:Add w w1)=>(hJ.add a).wrong
 have hsz:=encode_size_le x
 have hh:(9223372036854775807<3+(Utf8.encode x).size)=False:=eq_false Kc
 clear hJ hc hx
 go_enter func137,ntmps137
 go_wp2_with (first
  |(go_at_call 115;refine ht.mono ?_;rintro e w1 ⟨rfl,ha⟩)
  |(go_at_call 77;refine (hw _ ha _ ?_).mono ?_;rotate_left;rintro e w2 ⟨⟨T,v,rfl⟩,hb⟩))
 ·exact ⟨rfl,⟨_,_,rfl⟩,(ha.trans hb).upd _⟩
 exact small3 hsz
def lM(w:World)(rb:Nat):Nat:=match w.cell? ⟨rb,1,none⟩ with|some v=>(intOf v).toNat|none=>0
theorem Jr.pos(h:Jr w rb rs L):lM w rb+L.length=rs.length:=by
 obtain ⟨g,o,c,i,rfl,h⟩:=h
 unfold lM
 rw [h.c1]
 have:=h.le
 simp [intOf]
 omega
theorem Dx(h:isB r=true):dK (r::l)=dK l:=by rw [dK,if_pos h]
theorem CQ(h:dY 32 L=none)(h1:dY 9 L=none)(h2:dY 10 L=none)(h3:dY 13 L=none):dK L=L:=by
 cases L with
 |nil=>rfl
 |cons r l=>
  have e:∀c,dY c (r::l)=none->r≠c:=by
   intro c h e
   rw [dY,if_pos e] at h
   cases h
  have h:=e _ h
  have h1:=e _ h1
  have h2:=e _ h2
  have h3:=e _ h3
  rw [dK,if_neg]
  simp [isB,h,h1,h2,h3]
theorem oG(hc:isB c=true)(h:dY c L=some l):dK L=dK l:=by
 rw [gW h,Dx hc]
theorem ed(hJ:Jr w rb rs L):
  Calls prog 75 #[.pointer (some ⟨rb,0,none⟩)] w λe w'=>e=.returned (.tuple #[])/\Jr w' rb rs (dK L)/\Upd rb w w':=by
 go_enter func75,ntmps75
 go_wp2
 go_loopw [] (λwr=>∃L1,dK L1=dK L/\Jr wr rb rs L1/\Upd rb w wr) (λwr=>rs.length-lM wr rb)
 case atStart=>exact ⟨L,rfl,hJ,Upd.refl _ _⟩
 obtain ⟨L1,hs,hJ1,hu⟩:=hrel
 clear hJ
 cases h0:dY 32 L1 with
 |some l=>
  have HS:Hid (dK l=dK L):=by show _=_;rw [<-hs];exact (oG Ke h0).symm
  have HP:=Y13
  have HL:Hid (L1.length=l.length+1):=by show _=_;rw [gW h0];rfl
  clear hs
  go_wp2_with (first
    |(go_at_call 115;refine (gP hJ1 h0 _ rfl).mono ?_;rintro e w9 ⟨rfl,hJ2,hu2⟩))
  go_roundw
  case rel=>exact ⟨l,HS.out,hJ2,hu.trans hu2⟩
  have:=HP.out;have:=hJ2.pos;have:=HL.out;omega
 |none=>
  cases h1:dY 9 L1 with
  |some l=>
   have HS:Hid (dK l=dK L):=by show _=_;rw [<-hs];exact (oG Ke h1).symm
   have HP:=Y13
   have HL:Hid (L1.length=l.length+1):=by show _=_;rw [gW h1];rfl
   clear hs
   go_wp2_with (first
     |(go_at_call 115;refine (gP hJa1 h1 _ rfl).mono ?_;rintro e w9 ⟨rfl,hJ2,hu2⟩)
     |(go_at_call 115;refine (fQ hJ1 h0 _ rfl).mono ?_;rintro e w0 ⟨rfl,ha0⟩;have hJa1:=hJ1.add ha0))
   go_roundw
   case rel=>exact ⟨l,HS.out,hJ2,(hu.trans (ha0.upd _)).trans hu2⟩
   have:=HP.out;have:=hJ2.pos;have:=HL.out;omega
  |none=>
   cases h2:dY 10 L1 with
   |some l=>
    have HS:Hid (dK l=dK L):=by show _=_;rw [<-hs];exact (oG Ke h2).symm
    have HP:=Y13
    have HL:Hid (L1.length=l.length+1):=by show _=_;rw [gW h2];rfl
    clear hs
    go_wp2_with (first
      |(go_at_call 115;refine (gP hJaa1 h2 _ rfl).mono ?_;rintro e w9 ⟨rfl,hJ2,hu2⟩)
      |(go_at_call 115;refine (fQ hJa1 h1 _ rfl).mono ?_;rintro e w1 ⟨rfl,ha1⟩;have hJaa1:=hJa1.add ha1)
      |(go_at_call 115;refine (fQ hJ1 h0 _ rfl).mono ?_;rintro e w0 ⟨rfl,ha0⟩;have hJa1:=hJ1.add ha0))
    go_roundw
    case rel=>exact ⟨l,HS.out,hJ2,((hu.trans (ha0.upd _)).trans (ha1.upd _)).trans hu2⟩
    have:=HP.out;have:=hJ2.pos;have:=HL.out;omega
   |none=>
    cases h3:dY 13 L1 with
    |some l=>
     have HS:Hid (dK l=dK L):=by show _=_;rw [<-hs];exact (oG Ke h3).symm
     have HP:=Y13
     have HL:Hid (L1.length=l.length+1):=by show _=_;rw [gW h3];rfl
     clear hs
     go_wp2_with (first
       |(go_at_call 115;refine (gP hJaaa1 h3 _ rfl).mono ?_;rintro e w9 ⟨rfl,hJ2,hu2⟩)
       |(go_at_call 115;refine (fQ hJaa1 h2 _ rfl).mono ?_;rintro e w2 ⟨rfl,ha2⟩;have hJaaa1:=hJaa1.add ha2)
       |(go_at_call 115;refine (fQ hJa1 h1 _ rfl).mono ?_;rintro e w1 ⟨rfl,ha1⟩;have hJaa1:=hJa1.add ha1)
       |(go_at_call 115;refine (fQ hJ1 h0 _ rfl).mono ?_;rintro e w0 ⟨rfl,ha0⟩;have hJa1:=hJ1.add ha0))
     go_roundw
     case rel=>exact ⟨l,HS.out,hJ2,(((hu.trans (ha0.upd _)).trans (ha1.upd _)).trans (ha2.upd _)).trans hu2⟩
     have:=HP.out;have:=hJ2.pos;have:=HL.out;omega
    |none=>
     have HS:Hid (L1=dK L):=by show _=_;rw [<-hs];exact (CQ h0 h1 h2 h3).symm
     clear hs
     go_wp2_with (first
       |(go_at_call 115;refine (fQ hJaaa1 h3 _ rfl).mono ?_;rintro e w3 ⟨rfl,ha3⟩;have hJaaaa1:=hJaaa1.add ha3)
       |(go_at_call 115;refine (fQ hJaa1 h2 _ rfl).mono ?_;rintro e w2 ⟨rfl,ha2⟩;have hJaaa1:=hJaa1.add ha2)
       |(go_at_call 115;refine (fQ hJa1 h1 _ rfl).mono ?_;rintro e w1 ⟨rfl,ha1⟩;have hJaa1:=hJa1.add ha1)
       |(go_at_call 115;refine (fQ hJ1 h0 _ rfl).mono ?_;rintro e w0 ⟨rfl,ha0⟩;have hJa1:=hJ1.add ha0))
     go_end0
     exact ⟨rfl,HS.out ▸ hJaaaa1,((((hu.trans (ha0.upd _)).trans (ha1.upd _)).trans (ha2.upd _)).trans (ha3.upd _))⟩
end
section
open Go Go.RowKit Go.Extern.Stop Go.Stop Go.Extern
variable{w:World}{rb:Nat}{rs:List Nat}
def Y19(h:p:=by exact (show ∃f,f1=f+1 from ⟨f1-1,by omega⟩)):p:=h
def Z51(h:p:=by
 clear e hd h1 h2 h3 hr
 go_enter func194,ntmps194
 go_wp2_with (first
  |(go_at_call 138;refine hn.mono ?_;rintro e w1 ⟨rfl,hJ1,hu⟩)
  |(go_at_call 112;refine (fC _ _).mono ?_;rintro e w2 ⟨rfl,rfl⟩;rw [hdi])
  |(go_at_call 77;refine (hJ1.wrong _ Ke).mono ?_;rintro e w3 ⟨⟨T,v,rfl⟩,hb⟩))
 exact ⟨rfl,⟨_,_,rfl⟩,hu.trans (hb.upd _)⟩):p:=h
def Z75(h:p:=by
 go_enter func194,ntmps194
 go_wp2_with (first
  |(go_at_call 138;refine hn.mono ?_;rintro e w1 ⟨rfl,hJ1,hu⟩)
  |(go_at_call 112;refine (fC _ _).mono ?_;rintro e w2 ⟨rfl,rfl⟩;rw [hdi]))
 go_ret
 exact ⟨rfl,hJ1,hu⟩):p:=h
def Z130(h:p:=by
 go_wp2_with (go_at_call 138;refine (zL hJ).mono ?_;rintro e w1 ⟨⟨T,v,rfl⟩,hu⟩)
 exact ⟨rfl,⟨_,_,rfl⟩,hu⟩):p:=h
def Z212(h:p:=by
 go_wp2
 go_ret
 exact ⟨mh H.out.symm,rfl⟩):p:=h
def Z213(h:p:=by
 show (w.heap.push _)[w.heap.size]?=_
 simp):p:=h
def nr(x:Int):Bool:=decide (48<=x)&&decide (x<=57)
theorem mh{a b:Bool}(h:a=b):Ending.returned (.bool a)=.returned (.bool b):=by rw [h]
theorem fC(x:Int)(w:World):
  Calls prog 112 #[.int .i32 x] w λe w'=>e=.returned (.bool (nr x))/\w'=w:=by
 by_cases h:48<=x
 ·have h':(48<=x)=True:=by simp [h]
  have H:Hid (48<=x):=h
  clear h
  go_enter func112,ntmps112
  go_wp2
  go_ret
  exact ⟨mh (by simp [nr,H.out]),rfl⟩
 have h':(48<=x)=False:=eq_false h
 have H:Hid (nr x=false):=by show _=_;unfold nr;rw [decide_eq_false h,Bool.false_and]
 clear h
 go_enter func112,ntmps112
 exact Z212
theorem pW(r:Nat):dig r=nr (r:Int):=by
 unfold dig nr
 congr 1 <;> simp <;> omega
theorem Iu(hJ:Jr w rb rs []):
  Calls prog 194 #[.pointer (some ⟨rb,0,none⟩)] w λe w'=>fV e/\Upd rb w w':=by
 go_enter func194,ntmps194
 exact Z130
theorem hex_ok{r:Nat}{l:List Nat}(hJ:Jr w rb rs (r::l)):
  Calls prog 194 #[.pointer (some ⟨rb,0,none⟩)] w λe w'=>kK ((rR r).map λd=>(.int .i32 (d:Int),l)) rb rs w e w':=by
 have hr:r<=1114111:=hJ.max r Kh
 have hn:=qC hJ
 clear hJ
 by_cases hd:dig r=true
 ·have e:rR r=some (r-48):=by unfold rR;rw [if_pos hd]
  rw [e]
  have hdi:nr (r:Int)=true:=by rw [<-pW];exact hd
  have hge:48<=r/\r<=57:=Nv
  have hw:IntKind.i32.wrap ((r:Int)-48)=((r-48:Nat):Int):=Kq
  clear e hd hge hr
  exact Z75
 have hdi:nr (r:Int)=false:=by rw [<-pW];simpa using hd
 by_cases h1:97<=r/\r<=102
 ·have e:rR r=some (r-87):=by unfold rR;rw [if_neg hd,if_pos h1]
  rw [e]
  have t1:(97<=(r:Int))=True:=eq_true Kc
  have t2:((r:Int)<=102)=True:=eq_true Kc
  have hw:IntKind.i32.wrap ((r:Int)-97)=(r:Int)-97:=Kq
  have hw2:IntKind.i32.wrap ((r:Int)-97+10)=((r-87:Nat):Int):=Kq
  clear e hd h1 hr
  exact Z75
 by_cases h2:65<=r/\r<=70
 ·have e:rR r=some (r-55):=by unfold rR;rw [if_neg hd,if_neg h1,if_pos h2]
  rw [e]
  have t1:(97<=(r:Int))=False:=eq_false Kc
  have t2:(65<=(r:Int))=True:=eq_true Kc
  have t3:((r:Int)<=70)=True:=eq_true Kc
  have hw:IntKind.i32.wrap ((r:Int)-65)=(r:Int)-65:=Kq
  have hw2:IntKind.i32.wrap ((r:Int)-65+10)=((r-55:Nat):Int):=Kq
  clear e hd h1 h2 hr
  exact Z75
 have e:rR r=none:=by unfold rR;rw [if_neg hd,if_neg h1,if_neg h2]
 rw [e]
 rcases (by omega:r<65\/(70<r/\r<97)\/102<r) with h3|h3|h3
 ·have t0:(97<=(r:Int))=False:=eq_false Kc
  have t1:(65<=(r:Int))=False:=eq_false Kc
  exact Z51
 ·have t0:(97<=(r:Int))=False:=eq_false Kc
  have t1:(65<=(r:Int))=True:=eq_true Kc
  have t2:((r:Int)<=70)=False:=eq_false Kc
  exact Z51
 have t0:(97<=(r:Int))=True:=eq_true Kc
 have t1:((r:Int)<=102)=False:=eq_false Kc
 have t2:(65<=(r:Int))=True:=eq_true Kc
 have t3:((r:Int)<=70)=False:=eq_false Kc
 exact Z51
theorem Ew{r d:Nat}(h:rR r=some d):d<16:=by
 unfold rR at h
 split at h
 ·rename_i hh
  have:48<=r/\r<=57:=by simpa [dig] using hh
  cases h
  omega
 split at h
 ·cases h
  omega
 split at h
 ·cases h
  omega
 cases h
theorem ue:∀(k n:Nat) (L:List Nat) (x:Nat) (l:List Nat),kY k n L=some (x,l)->x<(n+1)*16 ^ k/\l.length+k=L.length
 |0,n,L,x,l,h=>by
  rw [kY] at h
  cases h
  simp
 |k+1,n,[],x,l,h=>by
  rw [kY] at h
  cases h
 |k+1,n,r::L,x,l,h=>by
  rw [kY] at h
  cases hd:rR r with
  |none=>rw [hd] at h;cases h
  |some d=>
   rw [hd] at h
   have:=ue k (n*16+d) L x l h
   have h2:=Ew hd
   refine ⟨?_,by simp;omega⟩
   refine NK this.1 ?_
   rw [Nat.pow_succ,Nat.mul_comm (16 ^ k) 16,<-Nat.mul_assoc]
   exact Nat.mul_le_mul_right _ Kc
theorem meas4{j:Nat}(h:j<4):4-((j:Int)+1).toNat<4-j:=Kc
theorem Bc{L:List Nat}(hJ:Jr w rb rs L):
  Calls prog 185 #[.pointer (some ⟨rb,0,none⟩)] w λe w'=>kK ((kY 4 0 L).map λx=>(.int .i32 (x.1:Int),x.2)) rb rs w e w':=by
 generalize hV:(kY 4 0 L)=V
 go_enter func185,ntmps185
 go_wp2
 go_loopw [3,4] (λn cnt wr=>∃(j k a:Nat) (L1:List Nat),j+k=4/\cnt=.int .i64 j/\n=.int .i32 a/\a<16 ^ j/\kY k a L1=V/\Jr wr rb rs L1/\Upd rb w wr) (λ_ cnt _=>4-(intOf cnt).toNat)
 case atStart=>exact ⟨0,4,0,L,rfl,rfl,rfl,by decide,hV,hJ,Upd.refl _ _⟩
 obtain ⟨j,k1,a,L1,hjk,rfl,rfl,ha,hv,hJ1,hu⟩:=hrel
 clear hJ hV
 cases k1 with
 |zero=>
  obtain rfl:j=4:=Kc
  rw [kY] at hv
  subst hv
  clear ha
  go_wp2
  go_ret
  exact ⟨rfl,hJ1,hu⟩
 |succ k=>
  have hlt:j<4:=Kc
  have HLT:Hid (j<4):=hlt
  have t:((j:Int)<4)=True:=eq_true Kc
  have h3:16 ^ j<=4096:=NM (Nat.pow_le_pow_right Ke (show j<=3 by omega)) Ke
  have hs:IntKind.i32.wrap ((a:Int)*2 ^ 4)=((a*16:Nat):Int):=Kq
  cases L1 with
  |nil=>
   have e:kY (k+1) a []=none:=by rw [kY]
   rw [e] at hv
   subst hv
   clear ha hjk h3
   go_wp2_with (go_at_call 194;refine (Iu hJ1).mono ?_;rintro e w1 ⟨⟨T,v,rfl⟩,hu1⟩)
   exact ⟨rfl,⟨_,_,rfl⟩,hu.trans hu1⟩
  |cons r l=>
   have hh:=hex_ok hJ1
   rw [kY] at hv
   cases hd:rR r with
   |none=>
    rw [hd] at hv hh
    subst hv
    clear ha hjk h3
    go_wp2_with (go_at_call 194;refine hh.mono ?_;rintro e w1 ⟨⟨T,v,rfl⟩,hu1⟩)
    exact ⟨rfl,⟨_,_,rfl⟩,hu.trans hu1⟩
   |some d=>
    rw [hd] at hv hh
    have hdl:=Ew hd
    have hs2:IntKind.i32.wrap (((a*16:Nat):Int)+(d:Int))=((a*16+d:Nat):Int):=Kq
    have HA:Hid (a*16+d<16 ^ (j+1)):=by show _<_;rw [Nat.pow_succ];omega
    have HK:Hid (j+1+k=4):=Np
    have HE:Hid (wrap32 (wrap32 ((a:Int)*16)+(d:Int))=((a*16+d:Nat):Int)):=by show _=_;unfold wrap32;omega
    have HV:Hid (kY k (a*16+d) l=V):=hv
    clear ha hjk h3 hv hd hdl
    go_wp2_with (go_at_call 194;refine hh.mono ?_;rintro e w1 ⟨rfl,hJ2,hu1⟩)
    go_roundw
    case rel=>exact ⟨j+1,k,a*16+d,l,HK.out,by go_num,by rw [HE.out],HA.out,HV.out,hJ2,hu.trans hu1⟩
    simp only [intOf];exact meas4 HLT.out
end
section
open Go Go.RowKit Go.Extern.Stop Go.Stop Go.Extern
variable{L rs:List Nat}{w:World}{rb:Nat}
def Y14(h:p:=by exact (show a<1000000000000000000 from NK ha (xV Kc))):p:=h
def Z10(h:p:=by
 obtain ⟨r,t,rfl,hdr,hr1,hr2⟩:=uM hd
 rw [kZ,if_pos hdr] at hv
 have HP:Hid (lM wr rb+(r::t).length=rs.length):=hJr.pos
 by_cases h18:18<c
 ·rw [if_pos h18] at hv
  subst hv
  obtain rfl:c=19:=Kc
  clear ha hc1 hc19 h18
  go_wp2_with (first
   |(go_at_call 77;refine (hJ7.wrong _ ?_).mono ?_;rotate_left;rintro e w8 ⟨⟨T,v,rfl⟩,hb⟩)
   |(go_at_call 68;refine (hJ5.itoa _ Kc Kc).mono ?_;rintro e w7 ⟨s7,rfl,hs7,ha7⟩;have hJ7:=hJ5.add ha7)
   |(go_at_call 112;refine (fC _ _).mono ?_;rintro e w6 ⟨rfl,rfl⟩;rw [hd])
   |(go_at_call 76;refine (eD hJr).mono ?_;rintro e w5 ⟨rfl,ha5⟩;have hJ5:=hJr.add ha5))
  ·exact ⟨rfl,⟨_,_,rfl⟩,((hu.trans (ha5.upd _)).trans (ha7.upd _)).trans (hb.upd _)⟩
  exact sz3 Ke hs7 Ke
 rw [if_neg h18] at hv
 have t18:(18<(c:Int))=False:=eq_false Kc
 have hp:10 ^ c=10 ^ (c-1)*10:=Nq
 have hp18:=xV (show c<=18 by omega)
 by_cases h1:1<c/\z=true
 ·rw [if_pos h1] at hv
  subst hv
  obtain ⟨hc,rfl⟩:=h1
  have t1:(1<(c:Int))=True:=eq_true Kc
  clear ha hc1 hc19 h18 hp hp18 hc
  go_wp2_with (first
   |(go_at_call 77;refine (hJ5.wrong _ Ke).mono ?_;rintro e w8 ⟨⟨T,v,rfl⟩,hb⟩)
   |(go_at_call 112;refine (fC _ _).mono ?_;rintro e w6 ⟨rfl,rfl⟩;rw [hd])
   |(go_at_call 76;refine (eD hJr).mono ?_;rintro e w5 ⟨rfl,ha5⟩;have hJ5:=hJr.add ha5))
  all_goals exact ⟨rfl,⟨_,_,rfl⟩,(hu.trans (ha5.upd _)).trans (hb.upd _)⟩
 rw [if_neg h1] at hv
 have HE:Hid (wrap64 (wrap64 ((a:Int)*10)+((r:Int)-48))=((a*10+(r-48):Nat):Int)):=by show _=_;unfold wrap64;omega
 have HA:Hid (a*10+(r-48)<10 ^ c):=by show _<_;omega
 have HV:Hid (kZ z (c+1) (a*10+(r-48)) t=V):=hv
 have HC:Hid (1<=c/\c<=18):=NI
 have htest:(decide (1<(c:Int))&&z)=false:=by
  rcases Bool.eq_false_or_eq_true z with hz|hz
  ·rw [hz,Bool.and_true]
   exact decide_eq_false (λh=>h1 ⟨by omega,hz⟩)
  rw [hz,Bool.and_false]
 have hc18:c<=18:=Kc
 clear ha hp hp18 hv h1 h18 hc19
 by_cases h1c:(1:Int)<(c:Int)
 ·obtain rfl:z=false:=by
   rw [decide_eq_true h1c,Bool.true_and] at htest
   exact htest
  have t1:(1<(c:Int))=True:=eq_true h1c
  exact Z251
 have t1:(1<(c:Int))=False:=eq_false h1c
 exact Z251):p:=h
def Z121(h:p:=by
 rw [hL0]
 show ((r0:Int)==48)=_
 by_cases h:r0=48
 ·subst h;rfl
 rw [beq_eq_false_iff_ne.2 h,beq_eq_false_iff_ne.2 Kc]):p:=h
def Z141(h:p:=by
 rw [hL] at hd0
 rw [jq,if_neg]
 rw [pW]
 change nr (r:Int)=false at hd0
 rw [hd0]
 decide):p:=h
def Z168(h:p:=by
 cases h
 exact ⟨NK hn (xV Kc),NL _⟩):p:=h
def Z184(h:p:=by
 exact ⟨rfl,⟨_,_,rfl⟩,(hu1.trans (ha2.upd _)).trans (hb.upd _)⟩):p:=h
def Z223(h:p:=by
 intro w
 go_simp
 with_reducible rfl):p:=h
def Z251(h:p:=by
 clear htest h1c
 go_wp2_with (first
  |(go_at_call 138;refine (qC hJ5).mono ?_;rintro e w8 ⟨rfl,hJ8,hu8⟩)
  |(go_at_call 112;refine (fC _ _).mono ?_;rintro e w6 ⟨rfl,rfl⟩;rw [hd])
  |(go_at_call 76;refine (eD hJr).mono ?_;rintro e w5 ⟨rfl,ha5⟩;have hJ5:=hJr.add ha5))
 go_roundw
 case rel=>exact ⟨c+1,_,t,by omega,by have:=HC.out;omega,by go_num,by rw [HE.out],HA.out,HV.out,hJ8,(hu.trans (ha5.upd _)).trans hu8⟩
 have h1:=HP.out
 have h2:=hJ8.pos
 simp at h1
 omega):p:=h
theorem yU{z:Bool}{c n:Nat}(h:nr (pk L)=false):kZ z c n L=some (n,L):=by
 cases L with
 |nil=>rfl
 |cons r l=>
  rw [kZ,if_neg]
  rw [pW]
  change nr (r:Int)=false at h
  rw [h]
  decide
theorem uM(h:nr (pk L)=true):∃r l,L=r::l/\dig r=true/\48<=r/\r<=57:=by
 cases L with
 |nil=>exact absurd h Ke
 |cons r l=>
  refine ⟨r,l,rfl,by rw [pW];exact h,?_⟩
  change nr (r:Int)=true at h
  simp [nr] at h
  omega
theorem xV{c:Nat}(h:c<=18):10 ^ c<=1000000000000000000:=NM (Nat.pow_le_pow_right Ke h) Ke
theorem wI:∀(L:List Nat) (z:Bool) (c n x:Nat) (l:List Nat),kZ z c n L=some (x,l)->n<10 ^ (c-1)->1<=c->c<=19->x<1000000000000000000/\l.length<=L.length
 |[],z,c,n,x,l,h,hn,h1,h2=>by
  rw [kZ] at h
  exact Z168
 |r::L,z,c,n,x,l,h,hn,h1,h2=>by
  rw [kZ] at h
  split at h
  ·rename_i hd
   have hd':48<=r/\r<=57:=Nv
   split at h
   ·cases h
   split at h
   ·cases h
   have hp:10 ^ c=10 ^ (c-1)*10:=Nq
   have:=wI L z (c+1) _ x l h (by show _<10 ^ c;omega) Kc Kc
   exact ⟨this.1,by simp;omega⟩
  exact Z168
theorem Ep{a b:Int}(h:a=b):Ending.returned (.int .i64 a)=.returned (.int .i64 b):=by rw [h]
theorem Jr.itoa(hJ:Jr w rb rs L)(n:Int)(h0:0<=n)(h1:n<=100000):
  Calls prog 68 #[.int .i64 n] w λe w'=>∃s:ByteArray,e=.returned (.string s)/\s.size<=100/\Add w w':=by
 obtain ⟨g,o,c,i,hL,J⟩:=hJ
 exact nQ n w h0 h1 J.pow
theorem sz3{a s b:ByteArray}(ha:a.size<=1000)(hs:s.size<=100)(hb:b.size<=1000):(a++s++b).size<=100000:=by
 rw [ByteArray.size_append,ByteArray.size_append]
 omega
theorem Dg(hJ:Jr w rb rs L){l:List Nat}(n:dY 45 L=some l):
  Calls prog 113 #[.pointer (some ⟨rb,0,none⟩)] w λe w'=>kK ((jq l).map λx=>(.int .i64 (-(x.1:Int)),x.2)) rb rs w e w':=by
 cases hd0:nr (pk l) with
 |false=>
  have e0:jq l=none:=by
   cases hL:l with
   |nil=>rfl
   |cons r t=>
    exact Z141
  rw [e0]
  clear e0
  go_enter func113,ntmps113
  go_wp2_with (first
   |(go_at_call 77;refine (hJ2.wrong _ Ke).mono ?_;rintro e w4 ⟨⟨T,v,rfl⟩,hb⟩)
   |(go_at_call 112;refine (fC _ _).mono ?_;rintro e w3 ⟨rfl,rfl⟩;rw [hd0])
   |(go_at_call 76;refine (eD hJ1).mono ?_;rintro e w2 ⟨rfl,ha2⟩;have hJ2:=hJ1.add ha2)
   |(go_at_call 115;refine (gP hJ n _ rfl).mono ?_;rintro e w1 ⟨rfl,hJ1,hu1⟩))
  exact Z184
 |true=>
  obtain ⟨r0,t0,hL0,hdr,-,-⟩:=uM hd0
  have e0:jq l=kZ (r0==48) 1 0 l:=by rw [hL0,jq,if_pos hdr]
  rw [e0]
  have hz:(pk l==48)=(r0==48):=by
   exact Z121
  generalize (r0==48)=z at *
  generalize hV:kZ z 1 0 l=V
  clear e0 hL0 hdr
  go_enter func113,ntmps113
  go_wp2_with (first
   |(go_at_call 76;refine (eD hJ2).mono ?_;rintro e w4 ⟨rfl,ha4⟩;have hJ4:=hJ2.add ha4)
   |(go_at_call 112;refine (fC _ _).mono ?_;rintro e w3 ⟨rfl,rfl⟩;rw [hd0])
   |(go_at_call 76;refine (eD hJ1).mono ?_;rintro e w2 ⟨rfl,ha2⟩;have hJ2:=hJ1.add ha2)
   |(go_at_call 115;refine (gP hJ n _ rfl).mono ?_;rintro e w1 ⟨rfl,hJ1,hu1⟩))
  have hu4:=(hu1.trans (ha2.upd rb)).trans (ha4.upd rb)
  clear hJ1 hJ2 ha2 ha4 hu1 hd0
  go_loopw [5,6] (λnn cnt wr=>∃(c a:Nat) (L1:List Nat),1<=c/\c<=19/\cnt=.int .i64 c/\nn=.int .i64 a/\a<10 ^ (c-1)/\kZ z c a L1=V/\Jr wr rb rs L1/\Upd rb w wr) (λ_ _ wr=>rs.length-lM wr rb)
  case atStart=>exact ⟨1,0,_,NL _,by omega,rfl,rfl,by decide,hV,hJ4,hu4⟩
  obtain ⟨c,a,L1,hc1,hc19,rfl,rfl,ha,hv,hJr,hu⟩:=hrel
  clear hV hJ4 hu4 hJ
  cases hd:nr (pk L1) with
  |false=>
   rw [yU hd] at hv
   subst hv
   have ha18:=Y14
   have HA:Hid (a<1000000000000000000):=ha18
   clear ha hc1 hc19 ha18
   go_wp2_with (first
    |(go_at_call 112;refine (fC _ _).mono ?_;rintro e w6 ⟨rfl,rfl⟩;rw [hd])
    |(go_at_call 76;refine (eD hJr).mono ?_;rintro e w5 ⟨rfl,ha5⟩;have hJ5:=hJr.add ha5))
   go_ret
   exact ⟨Ep (by have:=HA.out;unfold wrap64;omega),hJ5,hu.trans (ha5.upd _)⟩
  |true=>
   exact Z10
theorem Eb(hJ:Jr w rb rs L)(n:dY 45 L=none):
  Calls prog 113 #[.pointer (some ⟨rb,0,none⟩)] w λe w'=>kK ((jq L).map λx=>(.int .i64 ((x.1:Int)),x.2)) rb rs w e w':=by
 cases hd0:nr (pk L) with
 |false=>
  have e0:jq L=none:=by
   cases hL:L with
   |nil=>rfl
   |cons r t=>
    exact Z141
  rw [e0]
  clear e0
  go_enter func113,ntmps113
  go_wp2_with (first
   |(go_at_call 77;refine (hJ2.wrong _ Ke).mono ?_;rintro e w4 ⟨⟨T,v,rfl⟩,hb⟩)
   |(go_at_call 112;refine (fC _ _).mono ?_;rintro e w3 ⟨rfl,rfl⟩;rw [hd0])
   |(go_at_call 76;refine (eD hJ1).mono ?_;rintro e w2 ⟨rfl,ha2⟩;have hJ2:=hJ1.add ha2)
   |(go_at_call 115;refine (fQ hJ n _ rfl).mono ?_;rintro e w1 ⟨rfl,ha1⟩;have hJ1:=hJ.add ha1;have hu1:=ha1.upd rb))
  exact Z184
 |true=>
  obtain ⟨r0,t0,hL0,hdr,-,-⟩:=uM hd0
  have e0:jq L=kZ (r0==48) 1 0 L:=by rw [hL0,jq,if_pos hdr]
  rw [e0]
  have hz:(pk L==48)=(r0==48):=by
   exact Z121
  generalize (r0==48)=z at *
  generalize hV:kZ z 1 0 L=V
  clear e0 hL0 hdr
  go_enter func113,ntmps113
  go_wp2_with (first
   |(go_at_call 76;refine (eD hJ2).mono ?_;rintro e w4 ⟨rfl,ha4⟩;have hJ4:=hJ2.add ha4)
   |(go_at_call 112;refine (fC _ _).mono ?_;rintro e w3 ⟨rfl,rfl⟩;rw [hd0])
   |(go_at_call 76;refine (eD hJ1).mono ?_;rintro e w2 ⟨rfl,ha2⟩;have hJ2:=hJ1.add ha2)
   |(go_at_call 115;refine (fQ hJ n _ rfl).mono ?_;rintro e w1 ⟨rfl,ha1⟩;have hJ1:=hJ.add ha1;have hu1:=ha1.upd rb))
  have hu4:=(hu1.trans (ha2.upd rb)).trans (ha4.upd rb)
  clear hJ1 hJ2 ha2 ha4 hu1 hd0
  go_loopw [5,6] (λnn cnt wr=>∃(c a:Nat) (L1:List Nat),1<=c/\c<=19/\cnt=.int .i64 c/\nn=.int .i64 a/\a<10 ^ (c-1)/\kZ z c a L1=V/\Jr wr rb rs L1/\Upd rb w wr) (λ_ _ wr=>rs.length-lM wr rb)
  case atStart=>exact ⟨1,0,_,NL _,by omega,rfl,rfl,by decide,hV,hJ4,hu4⟩
  obtain ⟨c,a,L1,hc1,hc19,rfl,rfl,ha,hv,hJr,hu⟩:=hrel
  clear hV hJ4 hu4 hJ
  cases hd:nr (pk L1) with
  |false=>
   rw [yU hd] at hv
   subst hv
   have ha18:=Y14
   have HA:Hid (a<1000000000000000000):=ha18
   clear ha hc1 hc19 ha18
   go_wp2_with (first
    |(go_at_call 112;refine (fC _ _).mono ?_;rintro e w6 ⟨rfl,rfl⟩;rw [hd])
    |(go_at_call 76;refine (eD hJr).mono ?_;rintro e w5 ⟨rfl,ha5⟩;have hJ5:=hJr.add ha5))
   go_ret
   exact ⟨rfl,hJ5,hu.trans (ha5.upd _)⟩
  |true=>
   exact Z10
theorem xx(hJ:Jr w rb rs L):
  Calls prog 113 #[.pointer (some ⟨rb,0,none⟩)] w λe w'=>kK ((rU L).map λx=>(.int .i64 x.1,x.2)) rb rs w e w':=by
 unfold rU
 cases n:dY 45 L with
 |none=>
  have h:=Eb hJ n
  show Calls _ _ _ _ λe w'=>kK (Option.map _ (Option.map _ (jq L))) rb rs w e w'
  rw [Option.map_map]
  exact h
 |some l=>
  have h:=Dg hJ n
  show Calls _ _ _ _ λe w'=>kK (Option.map _ (Option.map _ (jq l))) rb rs w e w'
  rw [Option.map_map]
  exact h
end
end Go.Proofs.YtmphmjkinmkidaaGreatDoor
