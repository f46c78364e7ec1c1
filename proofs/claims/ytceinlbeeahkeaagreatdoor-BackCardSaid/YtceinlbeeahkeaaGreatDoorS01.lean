import Derived.Deep.Upon
import Derived.WalkKit
import Derived.OwnWalk
import Derived.Deep.RegionHeldLaw
import Derived.Laws.BitsAllLaws
import Derived.RowKit
import Derived.KernelRfl
import Derived.Test.YtceinlbeeahkeaaGreatDoorProg
import Derived.LoopTactic
import Derived.Test.YtceinlbeeahkeaaGreatDoorS00
set_option linter.defProp false
open Go.Proofs.Tryz
set_option maxHeartbeats 1000000
namespace Go.Proofs.YtceinlbeeahkeaaGreatDoor
variable{p:Prop}
section
open Go Go.RowKit Go.Extern.Stop Go.Stop Go.Extern
variable{w:World}{N size:Nat}{v:Value}{cs:List Value}
def Y0(h:p:=by exact (run_append_upon (P:=P) hc t tx ty i z bytes ht hi hz hsize hby hzs (Upon.start (e:=e) hc) x n news hs (by simpa using h63) (by simpa using hbytes))):p:=h
def Y1(h:p:=by exact (Df (P:=P) hpos t tx o.type i z bytes ht hi hz hsize hby hzs h xv n news hs h63 hbytes)):p:=h
def Z98(h:p:=by
 rcases k.at' with e|⟨g,hg,e⟩
 ·rcases h.at' with e1|⟨g,hg,e1⟩
  ·exact .inl (e.trans e1)
  exact .inr ⟨g,hg,e.trans e1⟩
 exact .inr ⟨g,NM h.size hg,e⟩):p:=h
def Z111(h:p:=by
 have hc0:0<c'*size:=Nat.mul_pos Kc hpos
 exact World.block_lt_of_cell? _ _ (Option.isSome_iff_exists.1 (ho.there 0 hc0).1).choose_spec):p:=h
def Z153(h:p:=by
 rcases h.at' with e|⟨g,hg,e⟩
 ·rw [e];exact hne
 rw [e];intro e';cases e';omega):p:=h
def blk:Value->Option Nat
 |.slice (some a) _ _=>some a.block
 |_=>none
structure RowAt(w:World)(size g c N:Nat)(cs:List Value):Prop where
 lt:g<w.heap.size
 le:N<=c
 max:c<=maxLen
 len:cs.length=N*size
 holds:∀j,j<N*size->w.cell? ⟨g,j,none⟩=cs[j]?
 there:∀j,j<c*size->(w.cell? ⟨g,j,none⟩).isSome=true/\w.frozen? ⟨g,j,none⟩=false
def Row(w:World)(size:Nat)(v:Value)(N:Nat)(cs:List Value):Prop:=
 (v=.slice none 0 0/\N=0/\cs=[])\/∃g c,v=.slice (some ⟨g,0,none⟩) N c/\RowAt w size g c N cs
structure Grew(w:World)(v:Value)(w':World)(v':Value):Prop where
 os:w'.os=w.os
 output:w'.output=w.output
 size:w.heap.size<=w'.heap.size
 old:∀i,i<w.heap.size->blk v≠some i->w'.heap[i]?=w.heap[i]?
 at':blk v'=blk v\/∃g,w.heap.size<=g/\blk v'=some g
theorem Row.nil(w:World)(size:Nat):Row w size (.slice none 0 0) 0 []:=.inl ⟨rfl,rfl,rfl⟩
theorem Row.len(h:Row w size v N cs):cs.length=N*size:=by
 rcases h with ⟨_,rfl,rfl⟩|⟨g,c,_,h⟩
 ·simp
 exact h.len
theorem Row.shape(h:Row w size v N cs):∃a c,v=.slice a N c:=by
 rcases h with ⟨rfl,rfl,rfl⟩|⟨g,c,rfl,h⟩
 ·exact ⟨none,0,rfl⟩
 exact ⟨_,_,rfl⟩
theorem Row.blk_lt(h:Row w size v N cs){i:Nat}(hi:blk v=some i):i<w.heap.size:=by
 rcases h with ⟨rfl,_,_⟩|⟨g,c,rfl,h⟩
 ·cases hi
 obtain rfl:g=i:=by simpa [blk] using hi
 exact h.lt
theorem Row.carry{w':World}(h:Row w size v N cs)(hb:∀i,blk v=some i->w'.heap[i]?=w.heap[i]?):Row w' size v N cs:=by
 rcases h with h|⟨g,c,rfl,h⟩
 ·exact .inl h
 have e:=hb g rfl
 refine .inr ⟨g,c,rfl,?_,h.le,h.max,h.len,λj hj=>(World.cell?_of_block (a:=⟨g,j,none⟩) e).trans (h.holds j hj),λj hj=>⟨by rw [World.cell?_of_block (a:=⟨g,j,none⟩) e];exact (h.there j hj).1,(World.frozen?_of_block (a:=⟨g,j,none⟩) e).trans (h.there j hj).2⟩⟩
 rcases Nat.lt_or_ge g w'.heap.size with hl|hl
 ·exact hl
 rw [Array.getElem?_eq_none hl,Array.getElem?_eq_getElem h.lt] at e
 cases e
theorem Row.alloc(h:Row w size v N cs)(o:Obj):Row (w.alloc o) size v N cs:=
 h.carry λi hi=>Below.heap_alloc w o i (h.blk_lt hi)
theorem Row.drew(h:Row w size v N cs):Row w.drew size v N cs:=h.carry λ_ _=>rfl
theorem Grew.refl(w:World)(v:Value):Grew w v w v:=⟨rfl,rfl,NL _,λ_ _ _=>rfl,.inl rfl⟩
theorem Grew.alloc(w:World)(v:Value)(o:Obj):Grew w v (w.alloc o) v:=
 ⟨rfl,rfl,by show w.heap.size<=(w.heap.push o).size;rw [Array.size_push];omega,λi hi _=>Below.heap_alloc w o i hi,.inl rfl⟩
theorem Grew.drew(w:World)(v:Value):Grew w v w.drew v:=⟨rfl,rfl,NL _,λ_ _ _=>rfl,.inl rfl⟩
theorem Grew.trans{w1 w2:World}{v1 v2:Value}(h:Grew w v w1 v1)(k:Grew w1 v1 w2 v2):Grew w v w2 v2:=by
 refine ⟨k.os.trans h.os,k.output.trans h.output,NM h.size k.size,λi hi hne=>?_,?_⟩
 ·have h1:blk v1≠some i:=by
   exact Z153
  rw [k.old i (NK hi h.size) h1,h.old i hi hne]
 exact Z98
theorem Grew.cell{w':World}{v':Value}(h:Grew w v w' v'){b o:Nat}{x:Value}(hb:b<w.heap.size)(hne:blk v≠some b)(hx:w.cell? ⟨b,o,none⟩=some x):w'.cell? ⟨b,o,none⟩=some x:=
 (World.cell?_of_block (a:=⟨b,o,none⟩) (h.old b hb hne)).trans hx
theorem Df{P:Program}{e:TypeId}{size:Nat}(hpos:0<size)(t tx ty:TypeId)(i:TypeInfo)(z:Value)(bytes:Nat)(ht:P.underlying t=some (.slice e))(hi:P.info? e=some i)(hz:i.zero=some z)(hsize:i.size=size)(hby:i.bytes=bytes)(hzs:z.cells.size=size)
  {w:World} {v:Value} {N:Nat} {cs:List Value} (h:Row w size v N cs) (x:Value) (n:Nat) (news:List Value) (hs:Src P size tx x n news w) (h63:N+n<=maxLen) (hbytes:(N+n)*bytes<=140737488355328):
  ∃v' w',(Builtin.append_ #[t,tx] ty #[v,x]).run P w=.ok v' w'/\Row w' size v' (N+n) (cs++news)/\Grew w v w' v':=by
 rcases h with ⟨rfl,rfl,rfl⟩|⟨g,c,rfl,h⟩
 ·have hc:Came w size none 0 0 0 0 []:=⟨NL _,λh=>absurd h (Nat.lt_irrefl _),λh=>absurd h (Nat.lt_irrefl _),by simp,λj u hu=>by simp at hu,λj hj=>by simp at hj⟩
  obtain ⟨v',w',hr,hu⟩:=Y0
  have hr0:Upon.next 0 0 size 0 0 n=0:=by
   unfold Upon.next
   by_cases h0:0+0+n<=0
   ·obtain rfl:n=0:=Kc
    simp
   rw [if_neg h0]
  rw [hr0] at hu
  refine ⟨v',w',hr,?_,hu.kept.1,hu.kept.2.1,hu.kept.size,λi hi _=>hu.kept.block hi (λ_ ⟨j,hj,_⟩ _=>absurd hj (Nat.not_lt_zero _)),?_⟩
  ·rcases hu.val with ⟨hle,hv,hrr⟩|⟨_,g,c',hv,ho⟩
   ·obtain rfl:n=0:=Kc
    have hn:news=[]:=NT (by simpa using hs.newsLen)
    exact .inl ⟨by simpa using hv,rfl,by simp [hn]⟩
   refine .inr ⟨g,c',by simpa using hv,?_,by simpa using ho.le,ho.max,by simpa using hs.newsLen,λj hj=>by simpa using ho.holds j La,ho.there⟩
   have hle:=ho.le
   have hn:0<n:=Kc
   exact Z111
  rcases hu.val with ⟨hle,hv,_⟩|⟨_,g,c',hv,ho⟩
  ·exact .inl (by rw [hv];rfl)
  exact .inr ⟨g,ho.new,by rw [hv];rfl⟩
 have hc:Came w size (some ⟨g,0,none⟩) g 0 N c cs:=by
  refine ⟨h.le,λ_=>rfl,λ_=>h.lt,h.len,λj u hu=>?_,λj hj=>?_⟩
  ·have hj:j<N*size:=by rw [<-h.len];exact (Oi hu).1
   rw [NV,h.holds j hj,hu]
  have hle:N*size<=c*size:=Nat.mul_le_mul_right _ h.le
  rw [Nat.sub_mul] at hj
  rw [NV]
  exact h.there _ Kc
 obtain ⟨v',w',hr,hu⟩:=Y0
 have hkept:∀i,i<w.heap.size->g≠i->w'.heap[i]?=w.heap[i]?:=λi hi hne=>hu.kept.block hi (λp ⟨j,_,hp⟩ e=>by
  rw [hp] at e
  exact hne e)
 refine ⟨v',w',hr,?_,hu.kept.1,hu.kept.2.1,hu.kept.size,λi hi hne=>hkept i hi (λe=>hne (by rw [<-e];rfl)),?_⟩
 ·rcases hu.val with ⟨hle,hv,hrr⟩|⟨_,g',c',hv,ho⟩
  ·simp only [Nat.zero_add] at hle hv hrr
   refine .inr ⟨g,c,hv,NK h.lt hu.kept.size,hle,h.max,by rw [List.length_append,h.len,hs.newsLen,Nat.add_mul],λj hj=>?_,λj hj=>?_⟩
   ·by_cases hc0:0<c
    ·have:=hu.inArray hc hc0 (by simpa using hrr) j La
     rwa [NV,List.nil_append] at this
    obtain rfl:c=0:=Kc
    obtain ⟨rfl,rfl⟩:N=0/\n=0:=Kc
    simp at hj
   have hfr:w'.frozen? ⟨g,j,none⟩=false:=(hu.frozen ⟨g,j,none⟩ h.lt).trans (h.there j hj).2
   refine ⟨?_,hfr⟩
   have hin:∀j',j'<Upon.next N c size 0 0 n->w'.cell? ⟨g,0+N*size+j',none⟩=([]++news)[j']?:=hu.written
   by_cases hw:N*size<=j/\j<N*size+Upon.next N c size 0 0 n
   ·have:=hin (j-N*size) Kc
    rw [NV,show N*size+(j-N*size)=j by omega] at this
    rw [this,NP (by rw [<-hrr];omega)]
    rfl
   rw [hu.old h.lt (λj' hj' ⟨_,e'⟩=>by omega)]
   exact (h.there j hj).1
  refine .inr ⟨g',c',by simpa using hv,?_,by simpa using ho.le,ho.max,by rw [List.length_append,h.len,hs.newsLen,Nat.add_mul],λj hj=>by simpa using ho.holds j La,ho.there⟩
  have hle:=ho.le
  exact Z111
 rcases hu.val with ⟨hle,hv,_⟩|⟨_,g',c',hv,ho⟩
 ·exact .inl (by rw [hv];rfl)
 exact .inr ⟨g',ho.new,by rw [hv];rfl⟩
theorem dH{P:Program}(w:World){ops:Array Oper}{rest:List Oper}{o:Oper}{a:Act}{Q:Exit->Act->World->Prop}(hgd:o.guard=none)(s x:Operand)(t tx:TypeId)
  (ho:o.op=.call { callee:=.builtin .append,args:=#[s,x],argTypes:=#[t,tx] })
  {e:TypeId} {size:Nat} (hpos:0<size) (i:TypeInfo) (z:Value) (bytes:Nat) (ht:P.underlying t=some (.slice e)) (hi:P.info? e=some i) (hz:i.zero=some z) (hsize:i.size=size) (hby:i.bytes=bytes) (hzs:z.cells.size=size)
  {v:Value} {N:Nat} {cs:List Value} (hv:a.eval s=v) (h:Row w size v N cs) (xv:Value) (n:Nat) (news:List Value) (hx:a.eval x=xv) (hs:Src P size tx xv n news w) (h63:N+n<=maxLen) (hbytes:(N+n)*bytes<=140737488355328)
  (hK:∀v' w',Row w' size v' (N+n) (cs++news)->Grew w v w' v'->wpList P ops Q rest (a.put o.dst v') w'):wpList P ops Q (o::rest) a w:=by
 refine wpList_plain hgd λK hK'=>?_
 obtain ⟨v',w',hrun,r1,r2⟩:=Y1
 unfold Oper.wp
 simp [execOp,ho,resolve,invoke,builtin,hv,hx,hrun,Result.andThen]
 exact hK' _ _ (hK v' w' r1 r2)
theorem Src.one{P:Program}(w:World){tx e':TypeId}(hk:P.underlying tx=some (.slice e'))(te:TypeId)(x:Value)(h1:x.oneCell'=true):Src P 1 tx (.slice (some ⟨w.heap.size,0,none⟩) 1 1) 1 [x] (w.alloc (.cells #[x] te)):=by
 refine Src.ofSlice _ hk _ 1 1 [x] rfl (λj u hu=>?_) (λu hu=>by simp at hu;rw [hu];exact h1)
 match j,hu with
 |0,hu=>
  rw [Addr.add_lit,NV]
  have:u=x:=by simpa using hu.symm
  rw [this]
  simp
 |j+1,hu=>simp at hu
theorem di{P:Program}(w:World){tx e':TypeId}(hk:P.underlying tx=some (.slice e'))(g:Nat)(hg:g=w.heap.size)(te:TypeId)(x:Value)(h1:x.oneCell'=true):Src P 1 tx (.slice (some ⟨g,0,none⟩) 1 1) 1 [x] (w.alloc (.cells #[x] te)):=by
 subst hg
 exact Src.one w hk te x h1
end
section
open Go Go.RowKit
theorem tk{P:Program}{ops:Array Oper}{Q:Exit->Act->World->Prop}{md:Region.Mode}{S:World->Prop}{oi:Oper}{v:Value}{fuel n:Nat}{listed:Array Bool}{a a':Act}{w:World}(i:Nat)
  (hn:n=fuel+1:=by rfl) (hi:ops[i]?=some oi:=by rfl) (hs:Region.noSelect ops=true:=by kernel_rfl) (hf:Region.free md ops listed i=true:=by kernel_rfl) (hr:(Region.ready md ops listed).contains i=true:=by kernel_rfl)
  (hQ:∀c a w,Q (.panic c) (a.put oi.dst v) w->Q (.panic c) a w:=by exact λ_ _ _ h=>h)
  (hy:YieldsIf P ops S oi v a:=by exact .inl ⟨by rfl,by intro w hSw;(try dsimp only at hSw);go_simp;try (with_reducible rfl)⟩) (hS:S w:=by exact hH)
  (he:a.put oi.dst v=a':=by (try simp only [Act.put,List.getElem_toArray,List.getElem_cons_zero,List.getElem_cons_succ,List.setIfInBounds_toArray,List.set_cons_zero,List.set_cons_succ]);(try exact rfl))
  (h:wpAnyH P md ops Q S fuel (listed.setIfInBounds i true) a' w):wpAnyH P md ops Q S n listed a w:=by
 subst hn
 exact wpAnyH_take hi hs hf hr hQ hy hS (he ▸ h)
theorem tu{P:Program}{ops:Array Oper}{Q:Exit->Act->World->Prop}{md:Region.Mode}{S:World->Prop}{oi:Oper}{fuel n:Nat}{listed:Array Bool}{a a':Act}{w:World}(i:Nat)
  (hn:n=fuel+1:=by rfl) (hi:ops[i]?=some oi:=by rfl) (hs:Region.noSelect ops=true:=by kernel_rfl) (hf:Region.free md ops listed i=true:=by kernel_rfl) (hr:(Region.ready md ops listed).contains i=true:=by kernel_rfl)
  (hQ:∀c a w,Q (.panic c) (a.put oi.dst undef) w->Q (.panic c) a w:=by exact λ_ _ _ h=>h)
  (hy:YieldsIf P ops S oi undef a:=by exact .inr ⟨by rfl,rfl⟩) (hS:S w:=by exact hH)
  (he:a.put oi.dst undef=a':=by (try simp only [Act.put,List.getElem_toArray,List.getElem_cons_zero,List.getElem_cons_succ,List.setIfInBounds_toArray,List.set_cons_zero,List.set_cons_succ]);(try exact rfl))
  (h:wpAnyH P md ops Q S fuel (listed.setIfInBounds i true) a' w):wpAnyH P md ops Q S n listed a w:=by
 subst hn
 exact wpAnyH_take hi hs hf hr hQ hy hS (he ▸ h)
theorem rd{P:Program}{ops:Array Oper}{Q:Exit->Act->World->Prop}{md:Region.Mode}{S:World->Prop}{o:Oper}{fuel n:Nat}{listed:Array Bool}{a:Act}{w:World}(i:Nat)
  (h:∀K':Act->World->Prop,Shut (∀a w,S w->(S w->wpAnyH P md ops Q S fuel (listed.setIfInBounds i true) a w)->K' a w)->if Region.wanted o (yielded ops a.tmps)=true then Oper.wp P o a w K' Q else K' (a.put o.dst undef) w)
  (hr:Region.ready md ops listed=[i]:=by kernel_rfl) (ho:ops[i]?=some o:=by rfl) (hn:n=fuel+1:=by rfl):wpAnyH P md ops Q S n listed a w:=by
 subst hn
 exact wpAnyH_ready hr (by simp) (AllReadyH.cons ho h AllReadyH.nil)
def Kf(h:p:=by kernel_rfl):p:=h
def KA(h:p:=by simp [results,results59,go_sem,r0,r1,r2,r3,r4,r5]):p:=h
def Lc(h:p:=by simp [results,results114,go_sem,r0,r1,r2,r3,r4,r5]):p:=h
def Ld(h:p:=by simp [results,results74,go_sem,r0,r1,r2,r3,r4,r5]):p:=h
def Li(h:p:=by simp only [results,results158,go_sem];simp [go_sem,r0,r1,r2,r3,r4,r5]):p:=h
def Lv(h:p:=by simp [results,results149,go_sem,r0,r1,r2,r3,r4,r5,r6,r7,r8,r9]):p:=h
def LY(h:p:=by simp [results,results110,go_sem,r0,r1,r2,r3,r4,r5]):p:=h
def LZ(h:p:=by simp [results,results111,go_sem,r0,r1,r2,r3,r4,r5]):p:=h
def Ma(h:p:=by simp [results,results146,go_sem,p0,p1,p2,p3,p4,p5]):p:=h
def Me(h:p:=by simp [results,results30,go_sem,r0,r1,r2,r3,r4,r5]):p:=h
def Mf(h:p:=by simp [results,results82,go_sem,r0,r1,r2,r3,r4,r5]):p:=h
def Mh(h:p:=by simp [results,results36,go_sem,r0,r1,r2,r3,r4,r5]):p:=h
def Mi(h:p:=by simp [results,results21,go_sem,r0,r1,r2,r3,r4,r5]):p:=h
def Mj(h:p:=by simp [results,results10,go_sem,r0,r1,r2,r3,r4,r5]):p:=h
def MP(h:p:=by simp [go_sem]):p:=h
abbrev NW:=@World.block_lt_of_cell?
abbrev NY:=@World.cell?_of_block
abbrev NZ:=@Below.heap_setCell
abbrev Oa:=@World.frozen?_of_block
abbrev Ob:=@World.cell?_setCell_other
abbrev Oc:=@Below.heap_alloc
abbrev Od:=@World.frozen?_setCell
abbrev Oe:=@World.cell?_setCell_same
abbrev Og:=@World.cell?_alloc_new
end
section
open Go
def zig(n:Int):Nat:=if n<0 then (-2*n-1).toNat else (2*n).toNat
def eQ(z:Nat):List UInt8:=if h:z<128 then [UInt8.ofNat z] else UInt8.ofNat (z % 128+128)::eQ (z / 128)
termination_by z
decreasing_by omega
def low(v:Nat):Nat->List UInt8
 |0=>[]
 |k+1=>UInt8.ofNat (v % 256)::low (v / 256) k
theorem kr(v k:Nat):(low v k).length=k:=by
 induction k generalizing v with
 |zero=>rfl
 |succ k ih=>simp [low,ih]
theorem qh(x:Int):IntKind.u64.wrap x=x % 18446744073709551616:=Mo
theorem DS(x:Int):IntKind.u8.wrap x=x % 256:=Mo
theorem JN(x:Nat)(h:x<18446744073709551616):x ^^^ 18446744073709551615=18446744073709551615-x:=by
 apply Nat.eq_of_testBit_eq
 intro i
 have e1:18446744073709551615-x=2 ^ 64-(x+1):=Kc
 have e2:(18446744073709551615:Nat)=2 ^ 64-1:=Ke
 rw [Nat.testBit_xor,e1,Nat.testBit_two_pow_sub_succ Ky]
 rw [e2,Nat.testBit_two_pow_sub_one]
 by_cases hi:i<64
 ·simp [hi]
 have:x.testBit i=false:=Nat.testBit_lt_two_pow (NK h (by rw [show (18446744073709551616:Nat)=2 ^ 64 by decide];exact Nat.pow_le_pow_right Kc Kc))
 simp [hi,this]
theorem jT(n:Int)(h0 : -9223372036854775808<=n)(h1:n<=9223372036854775807):zig n<18446744073709551616:=by
 unfold zig;split <;> omega
theorem zig_eq(n:Int)(h0 : -9223372036854775808<=n)(h1:n<=9223372036854775807):
  bits .xor .u64 (IntKind.u64.wrap (IntKind.u64.wrap n*2)) (IntKind.u64.wrap (n / 9223372036854775808))=(zig n:Int):=by
 rw [qh,qh,qh]
 by_cases h:n<0
 ·have e1:n / 9223372036854775808 = -1:=Kc
  have e2:(n % 18446744073709551616*2) % 18446744073709551616=(((2*n+18446744073709551616).toNat:Nat):Int):=Kc
  have e3:(-1:Int) % 18446744073709551616=((18446744073709551615:Nat):Int):=Ke
  rw [e1,e2,e3,u64_xor_nat _ _ Kc Kc,JN _ Kc]
  unfold zig
  rw [if_pos h]
  omega
 have e1:n / 9223372036854775808=0:=Kc
 have e2:(n % 18446744073709551616*2) % 18446744073709551616=(((2*n).toNat:Nat):Int):=Kc
 have e3:(0:Int) % 18446744073709551616=((0:Nat):Int):=Ke
 rw [e1,e2,e3,u64_xor_nat _ _ Kc Kc,Nat.xor_zero]
 unfold zig
 rw [if_neg h]
theorem Ja:(List.range 256).all (λx=>x ||| 128==x % 128+128)=true:=by kernel_rfl
theorem or128(z:Nat):bits .or .u8 (IntKind.u8.wrap (z:Int)) 128=((UInt8.ofNat (z % 128+128)).toNat:Int):=by
 have e1:(z:Int) % 256=((z % 256:Nat):Int):=Kc
 have e2:(128:Int)=((128:Nat):Int):=rfl
 have e3:∀x,x<256->x ||| 128=x % 128+128:=λx hx=>by simpa using List.all_eq_true.1 Ja x (List.mem_range.2 hx)
 rw [DS,e1,e2,u8_or_nat _ _ Kc Kc,e3 _ Kc]
 rw [UInt8.toNat_ofNat_of_lt' Lj]
 omega
theorem kV(z:Nat)(h:z<128):eQ z=[UInt8.ofNat z]:=by rw [eQ,dif_pos h]
theorem rO(z:Nat)(h:128<=z):eQ z=UInt8.ofNat (z % 128+128)::eQ (z / 128):=by rw [eQ,dif_neg Kc]
theorem wm(k:Nat):∀z,z<128 ^ (k+1)->(eQ z).length<=k+1:=by
 induction k with
 |zero=>intro z h;rw [kV z Ky];simp
 |succ k ih=>
  intro z h
  by_cases hz:z<128
  ·rw [kV z hz];simp
  rw [rO z Kc]
  have:=ih (z / 128) (by rw [Nat.pow_succ] at h;exact Nat.div_lt_of_lt_mul (by rw [Nat.mul_comm];exact h))
  simp;omega
theorem fO(z:Nat)(h:z<18446744073709551616):(eQ z).length<=10:=wm 9 z (NK h Ke)
theorem pow7(k:Nat):2 ^ (7*k)=128 ^ k:=by rw [Nat.pow_mul]
theorem shl7(y k:Nat)(hy:y*128 ^ k<18446744073709551616):IntKind.u64.wrap ((y:Int)*2 ^ (7*(k:Int)).toNat)=((y*128 ^ k:Nat):Int):=by
 have e:(7*(k:Int)).toNat=7*k:=Kc
 have e2:(y:Int)*2 ^ (7*k)=((y*128 ^ k:Nat):Int):=by rw [<-pow7];push_cast;rfl
 rw [e,e2,qh]
 omega
theorem or7(a y k:Nat)(ha:a<128 ^ k)(hy:a+y*128 ^ k<18446744073709551616):bits .or .u64 (a:Int) ((y*128 ^ k:Nat):Int)=((a+y*128 ^ k:Nat):Int):=by
 rw [u64_or_nat _ _ Kc Kc]
 have h:=Nat.shiftLeft_add_eq_or_of_lt (i:=7*k) (b:=a) (by rw [pow7];exact ha) y
 rw [Nat.shiftLeft_eq,pow7] at h
 rw [Nat.or_comm,<-h,Nat.add_comm]
def jR(z:Nat):Int:=if z % 2=0 then ((z / 2:Nat):Int) else -((z / 2:Nat):Int)-1
theorem zF(n:Int):jR (zig n)=n:=by
 unfold jR zig
 split <;> split <;> omega
end
section
open Go Go.RowKit Go.Extern.Stop Go.Stop Go.Extern
def Y2(h:p:=by exact (Option.map_eq_some_iff.1 Tryz.infoU8)):p:=h
def Y3(h:p:=by exact (show i.zero=some (.int .u8 0)/\i.size=1/\i.bytes=1 from by simpa using hi')):p:=h
def Z176(h:p:=by
 rw [DS,UInt8.toNat_ofNat_of_lt' Lj];omega):p:=h
def Z221(h:p:=by
 unfold ic
 rw [e1,e2]
 exact hrow2):p:=h
theorem Tryz.infoU8:(prog.info? 5).map (λi=>(i.zero,i.size,i.bytes))=some (some (.int .u8 0),1,1):=Kf
def cellsOf(bs:List UInt8):List Value:=bs.map λb=>Value.int .u8 b.toNat
theorem iL(a b:List UInt8):cellsOf (a++b)=cellsOf a++cellsOf b:=List.map_append
abbrev ic(w:World)(v:Value)(bs:List UInt8):Prop:=Row w 1 v bs.length (cellsOf bs)
theorem jV(n:Int)(v:Value)(bs:List UInt8)(w:World)(hN:bs.length<=70368744177664)(h0 : -9223372036854775808<=n)(h1:n<=9223372036854775807)(hr:ic w v bs):
  Calls prog 101 #[v,.int .i64 n] w λe w'=>∃v',e=.returned v'/\ic w' v' (bs++eQ (zig n))/\Grew w v w' v':=by
 obtain ⟨i,hi,hi'⟩:=Y2
 obtain ⟨hz0,hz1,hz2⟩:=Y3
 have hzl:=jT n h0 h1
 have hzig:=zig_eq n h0 h1
 have HL:=fO (zig n) hzl
 generalize zig n=z0 at *
 have HN:Hid (bs.length<=70368744177664):=hN
 have HZ0:Hid (z0<18446744073709551616):=hzl
 go_enter func101,ntmps101
 go_wp2
 clear hzig h0 h1 hN hzl
 go_loopw [0,5] (λto rest wr=>∃(z:Nat) (bs':List UInt8),rest=.int .u64 z/\z<18446744073709551616/\ic wr to bs'/\Grew w v wr to/\bs'++eQ z=bs++eQ z0) (λ_ rest _=>(intOf rest).toNat)
 case atStart=>exact ⟨z0,bs,rfl,HZ0.out,hr,Grew.refl _ _,rfl⟩
 obtain ⟨z,bs',rfl,hz,hrow,hg,heq⟩:=hrel
 have hlen:bs'.length+(eQ z).length=bs.length+(eQ z0).length:=by rw [<-List.length_append,heq,List.length_append]
 have HZ:Hid (z<18446744073709551616):=hz
 have hN:=HN.out
 by_cases hlt:z<128
 ·have hv:=kV z hlt
  have h8:IntKind.u8.wrap (z:Int)=((UInt8.ofNat z).toNat:Int):=by
   exact Z176
  have HE:Hid (bs'++[UInt8.ofNat z]=bs++eQ z0):=by show _=_;rw [<-heq,hv]
  have HB:Hid (bs'.length+1<=70368744177674):=MC
  have hge:(128<=(z:Int))=False:=Kt
  have HLT:Hid (z<128):=hlt
  clear heq hv hlen hz hN HL hlt
  go_wp2_with (at_builtin;refine dH _ rfl (.tmp 23) (.tmp 26) 76 76 rfl Ke i (.int .u8 0) 1 underlying76 hi hz0 hz1 hz2 rfl rfl (hrow.alloc _) _ 1 [_] rfl (Src.one _ underlying76 _ _ rfl) KS Ls ?_;intro v2 w2 hrow2 hg2)
  obtain ⟨a2,c2,rfl⟩:=hrow2.shape
  go_ret
  refine ⟨_,rfl,?_,(hg.trans (Grew.alloc _ _ _)).trans hg2⟩
  have e1:cellsOf (bs++eQ z0)=cellsOf bs'++[Value.int .u8 (IntKind.u8.wrap (z:Int))]:=by rw [<-HE.out,iL,h8];rfl
  have e2:(bs++eQ z0).length=bs'.length+1:=by rw [<-HE.out];simp
  exact Z221
 have hv:=rO z Kc
 have h8:=or128 z
 have HE:Hid ((bs'++[UInt8.ofNat (z % 128+128)])++eQ (z / 128)=bs++eQ z0):=by show _=_;rw [<-heq,hv];simp
 have HB:Hid (bs'.length+1<=70368744177674):=MC
 have H8:Hid (bits .or .u8 (IntKind.u8.wrap (z:Int)) 128=((UInt8.ofNat (z % 128+128)).toNat:Int)):=h8
 have hge:(128<=(z:Int))=True:=Kt
 have HLT:Hid (¬ z<128):=hlt
 clear heq hv hlen h8 hz hN HL hlt
 go_wp2_with (at_builtin;refine dH _ rfl (.tmp 15) (.tmp 19) 76 76 rfl Ke i (.int .u8 0) 1 underlying76 hi hz0 hz1 hz2 rfl rfl (hrow.alloc _) _ 1 [_] rfl (Src.one _ underlying76 _ _ rfl) KS Ls ?_;intro v2 w2 hrow2 hg2)
 go_roundw
 case rel=>
  refine ⟨z / 128,bs'++[UInt8.ofNat (z % 128+128)],by go_num,by have:=HZ.out;omega,?_,(hg.trans (Grew.alloc _ _ _)).trans hg2,HE.out⟩
  have e1:cellsOf (bs'++[UInt8.ofNat (z % 128+128)])=cellsOf bs'++[Value.int .u8 (bits .or .u8 (IntKind.u8.wrap (z:Int)) 128)]:=by rw [iL,H8.out];rfl
  unfold ic
  rw [e1,List.length_append]
  exact hrow2
 have:=HLT.out;simp [intOf];omega
theorem JB(v k:Nat):low v (k+1)=low v k++[UInt8.ofNat (v / 256 ^ k % 256)]:=by
 induction k generalizing v with
 |zero=>simp [low]
 |succ k ih=>
  rw [show low v (k+1+1)=UInt8.ofNat (v % 256)::low (v / 256) (k+1) from rfl,ih,show low v (k+1)=UInt8.ofNat (v % 256)::low (v / 256) k from rfl,List.cons_append,Nat.div_div_eq_div_mul,<-Nat.pow_succ']
theorem xg(b:Nat)(k:Nat)(v:Value)(bs:List UInt8)(w:World)(hN:bs.length<=70368744177664)(hb:b<18446744073709551616)(hk:k<=8)(hr:ic w v bs):
  Calls prog 102 #[v,.int .u64 b,.int .i64 k] w λe w'=>∃v',e=.returned v'/\ic w' v' (bs++low b k)/\Grew w v w' v':=by
 obtain ⟨i,hi,hi'⟩:=Y2
 obtain ⟨hz0,hz1,hz2⟩:=Y3
 have HN:Hid (bs.length<=70368744177664):=hN
 have HB:Hid (b<18446744073709551616):=hb
 have HK:Hid (k<=8):=hk
 clear hN hb
 go_enter func102,ntmps102
 go_wp2
 go_loopw [0,1,8] (λto rest cnt wr=>∃(j:Nat),j<=k/\cnt=.int .i64 j/\rest=.int .u64 ((b / 256 ^ j:Nat):Int)/\ic wr to (bs++low b j)/\Grew w v wr to) (λ_ _ cnt _=>k-(intOf cnt).toNat)
 case atStart=>exact ⟨0,NQ _,rfl,by simp,by simpa [low] using hr,Grew.refl _ _⟩
 obtain ⟨j,hj,rfl,rfl,hrow,hg⟩:=hrel
 by_cases hlt:j<k
 ·have hls:=JB b j
  have hll:=kr b j
  have h8:IntKind.u8.wrap ((b / 256 ^ j:Nat):Int)=((UInt8.ofNat (b / 256 ^ j % 256)).toNat:Int):=by
   exact Z176
  have HS:Hid (low b (j+1)=low b j++[UInt8.ofNat (b / 256 ^ j % 256)]):=hls
  have H8:Hid (IntKind.u8.wrap ((b / 256 ^ j:Nat):Int)=((UInt8.ofNat (b / 256 ^ j % 256)).toNat:Int)):=h8
  have HD:Hid (b / 256 ^ (j+1)=b / 256 ^ j / 256):=by show _=_;rw [Nat.pow_succ,Nat.div_div_eq_div_mul]
  have HBD:Hid ((bs++low b j).length+1<=70368744177674):=by show _<=_;have:=HN.out;rw [List.length_append,hll];omega
  clear hls hll h8
  generalize b / 256 ^ j=r at *
  go_wp2_with (at_builtin;refine dH _ rfl (.tmp 10) (.tmp 13) 76 76 rfl Ke i (.int .u8 0) 1 underlying76 hi hz0 hz1 hz2 rfl rfl (hrow.alloc _) _ 1 [_] rfl (Src.one _ underlying76 _ _ rfl) (by have:=HBD.out;unfold maxLen;omega) (by have:=HBD.out;omega) ?_;intro v2 w2 hrow2 hg2)
  go_roundw
  case rel=>
   refine ⟨j+1,by omega,by go_num,by rw [HD.out];go_num,?_,(hg.trans (Grew.alloc _ _ _)).trans hg2⟩
   have e1:cellsOf (bs++low b (j+1))=cellsOf (bs++low b j)++[Value.int .u8 (IntKind.u8.wrap (r:Int))]:=by rw [HS.out,<-List.append_assoc,iL,H8.out];rfl
   have e2:(bs++low b (j+1)).length=(bs++low b j).length+1:=by rw [HS.out];simp;omega
   exact Z221
  simp [intOf];omega
 obtain rfl:j=k:=Kc
 obtain ⟨a2,c2,hv⟩:=hrow.shape
 go_wp2
 go_ret
 exact ⟨_,rfl,hrow,hg⟩
theorem ve(t:ByteArray)(v:Value)(bs:List UInt8)(w:World)(hN:bs.length+t.size<=70368744177600)(hr:ic w v bs):
  Calls prog 103 #[v,.string t] w λe w'=>∃v',e=.returned v'/\ic w' v' (bs++eQ (zig t.size)++t.data.toList)/\Grew w v w' v':=by
 obtain ⟨i,hi,hi'⟩:=Y2
 obtain ⟨hz0,hz1,hz2⟩:=Y3
 have hput:=jV (t.size:Int) v bs w Kc Kc Kc hr
 have HL:Hid ((eQ (zig (t.size:Int))).length<=10):=fO _ (jT _ Kc Kc)
 have HN:Hid (bs.length+t.size<=70368744177600):=hN
 clear hN
 go_enter func103,ntmps103
 go_wp2_with (first
  |(go_at_call 101;refine hput.mono ?_;rintro e w1 ⟨v1,rfl,hrow1,hg1⟩)
  |(at_builtin;refine dH _ rfl (.tmp 8) (.tmp 9) 76 9 rfl Ke i (.int .u8 0) 1 underlying76 hi hz0 hz1 hz2 rfl rfl hrow1 _ t.size (byteCells t) rfl (Src.ofString _ underlying9 t) (by have:=HN.out;have:=HL.out;rw [List.length_append];unfold maxLen;omega) (by have:=HN.out;have:=HL.out;rw [List.length_append];omega) ?_;intro v2 w2 hrow2 hg2))
 obtain ⟨a2,c2,rfl⟩:=hrow2.shape
 go_ret
 refine ⟨_,rfl,?_,hg1.trans hg2⟩
 have e1:cellsOf (bs++eQ (zig t.size)++t.data.toList)=cellsOf (bs++eQ (zig t.size))++byteCells t:=by rw [iL];rfl
 have e2:(bs++eQ (zig t.size)++t.data.toList).length=(bs++eQ (zig t.size)).length+t.size:=by rw [List.length_append];simp
 exact Z221
end
section
open Go Go.RowKit
variable{W w:World}
def Z177(h:p:=by
 rcases List.mem_cons.1 hd with rfl|hd
 ·exact h.1
 exact ih h.2 hd):p:=h
def Z182(h:p:=by
 rcases List.mem_cons.1 h with rfl|h
 ·omega
 have:=ih h;omega):p:=h
inductive Dat where
 |mk (kind:Int) (int:Int) (bits:Nat) (text:ByteArray) (names:List ByteArray) (kids:List Dat):Dat
namespace Dat
def kind:Dat->Int|.mk k _ _ _ _ _=>k
def int:Dat->Int|.mk _ n _ _ _ _=>n
def bits:Dat->Nat|.mk _ _ b _ _ _=>b
def text:Dat->ByteArray|.mk _ _ _ t _ _=>t
def names:Dat->List ByteArray|.mk _ _ _ _ ns _=>ns
def kids:Dat->List Dat|.mk _ _ _ _ _ ks=>ks
end Dat
def jE(w:World)(a:Option Addr)(ns:List ByteArray):Prop:=
 ns=[]\/∃b o,a=some ⟨b,o,none⟩/\b<w.heap.size/\∀i (h:i<ns.length),w.cell? ⟨b,o+i,none⟩=some (.string ns[i])
mutual
def Dat.lies(w:World):Dat->List Value->Prop
 |.mk k n b t ns ks,cs=>∃na nc ka kc,cs=[.int .i64 k,.int .i64 n,.int .u64 b,.string t,.slice na ns.length nc,.slice ka ks.length kc] /\
   (-9223372036854775808<=k/\k<=9223372036854775807)/\(-9223372036854775808<=n/\n<=9223372036854775807)/\b<18446744073709551616/\jE w na ns/\Dat.lieAll w ka 0 ks
def Dat.lieAll(w:World)(a:Option Addr):Nat->List Dat->Prop
 |_,[]=>True
 |i,d::r=>(∃b o cs,a=some ⟨b,o,none⟩/\b<w.heap.size/\cs.length=6/\(∀f,f<6->w.cell? ⟨b,o+i*6+f,none⟩=cs[f]?)/\d.lies w cs)/\Dat.lieAll w a (i+1) r
end
mutual
def Dat.enc:Dat->List UInt8
 |.mk k n b t ns ks=>
  if k=2 then [UInt8.ofNat (n % 256).toNat]
  else if k=3\/k=4\/k=10 then eQ (zig n)
  else if k=5 then low b 4
  else if k=6 then low b 8
  else if k=7\/k=8 then eQ (zig t.size)++t.data.toList
  else if k=14 then t.data.toList
  else if k=9 then aB ks
  else if k=13 then eQ (zig n)++aB ks
  else if k=11 then (if ks.length=0 then [] else eQ (zig ks.length))++aB ks++eQ (zig 0)
  else if k=12 then (if ks.length=0 then [] else eQ (zig ks.length))++aG ns ks++eQ (zig 0)
  else []
def aB:List Dat->List UInt8
 |[]=>[]
 |d::r=>d.enc++aB r
def aG:List ByteArray->List Dat->List UInt8
 |s::ss,d::r=>(eQ (zig s.size)++s.data.toList)++d.enc++aG ss r
 |_,_=>[]
end
mutual
def Dat.shaped:Dat->Prop
 |.mk k _ _ _ ns ks=>(k=12->ns.length=ks.length)/\ks.length<=70368744177000/\aT ks
def aT:List Dat->Prop
 |[]=>True
 |d::r=>d.shaped/\aT r
end
mutual
def Dat.count:Dat->Nat
 |.mk _ _ _ _ _ ks=>1+az ks
def az:List Dat->Nat
 |[]=>0
 |d::r=>d.count+az r
end
theorem aA{d:Dat}{ks:List Dat}(h:d∈ks):d.count<=az ks:=by
 induction ks with
 |nil=>cases h
 |cons x r ih=>
  rw [az]
  exact Z182
structure Old(W w:World):Prop where
 size:W.heap.size<=w.heap.size
 old:∀i,i<W.heap.size->w.heap[i]?=W.heap[i]?
def nt(W:World)(v:Value):Prop:=∀i,blk v=some i->W.heap.size<=i
theorem Old.refl(W:World):Old W W:=⟨NL _,λ_ _=>rfl⟩
theorem Old.trans{a b c:World}(h:Old a b)(k:Old b c):Old a c:=⟨NM h.size k.size,λi hi=>(k.old i (NK hi h.size)).trans (h.old i hi)⟩
theorem Old.alloc(w:World)(o:Obj):Old w (w.alloc o):=⟨(Grew.alloc w (.slice none 0 0) o).size,λi hi=>(Grew.alloc w (.slice none 0 0) o).old i hi Ml⟩
theorem Old.drew(w:World):Old w w.drew:=⟨NL _,λ_ _=>rfl⟩
theorem Old.cell(h:Old W w){b o:Nat}(hb:b<W.heap.size):w.cell? ⟨b,o,none⟩=W.cell? ⟨b,o,none⟩:=NY (a:=⟨b,o,none⟩) (h.old b hb)
theorem Old.grew{w':World}{v v':Value}(h:Old W w)(hf:nt W v)(hg:Grew w v w' v'):Old W w':=
 ⟨NM h.size hg.size,λi hi=>(hg.old i (NK hi h.size) (λe=>by have:=hf i e;omega)).trans (h.old i hi)⟩
theorem nt.grew{w':World}{v v':Value}(h:Old W w)(hf:nt W v)(hg:Grew w v w' v'):nt W v':=by
 intro i hi
 rcases hg.at' with e|⟨g,hg',e⟩
 ·exact hf i (e ▸ hi)
 rw [e] at hi
 cases hi
 exact NM h.size hg'
theorem jE.carry{a:Option Addr}{ns:List ByteArray}(h:jE W a ns)(ho:Old W w):jE w a ns:=by
 rcases h with h|⟨b,o,ha,hb,hc⟩
 ·exact .inl h
 exact .inr ⟨b,o,ha,NK hb ho.size,λi hi=>(ho.cell hb).trans (hc i hi)⟩
mutual
theorem Dat.lies_carry(ho:Old W w):∀(d:Dat) (cs:List Value),d.lies W cs->d.lies w cs
 |.mk k n b t ns ks,cs=>by
  intro h
  rw [Dat.lies] at h ⊢
  obtain ⟨na,nc,ka,kc,h1,h2,h3,h4,h5,h6⟩:=h
  exact ⟨na,nc,ka,kc,h1,h2,h3,h4,h5.carry ho,Dat.lieAll_carry ho ka 0 ks h6⟩
theorem Dat.lieAll_carry(ho:Old W w)(a:Option Addr):∀(i:Nat) (ks:List Dat),Dat.lieAll W a i ks->Dat.lieAll w a i ks
 |_,[]=>by intro _;rw [Dat.lieAll];trivial
 |i,d::r=>by
  intro h
  rw [Dat.lieAll] at h ⊢
  obtain ⟨⟨b,o,cs,ha,hb,hl,hc,hd⟩,hr⟩:=h
  exact ⟨⟨b,o,cs,ha,NK hb ho.size,hl,λf hf=>(ho.cell hb).trans (hc f hf),Dat.lies_carry ho d cs hd⟩,Dat.lieAll_carry ho a (i+1) r hr⟩
end
theorem Dat.lieAll_get{a:Option Addr} : ∀(ks:List Dat) (i:Nat),Dat.lieAll w a i ks->∀j (h:j<ks.length),∃b o cs,a=some ⟨b,o,none⟩/\b<w.heap.size/\cs.length=6/\(∀f,f<6->w.cell? ⟨b,o+(i+j)*6+f,none⟩=cs[f]?)/\ks[j].lies w cs
 |[],_,_,j,h=>absurd h (Nat.not_lt_zero _)
 |d::r,i,hl,0,h=>by
  rw [Dat.lieAll] at hl
  obtain ⟨⟨b,o,cs,h1,h2,h3,h4,h5⟩,_⟩:=hl
  exact ⟨b,o,cs,h1,h2,h3,h4,h5⟩
 |d::r,i,hl,j+1,h=>by
  rw [Dat.lieAll] at hl
  obtain ⟨b,o,cs,h1,h2,h3,h4,h5⟩:=Dat.lieAll_get r (i+1) hl.2 j Ky
  refine ⟨b,o,cs,h1,h2,h3,λf hf=>?_,h5⟩
  have e:i+1+j=i+(j+1):=Kc
  rw [<-e]
  exact h4 f hf
theorem Dat.lies_cells : ∀ {d:Dat} {cs:List Value},d.lies w cs->∃na nc ka kc,cs=[.int .i64 d.kind,.int .i64 d.int,.int .u64 (d.bits:Int),.string d.text,.slice na d.names.length nc,.slice ka d.kids.length kc] /\
   (-9223372036854775808<=d.kind/\d.kind<=9223372036854775807)/\(-9223372036854775808<=d.int/\d.int<=9223372036854775807)/\d.bits<18446744073709551616/\jE w na d.names/\Dat.lieAll w ka 0 d.kids
 |.mk k n b t ns ks,cs,h=>by
  rw [Dat.lies] at h
  exact h
theorem aD(ks:List Dat)(j:Nat)(h:j<ks.length):aB (ks.take (j+1))=aB (ks.take j)++ks[j].enc:=by
 induction ks generalizing j with
 |nil=>exact absurd h (Nat.not_lt_zero _)
 |cons d r ih=>
  cases j with
  |zero=>simp [aB]
  |succ j=>simp [aB,ih j Ky]
theorem aI(ns:List ByteArray)(ks:List Dat)(j:Nat)(h:j<ks.length)(hn:ns.length=ks.length):aG (ns.take (j+1)) (ks.take (j+1))=aG (ns.take j) (ks.take j)++(eQ (zig (ns[j]' Kc).size)++(ns[j]' Kc).data.toList)++ks[j].enc:=by
 induction ks generalizing j ns with
 |nil=>exact absurd h (Nat.not_lt_zero _)
 |cons d r ih=>
  cases ns with
  |nil=>simp at hn
  |cons s ss=>
   cases j with
   |zero=>simp [aG]
   |succ j=>simp [aG,ih ss j Ky (by simpa using hn)]
theorem aC(ks:List Dat)(j:Nat):(aB (ks.take j)).length<=(aB ks).length:=by
 induction ks generalizing j with
 |nil=>simp
 |cons d r ih=>
  cases j with
  |zero=>simp [aB]
  |succ j=>simp [aB];exact ih j
theorem aH(ns:List ByteArray)(ks:List Dat)(j:Nat):(aG (ns.take j) (ks.take j)).length<=(aG ns ks).length:=by
 induction ks generalizing j ns with
 |nil=>simp [aG]
 |cons d r ih=>
  cases ns with
  |nil=>simp [aG]
  |cons s ss=>
   cases j with
   |zero=>simp [aG]
   |succ j=>simp [aG];exact ih ss j
theorem aU{d:Dat}{ks:List Dat}(h:aT ks)(hd:d∈ks):d.shaped:=by
 induction ks with
 |nil=>cases hd
 |cons x r ih=>
  rw [aT] at h
  exact Z177
end
end Go.Proofs.YtceinlbeeahkeaaGreatDoor
