import Derived.WalkSmall
import Derived.RegionTactic
import Derived.Deep.RegionWith
import Derived.RegionDies
import Derived.Deep.QuietTactic
import Derived.BigQuiet
import Derived.Ground.NamesProg
import Derived.Shelf.Strconv.Itoa3
import Derived.Lib.ItoaLen
import Derived.Lib.RuneBytes
import Derived.Test.YtmphmjkinmkidaaGreatDoorS01
set_option linter.defProp false
open Go.Proofs.Tryz
set_option maxRecDepth 8000
set_option maxHeartbeats 4000000
namespace Go.Proofs.YtmphmjkinmkidaaGreatDoor
variable{p:Prop}
section
open Go Go.RowKit Go.Extern.Stop Go.Stop Go.Extern
def Y4(h:p:=by exact (show ks[j]∈ks from NS hlt)):p:=h
def Y5(h:p:=by exact (show j=ks.length from by omega)):p:=h
def Y6(h:p:=by exact (show w.heap.size<wr.heap.size from NK Kh hg.size)):p:=h
def Y7(h:p:=by exact (λe=>Nat.lt_irrefl _ (hrow.blk_lt (i:=wr.heap.size) e))):p:=h
def Y8(h:p:=by exact (show Hid (Grew (w.alloc (.cells #[Value.int .i64 k,Value.int .i64 n,Value.int .u64 b,Value.string t,Value.slice na ns.length nc,Value.slice ka ks.length kc] 42)) v wr _) from hg)):p:=h
def Y9(h:p:=by exact (show Hid (Grew w v (w.alloc (.cells #[Value.int .i64 k,Value.int .i64 n,Value.int .u64 b,Value.string t,Value.slice na ns.length nc,Value.slice ka ks.length kc] 42)) v) from hG0)):p:=h
def Z55(h:p:=by
 obtain rfl:=Y5
 have hlast:=jV 0 _ _ wr Md Kc Kc hrow
 go_wp2_with (go_at_call 101;refine hlast.mono ?_;rintro e w3 ⟨v3,rfl,hrow3,hg3⟩)
 obtain ⟨a2,c2,rfl⟩:=hrow3.shape
 go_ret
 exact ⟨_,rfl,hrow3,(HG0.out.trans HG.out).trans hg3⟩):p:=h
def jD(d:Dat):Prop:=∀(W w:World) (cs:List Value) (v:Value) (bs:List UInt8),d.lies W cs->d.shaped->Old W w->nt W v->ic w v bs->bs.length+d.enc.length<=70368744177000 ->
 Calls prog 63 #[v,.agg cs.toArray] w λe w'=>∃v',e=.returned v'/\ic w' v' (bs++d.enc)/\Grew w v w' v'
theorem wg{n j:Nat}(h:j<n):n-((j:Int)+1).toNat<n-j:=Kc
theorem six{cs:List Value}(h:cs.length=6):∃a b c d e f,cs=[a,b,c,d,e,f]:=by
 match cs,h with
 |[a,b,c,d,e,f],_=>exact ⟨a,b,c,d,e,f,rfl⟩
theorem zA(ks:List Dat)(hk:∀d∈ks,jD d)(hsh:aT ks)(W w:World)(ka:Option Addr)(kc:Nat)(v:Value)(bs:List UInt8)(hl:Dat.lieAll W ka 0 ks)(hlen:ks.length<=70368744177000)(ho:Old W w)(hf:nt W v)(hr:ic w v bs)(hN:bs.length+(aB ks).length<=70368744177000):
  Calls prog 104 #[v,.slice ka ks.length kc] w λe w'=>∃v',e=.returned v'/\ic w' v' (bs++aB ks)/\Grew w v w' v':=by
 have HN:Hid (bs.length+(aB ks).length<=70368744177000):=hN
 have HL:Hid (ks.length<=70368744177000):=hlen
 clear hN hlen
 go_enter func104,ntmps104
 go_wp2
 go_loopw [0,9] (λto cnt wr=>∃(j:Nat),j<=ks.length/\cnt=.int .i64 j/\ic wr to (bs++aB (ks.take j))/\Grew w v wr to) (λ_ cnt _=>ks.length-(intOf cnt).toNat)
 case atStart=>exact ⟨0,NQ _,rfl,by simpa [aB] using hr,Grew.refl _ _⟩
 obtain ⟨j,hj,rfl,hrow,hg⟩:=hrel
 by_cases hlt:j<ks.length
 ·obtain ⟨b,o,cs,hka,hb,h6,hc,hd⟩:=Dat.lieAll_get ks 0 hl j hlt
  obtain ⟨na,nc,kka,kkc,hcs,-⟩:=Dat.lies_cells hd
  subst hka
  have howr:=ho.grew hf hg
  have hfr:=nt.grew ho hf hg
  have g0:=(howr.cell hb).trans (hc 0 Kc)
  have g1:=(howr.cell hb).trans (hc 1 Kc)
  have g2:=(howr.cell hb).trans (hc 2 Kc)
  have g3:=(howr.cell hb).trans (hc 3 Kc)
  have g4:=(howr.cell hb).trans (hc 4 Kc)
  have g5:=(howr.cell hb).trans (hc 5 Kc)
  simp [hcs] at g0 g1 g2 g3 g4 g5
  have het:=aD ks j hlt
  have hle:=aC ks (j+1)
  have hmem:=Y4
  have HE:Hid (bs++aB (ks.take (j+1))=bs++aB (ks.take j)++ks[j].enc):=by show _=_;rw [het,List.append_assoc]
  have HB:Hid ((bs++aB (ks.take j)).length+ks[j].enc.length<=70368744177000):=by
   show _<=_
   have:=HN.out
   rw [het] at hle
   simp at hle ⊢
   omega
  have hput:=λw1 (h1:Old wr w1) (h2:ic w1 _ _)=>hk _ hmem W w1 cs _ (bs++aB (ks.take j)) hd (aU hsh hmem) (howr.trans h1) hfr h2 HB.out
  simp only [hcs] at hput
  have hlen:=HL.out
  clear het hle hmem hc hl hk hsh hcs
  go_wp2_with (go_at_call 63;refine (hput _ (Old.alloc _ _) (hrow.alloc _)).mono ?_;rintro e w1 ⟨v1,rfl,hrow1,hg1⟩)
  go_roundw
  case rel=>
   refine ⟨j+1,by omega,by go_num,?_,(hg.trans (Grew.alloc _ _ _)).trans hg1⟩
   rw [HE.out]
   exact hrow1
  simp only [intOf];exact wg hlt
 obtain rfl:=Y5
 obtain ⟨a2,c2,hv⟩:=hrow.shape
 go_wp2
 go_ret
 rw [List.take_length] at hrow
 exact ⟨_,rfl,hrow,hg⟩
def fq(k:Int)(ns:List ByteArray)(ks:List Dat)(j:Nat):List UInt8:=if k=12 then aG (ns.take j) (ks.take j) else aB (ks.take j)
def iJ(ks:List Dat):List UInt8:=if ks.length=0 then [] else eQ (zig ks.length)
theorem tq(k:Int)(ns:List ByteArray)(ks:List Dat):fq k ns ks 0=[]:=by unfold fq;split <;> simp [aB,aG]
theorem Dq(k:Int)(ns:List ByteArray)(ks:List Dat)(j:Nat)(h:ns.length<=ks.length\/k≠12):(fq k ns ks j).length<=(fq k ns ks ks.length).length:=by
 unfold fq
 split
 ·have hn:ns.length<=ks.length:=by
   rcases h with h|h
   ·exact h
   contradiction
  rw [List.take_of_length_le (NL ks.length),List.take_of_length_le hn]
  exact aH ns ks j
 rw [List.take_length]
 exact aC ks j
theorem BQ{ns:List ByteArray}{ks:List Dat}{j:Nat}(h:j<ks.length)(hn:ns.length=ks.length):fq 12 ns ks (j+1)=fq 12 ns ks j++(eQ (zig (ns[j]' Kc).size)++(ns[j]' Kc).data.toList)++ks[j].enc:=by
 unfold fq
 rw [if_pos rfl,if_pos rfl,aI ns ks j h hn]
theorem qF{k:Int}{ns:List ByteArray}{ks:List Dat}{j:Nat}(hk:k≠12)(h:j<ks.length):fq k ns ks (j+1)=fq k ns ks j++ks[j].enc:=by
 unfold fq
 rw [if_neg hk,if_neg hk,aD ks j h]
theorem Fx{w w1:World}{v v1 c0 c1 c2 c3 c4 c5:Value}{T:TypeId}(hg:Grew (w.alloc (.cells #[c0,c1,c2,c3,c4,c5] T)) v w1 v1)(hvb:blk v≠some w.heap.size):
  w1.cell? ⟨w.heap.size,0,none⟩=some c0/\w1.cell? ⟨w.heap.size,1,none⟩=some c1/\w1.cell? ⟨w.heap.size,2,none⟩=some c2/\w1.cell? ⟨w.heap.size,3,none⟩=some c3/\w1.cell? ⟨w.heap.size,4,none⟩=some c4/\w1.cell? ⟨w.heap.size,5,none⟩=some c5:=by
 have hsz:w.heap.size<(w.alloc (.cells #[c0,c1,c2,c3,c4,c5] T)).heap.size:=Kh
 refine ⟨hg.cell hsz hvb ?_,hg.cell hsz hvb ?_,hg.cell hsz hvb ?_,hg.cell hsz hvb ?_,hg.cell hsz hvb ?_,hg.cell hsz hvb ?_⟩ <;> (rw [World.cell?_alloc_at _ _ _ _ rfl];rfl)
theorem vG(k n:Int)(b:Nat)(t:ByteArray)(ns:List ByteArray)(ks:List Dat)(hk:∀x∈ks,jD x)(hsh:aT ks)(hn:k=12->ns.length=ks.length)(W w:World)(cs:List Value)(v:Value)(bs:List UInt8)(hl:(Dat.mk k n b t ns ks).lies W cs)(ho:Old W w)(hf:nt W v)(hr:ic w v bs)
  (hN:bs.length+(iJ ks).length+(fq k ns ks ks.length).length+(eQ (zig 0)).length<=70368744177000) (hlen:ks.length<=70368744177000):
  Calls prog 105 #[v,.agg cs.toArray] w λe w'=>∃v',e=.returned v'/\ic w' v' (bs++iJ ks++fq k ns ks ks.length++eQ (zig 0))/\Grew w v w' v':=by
 rw [Dat.lies] at hl
 obtain ⟨na,nc,ka,kc,rfl,-,-,-,hns,hks⟩:=hl
 have HN:Hid (bs.length+(iJ ks).length+(fq k ns ks ks.length).length+(eQ (zig 0)).length<=70368744177000):=hN
 have HL:Hid (ks.length<=70368744177000):=hlen
 have hvb:blk v≠some w.heap.size:=λe=>by have:=hr.blk_lt e;omega
 clear hN
 have hcount:=λw1 (h1:ic w1 v bs)=>jV (ks.length:Int) v bs w1 LP Kc Kc h1
 have hq0:=hr.alloc (.cells #[Value.int .i64 k,Value.int .i64 n,Value.int .u64 b,Value.string t,Value.slice na ns.length nc,Value.slice ka ks.length kc] 42)
 have hG0:=Grew.alloc w v (.cells #[Value.int .i64 k,Value.int .i64 n,Value.int .u64 b,Value.string t,Value.slice na ns.length nc,Value.slice ka ks.length kc] 42)
 have HO0:Old w (w.alloc (.cells #[Value.int .i64 k,Value.int .i64 n,Value.int .u64 b,Value.string t,Value.slice na ns.length nc,Value.slice ka ks.length kc] 42)):=Old.alloc w _
 have HHEAD:Hid (iJ ks=if ks.length=0 then [] else eQ (zig ks.length)):=rfl
 have hbx:=Fx (Grew.refl (w.alloc (.cells #[Value.int .i64 k,Value.int .i64 n,Value.int .u64 b,Value.string t,Value.slice na ns.length nc,Value.slice ka ks.length kc] 42)) v) hvb
 obtain ⟨-,-,-,-,-,hbx5⟩:=hbx
 go_enter func105,ntmps105
 go_wp2_with (go_at_call 101;refine (hcount _ hq0).mono ?_;rintro e w1 ⟨v1,rfl,hrow1,hg1⟩;obtain ⟨-,-,-,-,-,hby5⟩:=Fx hg1 hvb)
 ·have hst:ic w1 v1 (bs++iJ ks):=by rw [HHEAD.out,if_neg Kc];exact hrow1
  have hgs:Grew (w.alloc (.cells #[Value.int .i64 k,Value.int .i64 n,Value.int .u64 b,Value.string t,Value.slice na ns.length nc,Value.slice ka ks.length kc] 42)) v w1 v1:=hg1
  clear hcount HHEAD hq0 hrow1 hg1 hlen
  go_loopw [0,19] (λto cnt wr=>∃(j:Nat),j<=ks.length/\cnt=.int .i64 j/\ic wr to (bs++iJ ks++fq k ns ks j)/\Grew (w.alloc (.cells #[Value.int .i64 k,Value.int .i64 n,Value.int .u64 b,Value.string t,Value.slice na ns.length nc,Value.slice ka ks.length kc] 42)) v wr to) (λ_ cnt _=>ks.length-(intOf cnt).toNat)
  case atStart=>exact ⟨0,NQ _,rfl,by rw [tq,List.append_nil];exact hst,hgs⟩
  obtain ⟨j,hj,rfl,hrow,hg⟩:=hrel
  have howr:=(ho.trans HO0).grew hf hg
  have hfr:=nt.grew (ho.trans HO0) hf hg
  obtain ⟨e0,e1,e2,e3,e4,e5⟩:=Fx hg hvb
  have hwb:=Y6
  have hub:=Y7
  have HG:=Y8
  have HG0:=Y9
  clear hg hgs hst hG0
  by_cases hlt:j<ks.length
  ·obtain ⟨kb,kof,kcs,hka,hkb,h6,hc,hd⟩:=Dat.lieAll_get ks 0 hks j hlt
   obtain ⟨na',nc',ka',kc',hcs,-⟩:=Dat.lies_cells hd
   subst hka
   have g0:=(howr.cell hkb).trans (hc 0 Kc)
   have g1:=(howr.cell hkb).trans (hc 1 Kc)
   have g2:=(howr.cell hkb).trans (hc 2 Kc)
   have g3:=(howr.cell hkb).trans (hc 3 Kc)
   have g4:=(howr.cell hkb).trans (hc 4 Kc)
   have g5:=(howr.cell hkb).trans (hc 5 Kc)
   simp [hcs] at g0 g1 g2 g3 g4 g5
   have hmem:=Y4
   have hle:=Dq k ns ks (j+1) ((Decidable.em (k=12)).imp (λh=>Nat.le_of_eq (hn h)) id)
   have hkid:=λw1 v1 bs1 (h1:Old W w1) (h2:nt W v1) (h3:ic w1 v1 bs1) (h4:bs1.length+ks[j].enc.length<=70368744177000)=>hk _ hmem W w1 kcs v1 bs1 hd (aU hsh hmem) h1 h2 h3 h4
   simp only [hcs] at hkid
   by_cases hm:k=12
   ·subst hm
    have hnl:=hn rfl
    have hpos:j<ns.length:=Kc
    obtain ⟨nb,no,hna,hnb,hnc⟩:∃nb no,na=some ⟨nb,no,none⟩/\nb<W.heap.size/\∀i (h:i<ns.length),W.cell? ⟨nb,no+i,none⟩=some (.string ns[i]):=by
     rcases hns with h|h
     ·rw [h] at hpos;exact absurd hpos (Nat.not_lt_zero _)
     exact h
    subst hna
    have gn:=(howr.cell hnb).trans (hnc j hpos)
    have hnb':nb<wr.heap.size:=NK hnb howr.size
    have HE:Hid (bs++iJ ks++fq 12 ns ks (j+1)=bs++iJ ks++fq 12 ns ks j++eQ (zig ns[j].size)++ns[j].data.toList++ks[j].enc):=by
     show _=_
     rw [BQ hlt hnl]
     simp
    have HB:Hid ((bs++iJ ks++fq 12 ns ks (j+1)).length<=70368744177000):=by
     show _<=_
     have:=HN.out
     simp only [List.length_append]
     omega
    have HB2:Hid ((bs++iJ ks++fq 12 ns ks j).length+(eQ (zig ns[j].size)).length+ns[j].size+ks[j].enc.length<=70368744177000):=by
     show _<=_
     have h:=HB.out
     rw [HE.out] at h
     simp only [List.length_append,Array.length_toList] at h ⊢
     have:ns[j].data.size=ns[j].size:=rfl
     omega
    have htext:=λw1 v1 (h1:ic w1 v1 _)=>ve ns[j] v1 (bs++iJ ks++fq 12 ns ks j) w1 (by have:=HB2.out;omega) h1
    have hlen:=HL.out
    clear hle hmem hc hks hk hsh hnc hns hcs hd h6 hn hnl
    go_wp2_with (first
     |(go_at_call 103;refine (htext _ _ (hrow.alloc _)).mono ?_;rintro e w2 ⟨v2,rfl,hrow2,hg2⟩;obtain ⟨f0,f1,f2,f3,f4,f5⟩:=Fx hg2 hub)
     |(go_at_call 63;go_loud (refine (hkid _ _ _ ((howr.trans (Old.alloc _ _)).grew hfr hg2) (nt.grew (howr.trans (Old.alloc _ _)) hfr hg2) hrow2 (by have:=HB2.out;simp only [List.length_append,Array.length_toList] at this ⊢;have:ns[j].data.size=ns[j].size:=rfl;omega)).mono ?_);rintro e w3 ⟨v3,rfl,hrow3,hg3⟩))
    go_roundw
    case rel=>
     refine ⟨j+1,by omega,by go_num,?_,((HG.out.trans (Grew.alloc _ _ _)).trans hg2).trans hg3⟩
     rw [HE.out]
     exact hrow3
    simp only [intOf];exact wg hlt
   have HE:Hid (bs++iJ ks++fq k ns ks (j+1)=bs++iJ ks++fq k ns ks j++ks[j].enc):=by
    show _=_
    rw [qF hm hlt]
    simp
   have HB:Hid ((bs++iJ ks++fq k ns ks j).length+ks[j].enc.length<=70368744177000):=by
    show _<=_
    have h:=HN.out
    rw [qF hm hlt] at hle
    simp only [List.length_append] at hle ⊢
    omega
   have hlen:=HL.out
   have hkk:(k==12)=false:=by simp [hm]
   clear hle hmem hc hks hk hsh hns hcs hd h6 hn
   go_wp2_with (go_at_call 63;refine (hkid _ _ _ (howr.trans (Old.alloc _ _)) hfr (hrow.alloc _) HB.out).mono ?_;rintro e w3 ⟨v3,rfl,hrow3,hg3⟩)
   go_roundw
   case rel=>
    refine ⟨j+1,by omega,by go_num,?_,(HG.out.trans (Grew.alloc _ _ _)).trans hg3⟩
    rw [HE.out]
    exact hrow3
   simp only [intOf];exact wg hlt
  exact Z55
 have hst:ic (w.alloc (.cells #[Value.int .i64 k,Value.int .i64 n,Value.int .u64 b,Value.string t,Value.slice na ns.length nc,Value.slice ka ks.length kc] 42)) v (bs++iJ ks):=by rw [HHEAD.out,if_pos Kc,List.append_nil];exact hq0
 have hgs:=Grew.refl (w.alloc (.cells #[Value.int .i64 k,Value.int .i64 n,Value.int .u64 b,Value.string t,Value.slice na ns.length nc,Value.slice ka ks.length kc] 42)) v
 clear hcount HHEAD hq0 hlen
 go_loopw [0,19] (λto cnt wr=>∃(j:Nat),j<=ks.length/\cnt=.int .i64 j/\ic wr to (bs++iJ ks++fq k ns ks j)/\Grew (w.alloc (.cells #[Value.int .i64 k,Value.int .i64 n,Value.int .u64 b,Value.string t,Value.slice na ns.length nc,Value.slice ka ks.length kc] 42)) v wr to) (λ_ cnt _=>ks.length-(intOf cnt).toNat)
 case atStart=>exact ⟨0,NQ _,rfl,by rw [tq,List.append_nil];exact hst,hgs⟩
 obtain ⟨j,hj,rfl,hrow,hg⟩:=hrel
 have howr:=(ho.trans HO0).grew hf hg
 have hfr:=nt.grew (ho.trans HO0) hf hg
 obtain ⟨e0,e1,e2,e3,e4,e5⟩:=Fx hg hvb
 have hwb:=Y6
 have hub:=Y7
 have HG:=Y8
 have HG0:=Y9
 clear hg hgs hst hG0
 by_cases hlt:j<ks.length
 ·exact absurd hlt Kc
 exact Z55
def Y10(h:p:=by exact (show w.cell? ⟨b,o+3,none⟩=some (.string t) from hc 3 Kc)):p:=h
def Y11(h:p:=by exact (show w.cell? ⟨b,o+4,none⟩=some (.slice na ns.length nc) from hc 4 Kc)):p:=h
def Y12(h:p:=by exact (show w.cell? ⟨b,o+5,none⟩=some (.slice ka ks.length kc) from hc 5 Kc)):p:=h
def Z120(h:p:=by
 go_roundw
 case rel=>exact ⟨trivial,j+1,by omega,by go_num,by rw [HT.out];go_num⟩
 simp only [intOf];exact wg hlt):p:=h
def eH:List ByteArray->Nat
 |[]=>0
 |s::r=>1+s.size+eH r
mutual
def Dat.sz:Dat->Nat
 |.mk _ _ _ t ns ks=>1+t.size+eH ns+aY ks
def aY:List Dat->Nat
 |[]=>0
 |d::r=>d.sz+aY r
end
theorem AL(ns:List ByteArray)(j:Nat)(h:j<ns.length):eH (ns.take (j+1))=eH (ns.take j)+1+ns[j].size:=by
 induction ns generalizing j with
 |nil=>exact absurd h (Nat.not_lt_zero _)
 |cons d r ih=>
  cases j with
  |zero=>simp [eH]
  |succ j=>simp [eH,ih j Ky];omega
theorem DZ(ns:List ByteArray)(j:Nat):eH (ns.take j)<=eH ns:=by
 induction ns generalizing j with
 |nil=>simp
 |cons d r ih=>
  cases j with
  |zero=>simp [eH]
  |succ j=>simp [eH];exact ih j
theorem pI(ns:List ByteArray):ns.length<=eH ns:=by
 induction ns with
 |nil=>simp
 |cons d r ih=>simp [eH];omega
theorem wN(ks:List Dat)(j:Nat)(h:j<ks.length):aY (ks.take (j+1))=aY (ks.take j)+ks[j].sz:=by
 induction ks generalizing j with
 |nil=>exact absurd h (Nat.not_lt_zero _)
 |cons d r ih=>
  cases j with
  |zero=>simp [aY]
  |succ j=>simp [aY,ih j Ky];omega
theorem BA(ks:List Dat)(j:Nat):aY (ks.take j)<=aY ks:=by
 induction ks generalizing j with
 |nil=>simp
 |cons d r ih=>
  cases j with
  |zero=>simp [aY]
  |succ j=>simp [aY];exact ih j
theorem sz_pos(d:Dat):1<=d.sz:=by
 obtain ⟨k,n,b,t,ns,ks⟩:=d
 rw [Dat.sz];omega
theorem ll(ks:List Dat):ks.length<=aY ks:=by
 induction ks with
 |nil=>simp
 |cons d r ih=>simp [aY];have:=sz_pos d;omega
def Dat.atP(w:World)(d:Dat)(b o:Nat):Prop:=∃cs:List Value,cs.length=6/\(∀f,f<6->w.cell? ⟨b,o+f,none⟩=cs[f]?)/\d.lies w cs
theorem jE.get{w:World}{a:Option Addr}{ns:List ByteArray}(h:jE w a ns){j:Nat}(hj:j<ns.length):∃b o,a=some ⟨b,o,none⟩/\w.cell? ⟨b,o+j,none⟩=some (.string ns[j]):=by
 rcases h with rfl|⟨b,o,ha,-,hc⟩
 ·exact absurd hj (Nat.not_lt_zero _)
 exact ⟨b,o,ha,hc j hj⟩
theorem AB:∀(N:Nat) (d:Dat),d.count<=N->∀(w:World) (b o:Nat),d.atP w b o->d.sz<=70368744177000->Calls prog 27 #[.pointer (some ⟨b,o,none⟩)] w λe w'=>e=.returned (.int .i64 d.sz)/\w'=w
 |0,.mk _ _ _ _ _ _,h=>by rw [Dat.count] at h;omega
 |N+1,.mk k n bb t ns ks,h=>by
  have ih:=AB N
  rintro w b o ⟨cs,-,hc,hl⟩ hz
  rw [Dat.lies] at hl
  obtain ⟨na,nc,ka,kc,rfl,-,-,-,hns,hks⟩:=hl
  rw [Dat.sz] at hz ⊢
  rw [Dat.count] at h
  have q3:=Y10
  have q4:=Y11
  have q5:=Y12
  have hnl:=pI ns
  have hkl:=ll ks
  have HZ:Hid (1+t.size+eH ns+aY ks<=70368744177000):=hz
  have ht:t.size<=70368744177000:=Kc
  have hlen:ns.length<=70368744177000:=Kc
  have hlek:ks.length<=70368744177000:=Kc
  clear hc hz
  go_enter func27,ntmps27
  go_wp2
  go_loopw [3,4] (λn cnt wr=>wr=w/\∃(j:Nat),j<=ns.length/\cnt=.int .i64 j/\n=.int .i64 ((1+t.size+eH (ns.take j):Nat):Int)) (λ_ cnt _=>ns.length-(intOf cnt).toNat)
  case atStart=>exact ⟨rfl,0,NQ _,rfl,by simp [eH]⟩
  obtain ⟨hw,j,hj,rfl,rfl⟩:=hrel
  subst hw
  by_cases hlt:j<ns.length
  ·obtain ⟨bn,on,hna,hcn⟩:=hns.get hlt
   subst hna
   have hT:=AL ns j hlt
   have hle:=DZ ns (j+1)
   have hB:1+t.size+eH (ns.take j)+1+ns[j].size<=70368744177000:=Lt
   have HT:Hid (eH (ns.take (j+1))=eH (ns.take j)+1+ns[j].size):=hT
   generalize ns[j]=sj at *
   generalize eH (ns.take j)=nj at *
   clear hT hle ih hks hns
   go_wp2
   exact Z120
  obtain rfl:j=ns.length:=Kc
  rw [List.take_length]
  have HB:Hid (1+t.size+eH ns<=70368744177000):=by have:=HZ.out;show _<=_;omega
  go_wp2
  go_loopw [3,5] (λn cnt wr'=>wr'=wr/\∃(j:Nat),j<=ks.length/\cnt=.int .i64 j/\n=.int .i64 ((1+t.size+eH ns+aY (ks.take j):Nat):Int)) (λ_ cnt _=>ks.length-(intOf cnt).toNat)
  case atStart=>exact ⟨rfl,0,NQ _,rfl,by simp [aY]⟩
  obtain ⟨hw,j,hj,rfl,rfl⟩:=hrel
  subst hw
  by_cases hlt:j<ks.length
  ·obtain ⟨bn,on,cs,hka,-,h6,hcn,hd⟩:=Dat.lieAll_get ks 0 hks j hlt
   subst hka
   have hT:=wN ks j hlt
   have hle:=BA ks (j+1)
   have hB:1+t.size+eH ns+aY (ks.take j)+ks[j].sz<=70368744177000:=Lt
   have HT:Hid (aY (ks.take (j+1))=aY (ks.take j)+ks[j].sz):=hT
   have hcj:=aA (NS hlt)
   have hs:=ih ks[j] Kc wr bn (on+j*6) ⟨cs,h6,λf hf=>by have:=hcn f hf;rwa [NV] at this,hd⟩ Kc
   generalize ks[j].sz=sj at *
   generalize aY (ks.take j)=nj at *
   clear hT hle ih hks hns hd hcn hcj h6
   go_wp2_with (go_at_call 27;refine hs.mono ?_;rintro e w1 ⟨rfl,rfl⟩)
   exact Z120
  obtain rfl:=Y5
  rw [List.take_length]
  go_wp2
  go_ret
  exact ⟨rfl,rfl⟩
def Z109(h:p:=by
 clear h h0
 go_enter func87,ntmps87
 exact Z258):p:=h
def Z258(h:p:=by
 go_wp2_with (go_at_call 86;refine (gV _ _ _).mono ?_;rintro e w1 ⟨rfl,rfl⟩)
 exact ⟨rfl,rfl,rfl⟩):p:=h
def gF(err:Value):List PanicEntry:=[{ v:=.iface 153 (.agg #[err]),recovered:=false }]
theorem oZ(T:TypeId)(v:Value)(w:World):
  Calls prog 70 #[.iface T v] w λe w'=>e=.panicked (gF (.iface T v))/\w'=w:=by
 go_enter func70,ntmps70
 go_wp2
 exact ⟨rfl,rfl,rfl⟩
theorem gN(T:TypeId)(v:Value)(w:World):
  Calls prog 86 #[.bool true,.iface T v] w λe w'=>e=.returned (.tuple #[])/\w'=w:=by
 go_enter func86,ntmps86
 go_wp2
 go_end0
 exact ⟨rfl,rfl⟩
theorem gV(T:TypeId)(v:Value)(w:World):
  Calls prog 86 #[.bool false,.iface T v] w λe w'=>e=.panicked (gF (.iface T v))/\w'=w:=by
 go_enter func86,ntmps86
 go_wp2_with (go_at_call 70;refine (oZ _ _ _).mono ?_;rintro e w1 ⟨rfl,rfl⟩)
 exact ⟨rfl,rfl,rfl⟩
structure WErr(w:World)(short range deep many:Value):Prop where
 short:∃v,short=.iface 200 v/\w.cell? ⟨18,0,none⟩=some short
 range:∃v,range=.iface 200 v/\w.cell? ⟨21,0,none⟩=some range
 deep:∃v,deep=.iface 200 v/\w.cell? ⟨19,0,none⟩=some deep
 many:∃v,many=.iface 200 v/\w.cell? ⟨20,0,none⟩=some many
theorem CL(n place:Int)(s r d m:Value)(w:World)(hW:WErr w s r d m)(h0:0<=place)(h1:place<n):
  Calls prog 87 #[.int .i64 n,.int .i64 place] w λe w'=>e=.returned (.int .i64 place)/\w'=w:=by
 obtain ⟨v,rfl,hr⟩:=hW.range
 clear hW
 go_enter func87,ntmps87
 go_wp2_with (go_at_call 86;refine (gN _ _ _).mono ?_;rintro e w1 ⟨rfl,rfl⟩)
 go_ret
 exact ⟨rfl,rfl⟩
theorem Cz(n place:Int)(s r d m:Value)(w:World)(hW:WErr w s r d m)(h:place<0\/n<=place):
  Calls prog 87 #[.int .i64 n,.int .i64 place] w λe w'=>e=.panicked (gF r)/\w'=w:=by
 obtain ⟨v,rfl,hr⟩:=hW.range
 clear hW
 by_cases h0:place<0
 ·have h0':(0<=place)=False:=Kt
  exact Z109
 have h0':0<=place:=Kc
 have h1':(place<n)=False:=Kt
 exact Z109
structure Rdr(w:World)(rb:Nat)(t:ByteArray)(i l:Int):Prop where
 c0:w.cell? ⟨rb,0,none⟩=some (.string t)
 c1:w.cell? ⟨rb,1,none⟩=some (.int .i64 i)
 c2:w.cell? ⟨rb,2,none⟩=some (.int .i64 l)
 f1:w.frozen? ⟨rb,1,none⟩=false
 f2:w.frozen? ⟨rb,2,none⟩=false
theorem GQ(rb:Nat)(n:Int)(s r d m:Value)(w:World)(hW:WErr w s r d m)(hn:n<0):
  Calls prog 88 #[.pointer (some ⟨rb,0,none⟩),.int .i64 n] w λe w'=>e=.panicked (gF r)/\w'=w:=by
 obtain ⟨v,rfl,hr⟩:=hW.range
 clear hW
 have h0':(0<=n)=False:=Kt
 clear hn
 go_enter func88,ntmps88
 exact Z258
theorem oO(rb:Nat)(t:ByteArray)(i l n:Int)(s r d m:Value)(w:World)(hW:WErr w s r d m)(hR:Rdr w rb t i l)(h0:0<=n)(hi:0<=i)(hi2:i<=t.size)(hz:t.size<=70368744177000)(hn:(t.size:Int)-i<n):
  Calls prog 88 #[.pointer (some ⟨rb,0,none⟩),.int .i64 n] w λe w'=>e=.panicked (gF s)/\Old w w'/\w'.os=w.os/\w'.output=w.output:=by
 obtain ⟨v,rfl,hr⟩:=hW.range
 obtain ⟨v2,rfl,hs⟩:=hW.short
 obtain ⟨c0,c1,c2,f1,f2⟩:=hR
 have hw:wrap64 ((t.size:Int)-i)=(t.size:Int)-i:=Kn
 have hwk:IntKind.i64.wrap ((t.size:Int)-i)=(t.size:Int)-i:=LX
 have hle:(n<=(t.size:Int)-i)=False:=Kt
 have hge:(0<=n)=True:=by simp [h0]
 clear hW hz hn h0 hi hi2
 go_enter func88,ntmps88
 go_wp2_with (go_at_call 86;refine (gN _ _ _).mono ?_;rintro e w1 ⟨rfl,rfl⟩)
 go_region_dies
 all_goals (go_wp2_with (go_at_call 86;refine (gV _ _ _).mono ?_;rintro e w1 ⟨rfl,rfl⟩))
 all_goals exact ⟨rfl,rfl,Old.drew _,rfl,rfl⟩
end
section
open Go Go.RowKit Go.Extern.Stop Go.Stop Go.Extern
variable{rb:Nat}{w w':World}{t:ByteArray}{i l:Int}
structure Upd(rb:Nat)(w w':World):Prop where
 os:w'.os=w.os
 output:w'.output=w.output
 size:w.heap.size<=w'.heap.size
 old:∀i,i<w.heap.size->i≠rb->w'.heap[i]?=w.heap[i]?
theorem Upd.refl(rb:Nat)(w:World):Upd rb w w:=⟨rfl,rfl,NL _,λ_ _ _=>rfl⟩
theorem Upd.trans{a b c:World}(h:Upd rb a b)(k:Upd rb b c):Upd rb a c:=
 ⟨k.os.trans h.os,k.output.trans h.output,NM h.size k.size,λi hi hn=>(k.old i (NK hi h.size) hn).trans (h.old i hi hn)⟩
theorem Upd.of_old{a b:World}(h:Old a b)(h1:b.os=a.os)(h2:b.output=a.output):Upd rb a b:=⟨h1,h2,h.size,λi hi _=>h.old i hi⟩
theorem Upd.drewN(rb:Nat)(w:World):∀n,Upd rb w (w.drewN n)
 |0=>Upd.refl _ _
 |n+1=>(Upd.drewN rb w n).trans ⟨rfl,rfl,NL _,λ_ _ _=>rfl⟩
theorem Upd.set(rb o:Nat)(w:World)(v:Value):Upd rb w (w.setCell ⟨rb,o,none⟩ v):=
 ⟨rfl,rfl,by simp,λi _ hn=>NZ w ⟨rb,o,none⟩ v i hn⟩
theorem Upd.cell(h:Upd rb w w'){b o:Nat}{x:Value}(hne:b≠rb)(hx:w.cell? ⟨b,o,none⟩=some x):w'.cell? ⟨b,o,none⟩=some x:=
 (NY (a:=⟨b,o,none⟩) (h.old b (NW _ _ hx) hne)).trans hx
theorem WErr.upd{s r d m:Value}(h:WErr w s r d m)(hu:Upd rb w w')(hrb:34<=rb):WErr w' s r d m:=by
 obtain ⟨⟨a,h1,h2⟩,⟨b,h3,h4⟩,⟨c,h5,h6⟩,⟨e,h7,h8⟩⟩:=h
 exact ⟨⟨a,h1,hu.cell Kc h2⟩,⟨b,h3,hu.cell Kc h4⟩,⟨c,h5,hu.cell Kc h6⟩,⟨e,h7,hu.cell Kc h8⟩⟩
theorem Rdr.drewN(h:Rdr w rb t i l):∀n,Rdr (w.drewN n) rb t i l
 |0=>h
 |n+1=>by
  obtain ⟨a,b,c,d,e⟩:=Rdr.drewN h n
  exact ⟨a,b,c,d,e⟩
theorem Rdr.carry(h:Rdr w rb t i l)(hb:w'.heap[rb]?=w.heap[rb]?):Rdr w' rb t i l:=
 ⟨(NY (a:=⟨rb,0,none⟩) hb).trans h.c0,(NY (a:=⟨rb,1,none⟩) hb).trans h.c1,(NY (a:=⟨rb,2,none⟩) hb).trans h.c2,(Oa (a:=⟨rb,1,none⟩) hb).trans h.f1,(Oa (a:=⟨rb,2,none⟩) hb).trans h.f2⟩
theorem Rdr.lt(h:Rdr w rb t i l):rb<w.heap.size:=NW _ _ h.c0
theorem Rdr.old(h:Rdr w rb t i l)(ho:Old w w'):Rdr w' rb t i l:=h.carry (ho.old rb h.lt)
theorem Rdr.at(h:Rdr w rb t i l)(j:Int):Rdr (w.setCell ⟨rb,1,none⟩ (.int .i64 j)) rb t j l:=by
 obtain ⟨a,b,c,d,e⟩:=h
 exact ⟨(Ob _ _ _ _ Kh).trans a,Oe _ _ _ b,(Ob _ _ _ _ Kh).trans c,by rw [Od];exact d,by rw [Od];exact e⟩
theorem su(rb:Nat)(t:ByteArray)(i k:Nat)(l:Int)(s r d m:Value)(w:World)(hW:WErr w s r d m)(hR:Rdr w rb t i l)(hi:i+k<=t.size)(hz:t.size<=70368744177000):
  Calls prog 88 #[.pointer (some ⟨rb,0,none⟩),.int .i64 k] w λe w'=>e=.returned (.string (t.extract i (i+k)))/\Rdr w' rb t ((i:Int)+k) l/\Upd rb w w':=by
 have HR:Hid (Rdr w rb t i l):=hR
 obtain ⟨v,rfl,hr⟩:=hW.range
 obtain ⟨v2,rfl,hs⟩:=hW.short
 obtain ⟨c0,c1,c2,f1,f2⟩:=hR
 have hw:wrap64 ((t.size:Int)-i)=(t.size:Int)-i:=Kn
 have hwk:IntKind.i64.wrap ((t.size:Int)-i)=(t.size:Int)-i:=LX
 have hw2:wrap64 ((i:Int)+k)=(i:Int)+k:=Kn
 have hw2k:IntKind.i64.wrap ((i:Int)+k)=(i:Int)+k:=by rw [IntKind.wrap_i64];unfold wrap64 at hw2;exact hw2
 have hle:((k:Int)<=(t.size:Int)-i)=True:=Kt
 have hge:(0<=(k:Int))=True:=Kh
 have HZ:Hid (t.size<=70368744177000):=hz
 have HI:Hid (i+k<=t.size):=hi
 clear hW hz hi
 go_enter func88,ntmps88
 go_wp2_with (go_at_call 86;refine (gN _ _ _).mono ?_;rintro e w1 ⟨rfl,rfl⟩)
 go_quiet ((go_at_call 86;exact Calls.quiet_of_same (gN _ _ _)))
 go_wp2
 have hb1:(i:Int)<=(i:Int)+(k:Int):=Kc
 have hb2:(i:Int)+(k:Int)<=(t.size:Int):=by have:=HI.out;omega
 have hb3:i+k<=t.size:=HI.out
 have hb4:i<=i+k:=Kc
 have hb5:(0:Int)<=(i:Int)+(k:Int):=Kc
 go_quiet (fail)
 go_wp2
 go_ret
 exact ⟨rfl,(((HR.out.drewN _).at _).drewN _),((Upd.drewN _ _ _).trans (Upd.set _ _ _ _)).trans (Upd.drewN _ _ _)⟩
end
end Go.Proofs.YtmphmjkinmkidaaGreatDoor
section
set_option maxHeartbeats 1000000
namespace Go.Proofs
open Go.RowKit Go.Shelf Go.Lib
theorem lyF{A:Type}{a:Option A}{b c:A}(h:a=some b)(e:b=c:=by kernel_rfl):a=some c:=h.trans (congrArg some e)
theorem lyT{p:Prop}(h:p:=by constructor<;>first|kernel_rfl|(intros;kernel_rfl)|(constructor<;>first|kernel_rfl|(intros;kernel_rfl))):p:=h
def Tryz.laysItoa_ren:Shelf.Ren:=⟨fun|171=>68|243=>107|246=>136|283=>165|284=>166|285=>167|286=>168|129=>180|317=>179|318=>181|319=>182|320=>183|337=>192|338=>193|n=>n,fun|171=>251|53=>40|37=>76|173=>254|212=>267|51=>248|213=>268|46=>208|232=>279|233=>280|n=>n,fun|17=>25|18=>27|19=>28|n=>n⟩
theorem Tryz.laysItoa:LaysM.n171 prog Tryz.laysItoa_ren:=lyT
namespace YtmphmjkinmkidaaGreatDoor
open Go Go.RowKit Go.Extern.Stop Go.Stop Go.Extern
structure Add(w w':World):Prop where
 os:w'.os=w.os
 output:w'.output=w.output
 size:w.heap.size<=w'.heap.size
 old:∀i,i<w.heap.size->w'.heap[i]?=w.heap[i]?
theorem Add.refl(w:World):Add w w:=⟨rfl,rfl,NL _,λ_ _=>rfl⟩
theorem Add.trans{a b c:World}(h:Add a b)(k:Add b c):Add a c:=
 ⟨k.os.trans h.os,k.output.trans h.output,NM h.size k.size,λi hi=>(k.old i (NK hi h.size)).trans (h.old i hi)⟩
theorem Add.drewN(w:World)(n:Nat):Add w (w.drewN n):=⟨rfl,rfl,NL _,λ_ _=>rfl⟩
theorem ae(w:World)(o:Obj):Add w (w.alloc o):=⟨rfl,rfl,by show w.heap.size<=(w.heap.push o).size;rw [Array.size_push];omega,λi hi=>Oc w o i hi⟩
theorem Add.grow(w:World)(os:Array Obj):Add w (Sort.grow w os):=⟨rfl,rfl,by simp [Sort.grow],λi hi=>by simp only [Sort.grow];rw [Array.getElem?_append_left hi]⟩
theorem Add.upd{w w':World}(rb:Nat)(h:Add w w'):Upd rb w w':=⟨h.os,h.output,h.size,λi hi _=>h.old i hi⟩
theorem Add.cell{w w':World}(h:Add w w'){b o:Nat}{x:Value}(hx:w.cell? ⟨b,o,none⟩=some x):w'.cell? ⟨b,o,none⟩=some x:=
 (NY (a:=⟨b,o,none⟩) (h.old b (NW _ _ hx))).trans hx
def Pow(w:World):Prop:=Lib.TabIs prog w "internal/strconv.uint64pow10" .u64 Lib.pow10Tab
theorem Tryz.gpow:prog.globalNamed "internal/strconv.uint64pow10" = some 25:=Kf
theorem Pow.carry{w w':World}(h:Pow w)(hb:w'.heap[25]?=w.heap[25]?):Pow w':=by
 unfold Pow Lib.TabIs World.var? at h ⊢
 rw [Tryz.gpow] at h ⊢
 simp only [Option.bind_some] at h ⊢
 rw [hb]
 exact h
theorem Pow.lt{w:World}(h:Pow w):25<w.heap.size:=by
 unfold Pow Lib.TabIs World.var? at h
 rw [Tryz.gpow] at h
 simp only [Option.bind_some] at h
 rcases Nat.lt_or_ge 25 w.heap.size with hl|hl
 ·exact hl
 rw [Array.getElem?_eq_none hl] at h;cases h
theorem Pow.upd{rb:Nat}{w w':World}(h:Pow w)(hu:Upd rb w w')(hrb:34<=rb):Pow w':=h.carry (hu.old _ h.lt Kc)
theorem Pow.add{w w':World}(h:Pow w)(hu:Add w w'):Pow w':=h.carry (hu.old _ h.lt)
theorem GL(n:Int)(h0:0<=n)(h1:n<=100000):(⟨(Lib.itoa n).toArray⟩:ByteArray).size<=100:=by
 have h:(⟨(Lib.itoa n).toArray⟩:ByteArray).size=(Lib.itoa n).length:=by simp [ByteArray.size]
 rw [h]
 obtain ⟨u,rfl⟩:∃u:Nat,n=u:=⟨n.toNat,by omega⟩
 rw [Lib.itoa_nonneg,Lib.decDigits_length]
 have:=Lib.nDigits_le20 u Kc
 omega
theorem nQ(n:Int)(w:World)(h0:0<=n)(h1:n<=100000)(hT:Pow w):
  Calls prog 68 #[.int .i64 n] w λe w'=>∃s:ByteArray,e=.returned (.string s)/\s.size<=100/\Add w w':=
 (Any.strconv_Itoa Tryz.laysItoa n Kc Kc w hT).mono λe w' ⟨he,k,os,hw⟩=>⟨_,he,GL n h0 h1,by rw [hw];exact (Add.drewN w k).trans (Add.grow _ _)⟩
theorem ww(s:ByteArray)(w:World):
  Calls prog 71 #[.string s] w λe w'=>(∃v,e=.returned (.iface 200 v))/\Add w w':=by
 go_enter func71,ntmps71
 go_wp2
 go_ret
 exact ⟨⟨_,rfl⟩,ae _ _⟩
def fV(e:Ending):Prop:=∃T v,e=.panicked (gF (.iface T v))
theorem uy(rb:Nat)(i:Int)(s:ByteArray)(w:World)(hc:w.cell? ⟨rb,1,none⟩=some (.int .i64 i))(h0:0<=i)(h1:i<=100000)(hT:Pow w)(hs:s.size<=100000):
  Calls prog 77 #[.pointer (some ⟨rb,0,none⟩),.string s] w λe w'=>fV e/\Add w w':=by
 have hi:=nQ i w h0 h1 hT
 clear hT h0 h1
 go_enter func77,ntmps77
 go_wp2_with (first
  |(go_at_call 68;refine hi.mono ?_;rintro e w1 ⟨t,rfl,ht,ha⟩)
  |(go_at_call 71;refine (ww _ _).mono ?_;rintro e w2 ⟨⟨v,rfl⟩,hb⟩)
  |(go_at_call 70;refine (oZ _ _ _).mono ?_;rintro e w3 ⟨rfl,rfl⟩))
 exact ⟨rfl,⟨_,_,rfl⟩,ha.trans hb⟩
end YtmphmjkinmkidaaGreatDoor
end Go.Proofs
end
namespace Go.Proofs.YtmphmjkinmkidaaGreatDoor
variable{p:Prop}
section
open Go
inductive J where
 |null
 |bool (b:Bool)
 |num (n:Int)
 |str (s:ByteArray)
 |arr (l:List J)
 |obj (ns:List ByteArray) (vs:List J)
def isB(r:Nat):Bool:=r==32||r==9||r==10||r==13
def dK:List Nat->List Nat
 |[]=>[]
 |r::l=>if isB r then dK l else r::l
def dig(r:Nat):Bool:=decide (48<=r)&&decide (r<=57)
def dY(c:Nat):List Nat->Option (List Nat)
 |[]=>none
 |r::l=>if r=c then some l else none
def kZ(z:Bool):Nat->Nat->List Nat->Option (Nat × List Nat)
 |_,n,[]=>some (n,[])
 |c,n,r::l=>if dig r then (if 18<c then none else if 1<c/\z=true then none else kZ z (c+1) (n*10+(r-48)) l) else some (n,r::l)
def jq:List Nat->Option (Nat × List Nat)
 |[]=>none
 |r::l=>if dig r then kZ (r==48) 1 0 (r::l) else none
def rU(L:List Nat):Option (Int × List Nat):=
 match dY 45 L with
 |some l=>(jq l).map λx=>(-(x.1:Int),x.2)
 |none=>(jq L).map λx=>((x.1:Int),x.2)
def rR(r:Nat):Option Nat:=
 if dig r then some (r-48) else if 97<=r/\r<=102 then some (r-87) else if 65<=r/\r<=70 then some (r-55) else none
def kY:Nat->Nat->List Nat->Option (Nat × List Nat)
 |0,n,L=>some (n,L)
 |_+1,_,[]=>none
 |k+1,n,r::l=>match rR r with
  |some d=>kY k (n*16+d) l
  |none=>none
def pV(L:List Nat):Option (Nat × List Nat):=
 match kY 4 0 L with
 |none=>none
 |some (h,l)=>
  if h<55296 then some (h,l) else if 57343<h then some (h,l)
  else if 56319<h then none
  else match dY 92 l with
   |none=>none
   |some l=>match dY 117 l with
    |none=>none
    |some l=>match kY 4 0 l with
     |none=>none
     |some (x,l)=>if x<56320 then none else if 57343<x then none else some (65536+(h-55296)*1024+(x-56320),l)
def yN:List Nat->Option (Nat × List Nat)
 |[]=>none
 |r::l=>
  if r=34 then some (34,l) else if r=92 then some (92,l) else if r=47 then some (47,l)
  else if r=98 then some (8,l)
  else if r=102 then some (12,l)
  else if r=110 then some (10,l)
  else if r=114 then some (13,l)
  else if r=116 then some (9,l)
  else if r=117 then pV l
  else none
def mZ:Nat->List UInt8->List Nat->Option (ByteArray × List Nat)
 |0,_,_=>none
 |_+1,_,[]=>none
 |f+1,acc,r::l=>
  if r=34 then some (⟨acc.toArray⟩,l)
  else if r=92 then (match yN l with
   |some (c,l)=>mZ f (acc++Lib.encodeRune c) l
   |none=>none)
  else if r<32 then none
  else mZ f (acc++Lib.encodeRune r) l
def qD(L:List Nat):Option (ByteArray × List Nat):=
 match dY 34 L with
 |some l=>mZ (l.length+1) [] l
 |none=>none
def gY(r:Nat):Bool:=decide (97<=r)&&decide (r<=122)
def tL(L:List Nat):Option (J × List Nat):=
 if L.takeWhile gY=[110,117,108,108] then some (.null,L.dropWhile gY) else if L.takeWhile gY=[116,114,117,101] then some (.bool true,L.dropWhile gY) else if L.takeWhile gY=[102,97,108,115,101] then some (.bool false,L.dropWhile gY) else none
def nX(last:Nat)(L:List Nat):Option (Bool × List Nat):=
 match dY 44 (dK L) with
 |some l=>some (false,l)
 |none=>match dY last (dK L) with
  |some l=>some (true,l)
  |none=>none
def iI(val:List Nat->Option (J × List Nat)):Nat->List J->List Nat->Option (J × List Nat)
 |0,_,_=>none
 |f+1,acc,L=>match val L with
  |none=>none
  |some (v,l)=>match nX 93 l with
   |none=>none
   |some (true,l)=>some (.arr (acc++[v]),l)
   |some (false,l)=>iI val f (acc++[v]) l
def dU(x:ByteArray)(l:List ByteArray):Bool:=l.any λy=>decide (x=y)
def jC(val:List Nat->Option (J × List Nat)):Nat->List ByteArray->List J->List Nat->Option (J × List Nat)
 |0,_,_,_=>none
 |f+1,ns,vs,L=>match qD (dK L) with
  |none=>none
  |some (n,l)=>if dU n ns then none else match dY 58 (dK l) with
   |none=>none
   |some l=>match val l with
    |none=>none
    |some (v,l)=>match nX 125 l with
     |none=>none
     |some (true,l)=>some (.obj (ns++[n]) (vs++[v]),l)
     |some (false,l)=>jC val f (ns++[n]) (vs++[v]) l
def lD(first last:Nat)(L:List Nat):Option (Bool × List Nat):=
 match dY first L with
 |none=>none
 |some l=>match dY last (dK l) with
  |some l=>some (true,l)
  |none=>some (false,dK l)
def Bf(val:List Nat->Option (J × List Nat))(L:List Nat):Option (J × List Nat):=
 match lD 91 93 L with
 |none=>none
 |some (true,l)=>some (.arr [],l)
 |some (false,l)=>iI val (l.length+1) [] l
def BZ(val:List Nat->Option (J × List Nat))(L:List Nat):Option (J × List Nat):=
 match lD 123 125 L with
 |none=>none
 |some (true,l)=>some (.obj [] [],l)
 |some (false,l)=>jC val (l.length+1) [] [] l
def pk:List Nat->Int
 |[]=>-1
 |r::_=>(r:Int)
def si(ar ob:List Nat->Option (J × List Nat))(L:List Nat):Option (J × List Nat):=
 if pk L=34 then (qD L).map λx=>(.str x.1,x.2)
 else if pk L=91 then ar L
 else if pk L=123 then ob L
 else if pk L=45 then (rU L).map λx=>(.num x.1,x.2)
 else if 48<=pk L/\pk L<=57 then (rU L).map λx=>(.num x.1,x.2)
 else tL L
def iQ:Nat->List Nat->Option (J × List Nat)
 |0,L=>si (λ_=>none) (λ_=>none) (dK L)
 |k+1,L=>si (Bf (iQ k)) (BZ (iQ k)) (dK L)
def yG(L:List Nat):Option J:=
 match iQ 32 L with
 |none=>none
 |some (v,l)=>if dK l=[] then some v else none
end
end Go.Proofs.YtmphmjkinmkidaaGreatDoor
