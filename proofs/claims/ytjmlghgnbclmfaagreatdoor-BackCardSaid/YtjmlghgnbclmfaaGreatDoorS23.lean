import Derived.Laws.BytesArg
import Derived.Test.YtjmlghgnbclmfaaGreatDoorS22
set_option linter.defProp false
open Go.Proofs.Tryz
set_option maxRecDepth 8000
set_option maxHeartbeats 4000000
open Go Go.RowKit Go.Extern.Stop Go.Stop Go.Extern
namespace Go.Proofs.YtjmlghgnbclmfaaGreatDoor
variable{p:Prop}
section
def Z48(h:p:=by
 have hput:=ve t v bs _ (by simp only [List.length_append,Array.length_toList] at hN;have:t.data.size=t.size:=rfl;omega) hq
 clear hn hb hN hsh
 go_enter func63,ntmps63
 go_wp2_with (go_at_call 103;refine (hput).mono ?_;rintro e w1 ⟨v1,rfl,hrow1,hg1⟩)
 obtain ⟨a2,c2,rfl⟩:=hrow1.shape
 go_ret
 exact ⟨_,rfl,by rw [<-List.append_assoc];exact hrow1,hg0.trans hg1⟩):p:=h
def Z57(h:p:=by
 rw [hi] at hput
 clear hn hb hN hsh
 go_enter func63,ntmps63
 go_wp2_with (go_at_call 105;refine (hput).mono ?_;rintro e w1 ⟨v1,rfl,hrow1,hg1⟩)
 obtain ⟨a2,c2,rfl⟩:=hrow1.shape
 go_ret
 exact ⟨_,rfl,by rw [List.append_assoc bs,List.append_assoc] at hrow1;simpa [List.append_assoc] using hrow1,hg0.trans hg1⟩):p:=h
def Z63(h:p:=by
 have hput:=jV n v bs _ Kc hn.1 hn.2 hq
 clear hn hb hN hsh
 go_enter func63,ntmps63
 go_wp2_with (go_at_call 101;refine (hput).mono ?_;rintro e w1 ⟨v1,rfl,hrow1,hg1⟩)
 exact Z264):p:=h
def Z85(h:p:=by
 clear hn hb hN hsh
 go_enter func63,ntmps63
 go_wp2_with (go_at_call 102;refine (hput).mono ?_;rintro e w1 ⟨v1,rfl,hrow1,hg1⟩)
 exact Z264):p:=h
def Z264(h:p:=by
 obtain ⟨a2,c2,rfl⟩:=hrow1.shape
 go_ret
 exact ⟨_,rfl,hrow1,hg0.trans hg1⟩):p:=h
theorem byteOf(n:Int):(IntKind.u8.wrap n)=((UInt8.ofNat (n % 256).toNat).toNat:Int):=by
 exact Z176
theorem put_2(n:Int)(b:Nat)(t:ByteArray)(ns:List ByteArray)(ks:List Dat):jD (.mk 2 n b t ns ks):=by
 intro W w cs v bs hl hsh ho hf hr hN
 have he:(Dat.mk 2 n b t ns ks).enc=[UInt8.ofNat (n % 256).toNat]:=KH
 rw [he] at hN ⊢
 rw [Dat.lies] at hl
 rw [Dat.shaped] at hsh
 obtain ⟨na,nc,ka,kc,rfl,-,hn,hb,hns,hks⟩:=hl
 have hq:=hr.alloc (.cells #[Value.int .i64 2,Value.int .i64 n,Value.int .u64 b,Value.string t,Value.slice na ns.length nc,Value.slice ka ks.length kc] 42)
 have hg0:=Grew.alloc w v (.cells #[Value.int .i64 2,Value.int .i64 n,Value.int .u64 b,Value.string t,Value.slice na ns.length nc,Value.slice ka ks.length kc] 42)
 have ho':Old W (w.alloc (.cells #[Value.int .i64 2,Value.int .i64 n,Value.int .u64 b,Value.string t,Value.slice na ns.length nc,Value.slice ka ks.length kc] 42)):=ho.trans (Old.alloc w _)
 obtain ⟨i,hi,hi'⟩:=Y2
 obtain ⟨hz0,hz1,hz2⟩:=Y3
 have HB:Hid (bs.length+1<=70368744177000):=hN
 have H8:Hid ((IntKind.u8.wrap n)=((UInt8.ofNat (n % 256).toNat).toNat:Int)):=byteOf n
 clear hn hb hN hsh
 go_enter func63,ntmps63
 go_wp2_with (at_builtin;go_loud (refine dH _ rfl (.tmp 9) (.tmp 13) 76 76 rfl Ke i (.int .u8 0) 1 underlying76 hi hz0 hz1 hz2 rfl rfl (hq.alloc _) _ 1 [_] rfl (di _ underlying76 _ Kh _ _ rfl) KS Ls ?_);intro v1 w1 hrow1 hg1)
 obtain ⟨a2,c2,rfl⟩:=hrow1.shape
 go_ret
 refine ⟨_,rfl,?_,(hg0.trans (Grew.alloc _ _ _)).trans hg1⟩
 have e1:cellsOf (bs++[UInt8.ofNat (n % 256).toNat])=cellsOf bs++[Value.int .u8 (IntKind.u8.wrap n)]:=by rw [iL,H8.out];rfl
 unfold ic
 rw [e1,List.length_append]
 exact hrow1
theorem put_3(n:Int)(b:Nat)(t:ByteArray)(ns:List ByteArray)(ks:List Dat):jD (.mk 3 n b t ns ks):=by
 intro W w cs v bs hl hsh ho hf hr hN
 have he:(Dat.mk 3 n b t ns ks).enc=eQ (zig n):=KH
 rw [he] at hN ⊢
 rw [Dat.lies] at hl
 rw [Dat.shaped] at hsh
 obtain ⟨na,nc,ka,kc,rfl,-,hn,hb,hns,hks⟩:=hl
 have hq:=hr.alloc (.cells #[Value.int .i64 3,Value.int .i64 n,Value.int .u64 b,Value.string t,Value.slice na ns.length nc,Value.slice ka ks.length kc] 42)
 have hg0:=Grew.alloc w v (.cells #[Value.int .i64 3,Value.int .i64 n,Value.int .u64 b,Value.string t,Value.slice na ns.length nc,Value.slice ka ks.length kc] 42)
 have ho':Old W (w.alloc (.cells #[Value.int .i64 3,Value.int .i64 n,Value.int .u64 b,Value.string t,Value.slice na ns.length nc,Value.slice ka ks.length kc] 42)):=ho.trans (Old.alloc w _)
 exact Z63
theorem put_4(n:Int)(b:Nat)(t:ByteArray)(ns:List ByteArray)(ks:List Dat):jD (.mk 4 n b t ns ks):=by
 intro W w cs v bs hl hsh ho hf hr hN
 have he:(Dat.mk 4 n b t ns ks).enc=eQ (zig n):=KH
 rw [he] at hN ⊢
 rw [Dat.lies] at hl
 rw [Dat.shaped] at hsh
 obtain ⟨na,nc,ka,kc,rfl,-,hn,hb,hns,hks⟩:=hl
 have hq:=hr.alloc (.cells #[Value.int .i64 4,Value.int .i64 n,Value.int .u64 b,Value.string t,Value.slice na ns.length nc,Value.slice ka ks.length kc] 42)
 have hg0:=Grew.alloc w v (.cells #[Value.int .i64 4,Value.int .i64 n,Value.int .u64 b,Value.string t,Value.slice na ns.length nc,Value.slice ka ks.length kc] 42)
 have ho':Old W (w.alloc (.cells #[Value.int .i64 4,Value.int .i64 n,Value.int .u64 b,Value.string t,Value.slice na ns.length nc,Value.slice ka ks.length kc] 42)):=ho.trans (Old.alloc w _)
 exact Z63
theorem put_10(n:Int)(b:Nat)(t:ByteArray)(ns:List ByteArray)(ks:List Dat):jD (.mk 10 n b t ns ks):=by
 intro W w cs v bs hl hsh ho hf hr hN
 have he:(Dat.mk 10 n b t ns ks).enc=eQ (zig n):=KH
 rw [he] at hN ⊢
 rw [Dat.lies] at hl
 rw [Dat.shaped] at hsh
 obtain ⟨na,nc,ka,kc,rfl,-,hn,hb,hns,hks⟩:=hl
 have hq:=hr.alloc (.cells #[Value.int .i64 10,Value.int .i64 n,Value.int .u64 b,Value.string t,Value.slice na ns.length nc,Value.slice ka ks.length kc] 42)
 have hg0:=Grew.alloc w v (.cells #[Value.int .i64 10,Value.int .i64 n,Value.int .u64 b,Value.string t,Value.slice na ns.length nc,Value.slice ka ks.length kc] 42)
 have ho':Old W (w.alloc (.cells #[Value.int .i64 10,Value.int .i64 n,Value.int .u64 b,Value.string t,Value.slice na ns.length nc,Value.slice ka ks.length kc] 42)):=ho.trans (Old.alloc w _)
 exact Z63
theorem put_5(n:Int)(b:Nat)(t:ByteArray)(ns:List ByteArray)(ks:List Dat):jD (.mk 5 n b t ns ks):=by
 intro W w cs v bs hl hsh ho hf hr hN
 have he:(Dat.mk 5 n b t ns ks).enc=low b 4:=KH
 rw [he] at hN ⊢
 rw [Dat.lies] at hl
 rw [Dat.shaped] at hsh
 obtain ⟨na,nc,ka,kc,rfl,-,hn,hb,hns,hks⟩:=hl
 have hq:=hr.alloc (.cells #[Value.int .i64 5,Value.int .i64 n,Value.int .u64 b,Value.string t,Value.slice na ns.length nc,Value.slice ka ks.length kc] 42)
 have hg0:=Grew.alloc w v (.cells #[Value.int .i64 5,Value.int .i64 n,Value.int .u64 b,Value.string t,Value.slice na ns.length nc,Value.slice ka ks.length kc] 42)
 have ho':Old W (w.alloc (.cells #[Value.int .i64 5,Value.int .i64 n,Value.int .u64 b,Value.string t,Value.slice na ns.length nc,Value.slice ka ks.length kc] 42)):=ho.trans (Old.alloc w _)
 have hput:=xg b 4 v bs _ Kc hb Ke hq
 exact Z85
theorem put_6(n:Int)(b:Nat)(t:ByteArray)(ns:List ByteArray)(ks:List Dat):jD (.mk 6 n b t ns ks):=by
 intro W w cs v bs hl hsh ho hf hr hN
 have he:(Dat.mk 6 n b t ns ks).enc=low b 8:=KH
 rw [he] at hN ⊢
 rw [Dat.lies] at hl
 rw [Dat.shaped] at hsh
 obtain ⟨na,nc,ka,kc,rfl,-,hn,hb,hns,hks⟩:=hl
 have hq:=hr.alloc (.cells #[Value.int .i64 6,Value.int .i64 n,Value.int .u64 b,Value.string t,Value.slice na ns.length nc,Value.slice ka ks.length kc] 42)
 have hg0:=Grew.alloc w v (.cells #[Value.int .i64 6,Value.int .i64 n,Value.int .u64 b,Value.string t,Value.slice na ns.length nc,Value.slice ka ks.length kc] 42)
 have ho':Old W (w.alloc (.cells #[Value.int .i64 6,Value.int .i64 n,Value.int .u64 b,Value.string t,Value.slice na ns.length nc,Value.slice ka ks.length kc] 42)):=ho.trans (Old.alloc w _)
 have hput:=xg b 8 v bs _ Kc hb Ke hq
 exact Z85
theorem put_7(n:Int)(b:Nat)(t:ByteArray)(ns:List ByteArray)(ks:List Dat):jD (.mk 7 n b t ns ks):=by
 intro W w cs v bs hl hsh ho hf hr hN
 have he:(Dat.mk 7 n b t ns ks).enc=eQ (zig t.size)++t.data.toList:=KH
 rw [he] at hN ⊢
 rw [Dat.lies] at hl
 rw [Dat.shaped] at hsh
 obtain ⟨na,nc,ka,kc,rfl,-,hn,hb,hns,hks⟩:=hl
 have hq:=hr.alloc (.cells #[Value.int .i64 7,Value.int .i64 n,Value.int .u64 b,Value.string t,Value.slice na ns.length nc,Value.slice ka ks.length kc] 42)
 have hg0:=Grew.alloc w v (.cells #[Value.int .i64 7,Value.int .i64 n,Value.int .u64 b,Value.string t,Value.slice na ns.length nc,Value.slice ka ks.length kc] 42)
 have ho':Old W (w.alloc (.cells #[Value.int .i64 7,Value.int .i64 n,Value.int .u64 b,Value.string t,Value.slice na ns.length nc,Value.slice ka ks.length kc] 42)):=ho.trans (Old.alloc w _)
 exact Z48
theorem put_8(n:Int)(b:Nat)(t:ByteArray)(ns:List ByteArray)(ks:List Dat):jD (.mk 8 n b t ns ks):=by
 intro W w cs v bs hl hsh ho hf hr hN
 have he:(Dat.mk 8 n b t ns ks).enc=eQ (zig t.size)++t.data.toList:=KH
 rw [he] at hN ⊢
 rw [Dat.lies] at hl
 rw [Dat.shaped] at hsh
 obtain ⟨na,nc,ka,kc,rfl,-,hn,hb,hns,hks⟩:=hl
 have hq:=hr.alloc (.cells #[Value.int .i64 8,Value.int .i64 n,Value.int .u64 b,Value.string t,Value.slice na ns.length nc,Value.slice ka ks.length kc] 42)
 have hg0:=Grew.alloc w v (.cells #[Value.int .i64 8,Value.int .i64 n,Value.int .u64 b,Value.string t,Value.slice na ns.length nc,Value.slice ka ks.length kc] 42)
 have ho':Old W (w.alloc (.cells #[Value.int .i64 8,Value.int .i64 n,Value.int .u64 b,Value.string t,Value.slice na ns.length nc,Value.slice ka ks.length kc] 42)):=ho.trans (Old.alloc w _)
 exact Z48
theorem put_14(n:Int)(b:Nat)(t:ByteArray)(ns:List ByteArray)(ks:List Dat):jD (.mk 14 n b t ns ks):=by
 intro W w cs v bs hl hsh ho hf hr hN
 have he:(Dat.mk 14 n b t ns ks).enc=t.data.toList:=KH
 rw [he] at hN ⊢
 rw [Dat.lies] at hl
 rw [Dat.shaped] at hsh
 obtain ⟨na,nc,ka,kc,rfl,-,hn,hb,hns,hks⟩:=hl
 have hq:=hr.alloc (.cells #[Value.int .i64 14,Value.int .i64 n,Value.int .u64 b,Value.string t,Value.slice na ns.length nc,Value.slice ka ks.length kc] 42)
 have hg0:=Grew.alloc w v (.cells #[Value.int .i64 14,Value.int .i64 n,Value.int .u64 b,Value.string t,Value.slice na ns.length nc,Value.slice ka ks.length kc] 42)
 have ho':Old W (w.alloc (.cells #[Value.int .i64 14,Value.int .i64 n,Value.int .u64 b,Value.string t,Value.slice na ns.length nc,Value.slice ka ks.length kc] 42)):=ho.trans (Old.alloc w _)
 obtain ⟨i,hi,hi'⟩:=Y2
 obtain ⟨hz0,hz1,hz2⟩:=Y3
 have HB:Hid (bs.length+t.size<=70368744177000):=by show _<=_;simp only [Array.length_toList] at hN;exact hN
 clear hn hb hN hsh
 go_enter func63,ntmps63
 go_wp2_with (at_builtin;refine dH _ rfl (.tmp 44) (.tmp 46) 76 9 rfl Ke i (.int .u8 0) 1 underlying76 hi hz0 hz1 hz2 rfl rfl hq _ t.size (byteCells t) rfl (Src.ofString _ underlying9 t) KS Ls ?_;intro v1 w1 hrow1 hg1)
 obtain ⟨a2,c2,rfl⟩:=hrow1.shape
 go_ret
 refine ⟨_,rfl,?_,hg0.trans hg1⟩
 have e1:cellsOf (bs++t.data.toList)=cellsOf bs++byteCells t:=by rw [iL];rfl
 have e2:(bs++t.data.toList).length=bs.length+t.size:=by rw [List.length_append];simp
 unfold ic
 rw [e1,e2]
 exact hrow1
theorem put_9(n:Int)(b:Nat)(t:ByteArray)(ns:List ByteArray)(ks:List Dat)(hk:∀x∈ks,jD x):jD (.mk 9 n b t ns ks):=by
 intro W w cs v bs hl hsh ho hf hr hN
 have he:(Dat.mk 9 n b t ns ks).enc=aB ks:=KH
 rw [he] at hN ⊢
 rw [Dat.lies] at hl
 rw [Dat.shaped] at hsh
 obtain ⟨na,nc,ka,kc,rfl,-,hn,hb,hns,hks⟩:=hl
 have hq:=hr.alloc (.cells #[Value.int .i64 9,Value.int .i64 n,Value.int .u64 b,Value.string t,Value.slice na ns.length nc,Value.slice ka ks.length kc] 42)
 have hg0:=Grew.alloc w v (.cells #[Value.int .i64 9,Value.int .i64 n,Value.int .u64 b,Value.string t,Value.slice na ns.length nc,Value.slice ka ks.length kc] 42)
 have ho':Old W (w.alloc (.cells #[Value.int .i64 9,Value.int .i64 n,Value.int .u64 b,Value.string t,Value.slice na ns.length nc,Value.slice ka ks.length kc] 42)):=ho.trans (Old.alloc w _)
 have hput:=zA ks hk hsh.2.2 W _ ka kc v bs hks hsh.2.1 ho' hf hq hN
 clear hn hb hN hsh
 go_enter func63,ntmps63
 go_wp2_with (go_at_call 104;refine (hput).mono ?_;rintro e w1 ⟨v1,rfl,hrow1,hg1⟩)
 exact Z264
theorem put_11(n:Int)(b:Nat)(t:ByteArray)(ns:List ByteArray)(ks:List Dat)(hk:∀x∈ks,jD x):jD (.mk 11 n b t ns ks):=by
 intro W w cs v bs hl hsh ho hf hr hN
 have he:(Dat.mk 11 n b t ns ks).enc=iJ ks++aB ks++eQ (zig 0):=by rw [Dat.enc];simp [iJ]
 rw [he] at hN ⊢
 rw [Dat.lies] at hl
 rw [Dat.shaped] at hsh
 obtain ⟨na,nc,ka,kc,rfl,-,hn,hb,hns,hks⟩:=hl
 have hq:=hr.alloc (.cells #[Value.int .i64 11,Value.int .i64 n,Value.int .u64 b,Value.string t,Value.slice na ns.length nc,Value.slice ka ks.length kc] 42)
 have hg0:=Grew.alloc w v (.cells #[Value.int .i64 11,Value.int .i64 n,Value.int .u64 b,Value.string t,Value.slice na ns.length nc,Value.slice ka ks.length kc] 42)
 have ho':Old W (w.alloc (.cells #[Value.int .i64 11,Value.int .i64 n,Value.int .u64 b,Value.string t,Value.slice na ns.length nc,Value.slice ka ks.length kc] 42)):=ho.trans (Old.alloc w _)
 have hi:fq 11 ns ks ks.length=aB ks:=by
  unfold fq
  rw [if_neg Ke,List.take_length]
 have hlies:(Dat.mk 11 n b t ns ks).lies W [.int .i64 11,.int .i64 n,.int .u64 b,.string t,.slice na ns.length nc,.slice ka ks.length kc]:=LD
 have hput:=vG 11 n b t ns ks hk hsh.2.2 hsh.1 W _ _ v bs hlies ho' hf hq Mc hsh.2.1
 exact Z57
theorem put_12(n:Int)(b:Nat)(t:ByteArray)(ns:List ByteArray)(ks:List Dat)(hk:∀x∈ks,jD x):jD (.mk 12 n b t ns ks):=by
 intro W w cs v bs hl hsh ho hf hr hN
 have he:(Dat.mk 12 n b t ns ks).enc=iJ ks++aG ns ks++eQ (zig 0):=by rw [Dat.enc];simp [iJ]
 rw [he] at hN ⊢
 rw [Dat.lies] at hl
 rw [Dat.shaped] at hsh
 obtain ⟨na,nc,ka,kc,rfl,-,hn,hb,hns,hks⟩:=hl
 have hq:=hr.alloc (.cells #[Value.int .i64 12,Value.int .i64 n,Value.int .u64 b,Value.string t,Value.slice na ns.length nc,Value.slice ka ks.length kc] 42)
 have hg0:=Grew.alloc w v (.cells #[Value.int .i64 12,Value.int .i64 n,Value.int .u64 b,Value.string t,Value.slice na ns.length nc,Value.slice ka ks.length kc] 42)
 have ho':Old W (w.alloc (.cells #[Value.int .i64 12,Value.int .i64 n,Value.int .u64 b,Value.string t,Value.slice na ns.length nc,Value.slice ka ks.length kc] 42)):=ho.trans (Old.alloc w _)
 have hi:fq 12 ns ks ks.length=aG ns ks:=by
  unfold fq
  rw [if_pos rfl,List.take_length,List.take_of_length_le (Nat.le_of_eq (hsh.1 rfl))]
 have hlies:(Dat.mk 12 n b t ns ks).lies W [.int .i64 12,.int .i64 n,.int .u64 b,.string t,.slice na ns.length nc,.slice ka ks.length kc]:=LD
 have hput:=vG 12 n b t ns ks hk hsh.2.2 hsh.1 W _ _ v bs hlies ho' hf hq Mc hsh.2.1
 exact Z57
theorem put_13(n:Int)(b:Nat)(t:ByteArray)(ns:List ByteArray)(ks:List Dat)(hk:∀x∈ks,jD x):jD (.mk 13 n b t ns ks):=by
 intro W w cs v bs hl hsh ho hf hr hN
 have he:(Dat.mk 13 n b t ns ks).enc=eQ (zig n)++aB ks:=KH
 rw [he] at hN ⊢
 rw [Dat.lies] at hl
 rw [Dat.shaped] at hsh
 obtain ⟨na,nc,ka,kc,rfl,-,hn,hb,hns,hks⟩:=hl
 have hvb:blk v≠some w.heap.size:=λe=>by have:=hr.blk_lt e;omega
 have hq:=hr.alloc (.cells #[Value.int .i64 13,Value.int .i64 n,Value.int .u64 b,Value.string t,Value.slice na ns.length nc,Value.slice ka ks.length kc] 42)
 have hg0:=Grew.alloc w v (.cells #[Value.int .i64 13,Value.int .i64 n,Value.int .u64 b,Value.string t,Value.slice na ns.length nc,Value.slice ka ks.length kc] 42)
 have ho':Old W (w.alloc (.cells #[Value.int .i64 13,Value.int .i64 n,Value.int .u64 b,Value.string t,Value.slice na ns.length nc,Value.slice ka ks.length kc] 42)):=ho.trans (Old.alloc w _)
 have HN:Hid (bs.length+(eQ (zig n)).length+(aB ks).length<=70368744177000):=by show _<=_;simp only [List.length_append] at hN;omega
 have hput:=λw1 (h1:ic w1 v bs)=>jV n v bs w1 LP hn.1 hn.2 h1
 have hall:=λw1 v1 (h1:Old W w1) (h2:nt W v1) (h3:ic w1 v1 (bs++eQ (zig n)))=>zA ks hk hsh.2.2 W w1 ka kc v1 (bs++eQ (zig n)) hks hsh.2.1 h1 h2 h3 Md
 clear hn hb hN hsh hks hns hk
 go_enter func63,ntmps63
 go_wp2_with fail
 go_region_with (first
  |(go_at_call 101;refine (hput _ hq.drew).mono ?_;rintro e w1 ⟨v1,rfl,hrow1,hg1⟩;obtain ⟨-,-,-,-,-,hy5⟩:=Fx ((Grew.drew _ _).trans hg1) hvb;have hO:=ho'.grew hf ((Grew.drew _ _).trans hg1);have hF:=nt.grew ho' hf ((Grew.drew _ _).trans hg1))
  |(go_at_call 104;refine (hall _ _ hO hF hrow1).mono ?_;rintro e w2 ⟨v2,rfl,hrow2,hg2⟩))
 all_goals
  obtain ⟨a2,c2,rfl⟩:=hrow2.shape
  go_wp2
  go_ret
  exact ⟨_,rfl,by rw [<-List.append_assoc];exact hrow2,(hg0.trans ((Grew.drew _ _).trans hg1)).trans hg2⟩
theorem Jq(k n:Int)(b:Nat)(t:ByteArray)(ns:List ByteArray)(ks:List Dat)(h2:k≠2)(h3:k≠3)(h4:k≠4)(h10:k≠10)(h5:k≠5)(h6:k≠6)(h7:k≠7)(h8:k≠8)(h14:k≠14)(h9:k≠9)(h13:k≠13)(h11:k≠11)(h12:k≠12):jD (.mk k n b t ns ks):=by
 intro W w cs v bs hl hsh ho hf hr hN
 have he:(Dat.mk k n b t ns ks).enc=[]:=by rw [Dat.enc];simp [h2,h3,h4,h10,h5,h6,h7,h8,h14,h9,h13,h11,h12]
 rw [he,List.append_nil]
 rw [Dat.lies] at hl
 obtain ⟨na,nc,ka,kc,rfl,-,hn,hb,hns,hks⟩:=hl
 have hq:=hr.alloc (.cells #[Value.int .i64 k,Value.int .i64 n,Value.int .u64 b,Value.string t,Value.slice na ns.length nc,Value.slice ka ks.length kc] 42)
 have hg0:=Grew.alloc w v (.cells #[Value.int .i64 k,Value.int .i64 n,Value.int .u64 b,Value.string t,Value.slice na ns.length nc,Value.slice ka ks.length kc] 42)
 obtain ⟨a2,c2,rfl⟩:=hr.shape
 clear hn hb hN hsh he
 go_enter func63,ntmps63
 go_wp2
 go_ret
 exact ⟨_,rfl,hq,hg0⟩
theorem put_ok(d:Dat):jD d:=by
 suffices h:∀m (d:Dat),d.count<=m->jD d from h _ d (NL _)
 intro m
 induction m with
 |zero=>
  intro d hd
  cases d
  rw [Dat.count] at hd
  omega
 |succ m ih=>
  intro d hd
  obtain ⟨k,n,b,t,ns,ks⟩:=d
  have hk:∀x∈ks,jD x:=λx hx=>ih x (by have:=aA hx;rw [Dat.count] at hd;omega)
  by_cases h2:k=2
  ·subst h2;exact put_2 n b t ns ks
  by_cases h3:k=3
  ·subst h3;exact put_3 n b t ns ks
  by_cases h4:k=4
  ·subst h4;exact put_4 n b t ns ks
  by_cases h10:k=10
  ·subst h10;exact put_10 n b t ns ks
  by_cases h5:k=5
  ·subst h5;exact put_5 n b t ns ks
  by_cases h6:k=6
  ·subst h6;exact put_6 n b t ns ks
  by_cases h7:k=7
  ·subst h7;exact put_7 n b t ns ks
  by_cases h8:k=8
  ·subst h8;exact put_8 n b t ns ks
  by_cases h14:k=14
  ·subst h14;exact put_14 n b t ns ks
  by_cases h9:k=9
  ·subst h9;exact put_9 n b t ns ks hk
  by_cases h13:k=13
  ·subst h13;exact put_13 n b t ns ks hk
  by_cases h11:k=11
  ·subst h11;exact put_11 n b t ns ks hk
  by_cases h12:k=12
  ·subst h12;exact put_12 n b t ns ks hk
  exact Jq k n b t ns ks h2 h3 h4 h10 h5 h6 h7 h8 h14 h9 h13 h11 h12
def kP(bs:List UInt8):ByteArray:=⟨bs.toArray⟩
theorem xQ{P:Program}{w:World}{v:Value}{bs:List UInt8}(h:ic w v bs)(src e dst:TypeId)(hs:P.underlying src=some (.slice e))(he:P.underlying e=some (.int .u8))(hd:P.underlying dst=some .string):
  (convert src dst v).run P w=.ok (.string (kP bs)) w:=by
 rcases h with ⟨rfl,h0,h1⟩|⟨g,c,rfl,h⟩
 ·have hb:bs=[]:=NT h0
  rw [run_convert_bytes_nil w src e hs he 0 0 dst hd,hb]
  rfl
 rw [run_convert_bytes_arg w src e hs he g 0 bs.length c (bs.map λb=>(b.toNat:Int)) Kh (λi hi=>?_) dst hd]
 ·congr 2
  unfold strOfNums kP
  simp only [List.map_map]
  congr 2
  conv=>rhs;rw [<-List.map_id bs]
  apply List.map_congr_left
  intro x _
  simp
 rw [NV,h.holds i ML]
 simp [cellsOf,List.getD,List.getElem?_eq_getElem hi]
theorem DK(d:Dat)(w:World)(cs:List Value)(hl:d.lies w cs)(hsh:d.shaped)(hN:d.enc.length<=70368744177000):
  Calls prog 39 #[.agg cs.toArray] w λe w'=>e=.returned (.string (kP d.enc))/\Old w w'/\w'.os=w.os/\w'.output=w.output:=by
 obtain ⟨na,nc,ka,kc,hcs,-⟩:=Dat.lies_cells hl
 have hput:=λw1 (h1:Old w w1)=>put_ok d w w1 cs (.slice none 0 0) [] hl hsh h1 (λi h=>by cases h) (Row.nil _ _) (by simpa using hN)
 subst hcs
 simp only [List.nil_append] at hput
 clear hl hN hsh
 go_enter func39,ntmps39
 go_wp2_with (go_at_call 63;refine (hput _ (Old.alloc _ _)).mono ?_;rintro e w1 ⟨v1,rfl,hrow1,hg1⟩;have hcv:=xQ (P:=prog) hrow1 76 5 9 underlying76 underlying5 underlying9)
 go_ret
 exact ⟨rfl,(Old.alloc _ _).grew (λi h=>by cases h) hg1,hg1.os,hg1.output⟩
def Z215(h:p:=by
 go_wp2
 go_ret
 exact ⟨.inr ⟨_,rfl⟩,HA.out⟩):p:=h
theorem Tryz.infoU81:∃i,prog.info? 5=some i/\i.zero=some (.int .u8 0)/\i.size=1/\i.bytes=1:=by
 obtain ⟨i,h1,h2⟩:=Option.map_eq_some_iff.1 Tryz.infoU8
 exact Z183
theorem u8_wrap(r:Nat)(h:r<=255):IntKind.u8.wrap (r:Int)=((UInt8.ofNat r).toNat:Int):=by
 rw [DS,UInt8.toNat_ofNat_of_lt' Lj]
 omega
def Iq(w:World)(e:Ending)(w':World):Prop:=(fV e\/∃t:ByteArray,e=.returned (.string t))/\Add w w'
theorem Cf{ok:Nat->Prop}{j:J}{cs:List Value}{w:World}{tb:Nat}{kd sz:Int}(hl:j.lies ok w cs)(hk:w.cell? ⟨tb,0,none⟩=some (.int .i64 kd))(hs:w.cell? ⟨tb,6,none⟩=some (.int .i64 sz)):
  Calls prog 159 #[.pointer (some ⟨tb,0,none⟩),.agg cs.toArray] w λe w'=>Iq w e w':=by
 obtain ⟨n,s,a,na,l,c,nl,nc,m,rfl,_,_,hsz,_,_⟩:=bS hl
 have hok:=sH 4 n s a na l c nl nc m
 have hbad:=λW (h:j.kindI≠4)=>qb j.kindI 4 n s a na l c nl nc m W h
 have HS:Hid (s.size<=65536):=hsz
 have HKS:Hid (w.cell? ⟨tb,0,none⟩=some (.int .i64 kd)/\w.cell? ⟨tb,6,none⟩=some (.int .i64 sz)):=⟨hk,hs⟩
 unfold jc at hok hbad ⊢
 clear hl hsz hk hs
 obtain ⟨iR,hiR,hzR,hsR,hbR⟩:=Tryz.infoU81
 by_cases h4:j.kindI=4
 ·rw [h4]
  clear hbad h4
  go_enter func159,ntmps159
  go_wp2_with (first
   |(go_at_call 156;refine (hok _).mono ?_;rintro e w1 ⟨rfl,ha1⟩;have HA1:=bf ((ae w _).trans ha1);clear ha1)
   |(refine gU _ rfl _ _ _ rfl _ (Ai _ _ _ _ _ _ _ _ _ _ _) ?_))
  go_loopw [5] (λbv wr=>∃(pos:Nat) (acc:List UInt8),wr.heap[w1.heap.size]?=some (.stringIter s pos)/\Row wr 1 bv acc.length (cellsOf acc)/\(∀g,blk bv=some g->w1.heap.size<g)/\acc.length<=pos/\Add w1 wr) (λ_ wr=>s.size-wr.iterPos w1.heap.size)
  case atStart=>exact ⟨0,[],World.iter_heap w1 s 0,Row.nil _ _,λ_ h=>Lm,NL _,ae _ _⟩
  obtain ⟨pos,acc,hit,hrow,hown,hal,ha⟩:=hrel
  have hitl:=Y34
  by_cases hp:pos<s.size
  ·have hnx:=Y31
   have hwd:=xy s pos
   have hit2:=Y32
   have hoth:∀i,i≠w1.heap.size->(wr.iterAt w1.heap.size s (pos+(Utf8.decode s pos).2)).heap[i]?=wr.heap[i]?:=λi hi=>by unfold World.iterAt;simp [Ne.symm hi]
   have hrow2:Row (wr.iterAt w1.heap.size s (pos+(Utf8.decode s pos).2)) 1 u5 acc.length (cellsOf acc):=hrow.carry (λi hi=>hoth i (by have:=hown i hi;omega))
   have hsz2:=Y33
   have ha2:Add w1 (wr.iterAt w1.heap.size s (pos+(Utf8.decode s pos).2)):=⟨ha.os,ha.output,by rw [hsz2];exact ha.size,λi hi=>(hoth i Kc).trans (ha.old i hi)⟩
   generalize wr.iterAt w1.heap.size s (pos+(Utf8.decode s pos).2)=w2 at hnx hit2 hrow2 hsz2 ha2
   obtain ⟨la,lc,rfl⟩:=hrow2.shape
   have HI:Hid (wr.heap[w1.heap.size]?=some (.stringIter s pos)):=hit
   generalize Utf8.decode s pos=dd at *
   obtain ⟨r,q⟩:=dd
   have HSZ:Hid (w2.heap.size=wr.heap.size):=hsz2
   have HP:Hid (pos<s.size):=hp
   clear hit hrow hoth ha hsz2 hp
   by_cases hbig:255<r
   ·have hb:(255<(r:Int))=True:=eq_true Kc
    clear hbig
    go_wp2_with (go_at_call 81;refine (dR _ _).mono ?_;rintro e w3 ⟨⟨T,v,rfl⟩,hb3⟩)
    exact ⟨rfl,.inl ⟨_,_,rfl⟩,(HA1.out.trans ha2).trans hb3⟩
   have hb:(255<(r:Int))=False:=eq_false Kc
   have hwr:=u8_wrap r Kc
   have hacc:acc.length<=65536:=by have:=HP.out;have:=HS.out;omega
   clear hbig
   go_wp2_with (at_builtin;refine dH _ rfl _ _ 76 76 rfl Ke iR (.int .u8 0) 1 underlying76 hiR hzR hsR hbR rfl rfl (hrow2.alloc _) _ 1 _ rfl (di _ underlying76 _ rfl 5 _ rfl) Ki Kc ?_;intro v3 w3 hrow3 hg3;obtain ⟨a3,c3,rfl⟩:=hrow3.shape)
   change Grew _ (.slice la acc.length lc) _ _ at hg3
   have h3s:=hg3.size
   rw [dE] at h3s
   have hsz2:=HSZ.out
   have hnit:blk (.slice la acc.length lc)≠some w1.heap.size:=λe=>by have:=hown _ e;omega
   have hit3:w3.heap[w1.heap.size]?=some (.stringIter s (pos+q)):=by
    rw [hg3.old _ Km hnit,Oc _ _ _ Kc]
    exact hit2
   go_roundw
   case rel=>
    refine ⟨pos+q,acc++[UInt8.ofNat r],hit3,?_,?_,?_,?_⟩
    ·rw [List.length_append]
     unfold cellsOf at hrow3 ⊢
     rw [List.map_append]
     exact hrow3
    ·intro g hg
     rcases hg3.at' with e|⟨g3,hg3',e⟩
     ·exact hown g (e ▸ hg)
     rw [e] at hg
     cases hg
     rw [dE] at hg3'
     omega
    ·simp at hwd ⊢
     omega
    exact ⟨hg3.os.trans ha2.os,hg3.output.trans ha2.output,by have:=ha2.size;omega,λi hi=>by
     rw [hg3.old i (by rw [dE];have:=ha2.size;omega) (λe=>by have:=hown i e;omega),Oc _ _ i Nw]
     exact ha2.old i hi⟩
   have:=HP.out
   exact Z199
  have hnx:=Y35
  have hcv:=xQ (P:=prog) hrow 76 5 9 underlying76 underlying5 underlying9
  have hk0:=ha.cell (HA1.out.cell HKS.out.1)
  have hs0:=ha.cell (HA1.out.cell HKS.out.2)
  obtain ⟨la,lc,rfl⟩:=hrow.shape
  have HA:=bf (HA1.out.trans ha)
  clear hrow hown ha hit hp hitl
  by_cases hkd:kd=14
  ·subst hkd
   by_cases hne:(acc.length:Int)=sz
   ·have hnb:((acc.length:Int) != sz)=false:=by rw [bne_eq_false_iff_eq];exact hne
    clear hne
    exact Z215
   have hnb:((acc.length:Int) != sz)=true:=by rw [bne_iff_ne];exact hne
   clear hne
   go_wp2_with (go_at_call 81;refine (dR _ _).mono ?_;rintro e w3 ⟨⟨T,v,rfl⟩,hb3⟩)
   exact ⟨rfl,.inl ⟨_,_,rfl⟩,HA.out.trans hb3⟩
  have hkb:(kd==14)=false:=Nk
  clear hkd
  exact Z215
 have hb:=λW=>hbad W h4
 clear hok hbad h4
 go_enter func159,ntmps159
 exact Z118
def Y90(h:p:=by exact (show ∀w1,Upd rb w w1->WErr w1 s r d m from λw1 h1=>hW.upd h1 hrb)):p:=h
def Z59(h:p:=by
 refine wpAny_ready (rs:=[3]) Kf Kh ?_
 refine AllReady.cons rfl (λK hK=>?_) AllReady.nil
 go_simp
 clear hK
 go_wp2_with (go_at_call 86;refine (gV _ _ _).mono ?_;rintro e w3 ⟨rfl,rfl⟩)
 exact ⟨rfl,rfl,hu1.trans (Upd.of_old ((Old.drew _).trans (Old.of_below hb2)) hb2.os hb2.output)⟩):p:=h
def Z114(h:p:=by
 clear hle hz hi0
 go_enter func92,ntmps92
 go_wp2_with (go_at_call 89;refine hv.mono ?_;rintro e w1 ⟨rfl,hu1⟩)
 exact ⟨rfl,rfl,hu1⟩):p:=h
def Z119(h:p:=by
 clear hz hi0
 go_enter func93,ntmps93
 go_wp2_with (go_at_call 92;refine hv.mono ?_;rintro e w1 ⟨rfl,hu1⟩)
 exact ⟨rfl,rfl,hu1⟩):p:=h
inductive TR where
 |ok (u:ByteArray) (i:Nat)
 |short
 |range
def lrd(t:ByteArray)(i:Nat):TR:=
 match vrd t 10 0 i 0 with
 |.ok z j=>if jR z<0 then .range else if (t.size:Int)-j<jR z then .short else .ok (t.extract j (j+(jR z).toNat)) (j+(jR z).toNat)
 |.short=>.short
 |.range=>.range
def urd(t:ByteArray)(i:Nat):TR:=
 match lrd t i with
 |.ok u j=>if Lib.validD u.data.toList then .ok u j else .range
 |.short=>.short
 |.range=>.range
def AU(V:TR)(rb:Nat)(t:ByteArray)(l:Int)(s r:Value)(w:World)(e:Ending)(w':World):Prop:=
 match V with
 |.ok u j=>e=.returned (.string u)/\Rdr w' rb t j l/\Upd rb w w'
 |.short=>e=.panicked (gF s)/\Upd rb w w'
 |.range=>e=.panicked (gF r)/\Upd rb w w'
theorem Ad(t:ByteArray):∀f k i a z j,vrd t f k i a=.ok z j->i<=t.size->i<=j/\j<=t.size
 |0,k,i,a,z,j,h,hi=>by
  rw [vrd] at h
  cases h
  exact ⟨NL _,hi⟩
 |f+1,k,i,a,z,j,h,hi=>by
  rw [vrd] at h
  split at h
  ·split at h
   ·split at h
    ·cases h
     omega
    have:=Ad t f _ _ _ _ _ h Kc
    omega
   cases h
  cases h
theorem Upd.of_below{rb:Nat}{w w':World}(h:Below w.heap.size w w'):Upd rb w w':=⟨h.os,h.output,h.size,λi hi _=>h.block i hi⟩
theorem vP(rb:Nat)(hrb:34<=rb)(t:ByteArray)(i0:Nat)(l:Int)(s r d m:Value)(w:World)(hW:WErr w s r d m)(hR:Rdr w rb t i0 l)(hi0:i0<=t.size)(hz:t.size<=70368744177000):
  Calls prog 92 #[.pointer (some ⟨rb,0,none⟩)] w λe w'=>AU (lrd t i0) rb t l s r w e w':=by
 have hv:=wQ rb hrb t i0 l s r d m w hW hR hi0 hz
 have hle:=Ad t 10 0 i0 0
 unfold lrd
 generalize vrd t 10 0 i0 0=V at hv hle
 cases V with
 |short=>
  exact Z114
 |range=>
  exact Z114
 |ok z j=>
  obtain ⟨hj0,hj⟩:=hle z j rfl hi0
  show Calls _ _ _ _ λe w'=>AU (if jR z<0 then .range else if (t.size:Int)-j<jR z then .short else .ok (t.extract j (j+(jR z).toNat)) (j+(jR z).toNat)) rb t l s r w e w'
  have hv':Calls prog 89 #[.pointer (some ⟨rb,0,none⟩)] w λe w'=>e=.returned (.int .i64 (jR z))/\Rdr w' rb t j l/\Upd rb w w':=hv
  clear hv
  generalize jR z=n at hv' ⊢
  have hmid:=Y90
  by_cases hn:n<0
  ·rw [if_pos hn]
   have hby:=λw1 (h1:WErr w1 s r d m)=>GQ rb n s r d m w1 h1 hn
   clear hz hi0 hj hj0 hle hn
   go_enter func92,ntmps92
   go_wp2_with (first
    |(go_at_call 89;refine hv'.mono ?_;rintro e w1 ⟨rfl,hR1,hu1⟩)
    |(go_at_call 88;refine (hby _ (hmid _ hu1)).mono ?_;rintro e w2 ⟨rfl,rfl⟩))
   exact ⟨rfl,rfl,hu1⟩
  rw [if_neg hn]
  by_cases hs:(t.size:Int)-j<n
  ·rw [if_pos hs]
   have hby:=λw1 (h1:WErr w1 s r d m) (h2:Rdr w1 rb t j l)=>oO rb t j l n s r d m w1 h1 h2 Kc Kc Kc hz hs
   clear hz hi0 hj hj0 hle hn hs
   go_enter func92,ntmps92
   go_wp2_with (first
    |(go_at_call 89;refine hv'.mono ?_;rintro e w1 ⟨rfl,hR1,hu1⟩)
    |(go_at_call 88;refine (hby _ (hmid _ hu1) hR1).mono ?_;rintro e w2 ⟨rfl,ho2,hos,hou⟩))
   exact ⟨rfl,rfl,hu1.trans (Upd.of_old ho2 hos hou)⟩
  rw [if_neg hs]
  obtain ⟨k,rfl⟩:∃k:Nat,n=(k:Int):=⟨n.toNat,by omega⟩
  rw [Int.toNat_natCast]
  have hby:=λw1 (h1:WErr w1 s r d m) (h2:Rdr w1 rb t j l)=>su rb t j k l s r d m w1 h1 h2 Kc hz
  have hcl:=λw1=>zj (t.extract j (j+k)) w1 KP
  clear hz hi0 hj hj0 hle hn hs
  generalize t.extract j (j+k)=u at hby hcl ⊢
  go_enter func92,ntmps92
  go_wp2_with (first
   |(go_at_call 89;refine hv'.mono ?_;rintro e w1 ⟨rfl,hR1,hu1⟩)
   |(go_at_call 88;refine (hby _ (hmid _ hu1) hR1).mono ?_;rintro e w2 ⟨rfl,hR2,hu2⟩)
   |(go_at_call 94;refine (hcl _).mono ?_;rintro e w3 ⟨rfl,hb3⟩))
  go_ret
  exact ⟨rfl,by simpa using hR2.old (Old.of_below hb3),(hu1.trans hu2).trans (Upd.of_below hb3)⟩
theorem mq.old{rb:Nat}{w w':World}(h:mq w)(hu:Upd rb w w')(hrb:34<=rb):mq w':=by
 have lt3:Tryz.laysValid_ren.g 3<34:=of_decide_eq_true Kf
 have lt4:Tryz.laysValid_ren.g 4<34:=of_decide_eq_true Kf
 exact ⟨λc hc=>hu.cell Kc (h.1 c hc),λi hi=>⟨hu.cell Kc (h.2 i hi).1,hu.cell Kc (h.2 i hi).2⟩⟩
theorem IY{t u:ByteArray}{i j:Nat}(h:lrd t i=.ok u j):u.size<=t.size:=by
 unfold lrd at h
 split at h
 ·split at h
  ·cases h
  split at h
  ·cases h
  cases h
  exact Z227
 ·cases h
 cases h
theorem vL(rb:Nat)(hrb:34<=rb)(t:ByteArray)(i0:Nat)(l:Int)(s r d m:Value)(w:World)(hW:WErr w s r d m)(hT:mq w)(hR:Rdr w rb t i0 l)(hi0:i0<=t.size)(hz:t.size<=70368744177000):
  Calls prog 93 #[.pointer (some ⟨rb,0,none⟩)] w λe w'=>AU (urd t i0) rb t l s r w e w':=by
 have hv:=vP rb hrb t i0 l s r d m w hW hR hi0 hz
 unfold urd
 have hsu:=@IY t
 have hsz:∀u j,lrd t i0=.ok u j->u.size<=t.size:=λu j h=>hsu h
 clear hsu
 generalize lrd t i0=V at hv hsz
 cases V with
 |short=>
  exact Z119
 |range=>
  exact Z119
 |ok u j=>
  show Calls _ _ _ _ λe w'=>AU (if Lib.validD u.data.toList then .ok u j else .range) rb t l s r w e w'
  have hv':Calls prog 92 #[.pointer (some ⟨rb,0,none⟩)] w λe w'=>e=.returned (.string u)/\Rdr w' rb t j l/\Upd rb w w':=hv
  have hmid:=Y90
  have hval:∀w1,Upd rb w w1->Calls prog 72 #[.string u] w1.drew λe w'=>e=.returned (.bool (Lib.validD u.data.toList))/\Below w1.drew.heap.size w1.drew w':=λw1 h1=>qy u w1.drew (by have:=hsz u j rfl;omega) ((hT.old h1 hrb).old (rb:=34) ⟨rfl,rfl,NL _,λ_ _ _=>rfl⟩ (NL _))
  generalize Lib.validD u.data.toList=B at hval ⊢
  clear hv hz hi0 hsz
  cases B with
  |true=>
   go_enter func93,ntmps93
   go_wp2_with (go_at_call 92;refine hv'.mono ?_;rintro e w1 ⟨rfl,hR1,hu1⟩;obtain ⟨vr,hvr,hg1⟩:=(hmid _ hu1).range;subst hvr)
   go_region_with (first
    |(go_at_call 72;refine (hval _ hu1).mono ?_;rintro e w2 ⟨rfl,hb2⟩;have hg2:=((Upd.of_below (rb:=w2.heap.size) hb2).cell (b:=21) KM hg1))
    |(go_at_call 86;refine (gN _ _ _).mono ?_;rintro e w3 ⟨rfl,rfl⟩))
   all_goals
    go_wp2
    go_ret
    exact ⟨rfl,hR1.old ((Old.drew _).trans (Old.of_below hb2)),hu1.trans (Upd.of_old ((Old.drew _).trans (Old.of_below hb2)) hb2.os hb2.output)⟩
  |false=>
   go_enter func93,ntmps93
   go_wp2_with (go_at_call 92;refine hv'.mono ?_;rintro e w1 ⟨rfl,hR1,hu1⟩;obtain ⟨vr,hvr,hg1⟩:=(hmid _ hu1).range;subst hvr)
   refine wp_region_any Kf ?_
   change wpAny _ _ _ _ _ _ _ (World.drew _)
   refine wpAny_take (i:=0) (v:=?_) rfl Kf Kf Kf (λ_ _ _ h=>h) (Or.inl ⟨by rfl,?_⟩) ?_
   rotate_left
   ·exact Z223
   refine wpAny_ready (rs:=[1,2]) Kf Kh ?_
   refine AllReady.cons rfl (λK hK=>?_) (AllReady.cons rfl (λK hK=>?_) AllReady.nil)
   ·go_simp
    go_wp2_with (go_at_call 72;refine (hval _ hu1).mono ?_;rintro e w2 ⟨rfl,hb2⟩;have hg2:=((Upd.of_below (rb:=w2.heap.size) hb2).cell (b:=21) KM hg1))
    refine wpAny_ready (rs:=[2]) Kf Kh ?_
    refine AllReady.cons rfl (λK hK=>?_) AllReady.nil
    go_simp
    refine hK _ _ ?_
    clear hK K
    exact Z59
   go_simp
   refine hK _ _ ?_
   clear hK K
   refine wpAny_ready (rs:=[1]) Kf Kh ?_
   refine AllReady.cons rfl (λK hK=>?_) AllReady.nil
   go_simp
   go_wp2_with (go_at_call 72;refine (hval _ hu1).mono ?_;rintro e w2 ⟨rfl,hb2⟩;have hg2:=((Upd.of_below (rb:=w2.heap.size) hb2).cell (b:=21) KM hg1))
   exact Z59
end
end Go.Proofs.YtjmlghgnbclmfaaGreatDoor
