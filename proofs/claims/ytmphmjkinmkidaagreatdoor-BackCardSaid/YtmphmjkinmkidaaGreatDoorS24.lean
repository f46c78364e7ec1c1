import Derived.Test.YtmphmjkinmkidaaGreatDoorS23
set_option linter.defProp false
open Go.Proofs.Tryz
set_option maxHeartbeats 2000000
namespace Go.Proofs.YtmphmjkinmkidaaGreatDoor
variable{p:Prop}
section
open Go Go.RowKit Go.Extern.Stop Go.Stop Go.Extern
def Z61(h:p:=by
 obtain ⟨hl,h0,h1,⟨fa,fc,h3,-⟩,⟨sa,sc,h4,-⟩,h6,⟨v,h7,-⟩,⟨ba,bc,h8,-⟩⟩:=hn
 rw [hk] at h0
 have HO:Hid (ofB n i b t ks=true):=KX
 clear hk
 go_enter func61,ntmps61
 go_wp2
 go_ret
 exact ⟨mh HO.out.symm,Old.alloc _ _,rfl,rfl⟩):p:=h
def Z79(h:p:=by
 rw [hp] at hplace
 clear hk hof hp
 go_enter func61,ntmps61
 go_wp2
 go_quiet ((go_at_call 98;exact Calls.quiet_of_same (hplace _)))
 exact Z262):p:=h
def Z108(h:p:=by
 clear hk
 go_enter func61,ntmps61
 go_wp2
 go_quiet (fail)
 exact Z262):p:=h
def Z200(h:p:=by
 go_ret
 exact ⟨mh HO.out.symm,Old.alloc _ _,rfl,rfl⟩):p:=h
def Z262(h:p:=by
 go_wp2
 go_ret
 exact ⟨mh HO.out.symm,(Old.alloc _ _).trans (Old.drewN _ _),rfl,rfl⟩):p:=h
theorem Old.drewN(w:World):∀n,Old w (w.drewN n)
 |0=>Old.refl _
 |n+1=>(Old.drewN w n).trans ⟨NL _,λ_ _=>rfl⟩
theorem Dk(a b:Nat):decide (a=b)=((a:Int)==(b:Int)):=by
 by_cases h:a=b
 ·simp [h]
 rw [decide_eq_false h];symm;rw [beq_eq_false_iff_ne];omega
def ofB(n:TNode)(i:Int)(b:Nat)(t:ByteArray)(ks:List Dat):Bool:=
 if n.kind=2 then gq i 2 else if n.kind=3 then Ak i else if n.kind=5 then decide (b<=4294967295) else if n.kind=8 then Lib.validD t.data.toList
 else if n.kind=14 then decide (t.size=n.size) else if n.kind=10 then gq i n.symbols.length else if n.kind=9 then decide (ks.length=n.fields.length)
 else if n.kind=13 then gq i n.branches.length&&decide (ks.length=1) else true
theorem of_2(n:TNode)(pl:Nat->Nat)(tb:Nat)(k i:Int)(b:Nat)(t:ByteArray)(ns:List ByteArray)(ks:List Dat)(na ka:Option Addr)(nc kc:Nat)(w:World)(hn:TypeAt w pl n tb)(hk:n.kind=2):
  Calls prog 61 #[.pointer (some ⟨tb,0,none⟩),.agg #[.int .i64 k,.int .i64 i,.int .u64 b,.string t,.slice na ns.length nc,.slice ka ks.length kc]] w λe w'=>e=.returned (.bool (ofB n i b t ks))/\Old w w'/\w'.os=w.os/\w'.output=w.output:=by
 obtain ⟨hl,h0,h1,⟨fa,fc,h3,-⟩,⟨sa,sc,h4,-⟩,h6,⟨v,h7,-⟩,⟨ba,bc,h8,-⟩⟩:=hn
 rw [hk] at h0
 have HO:Hid (ofB n i b t ks=gq i 2):=KX
 clear hk
 go_enter func61,ntmps61
 go_wp2_with (go_at_call 98;refine (ut _ _ _).mono ?_;rintro e w1 ⟨rfl,rfl⟩)
 exact Z200
theorem of_3(n:TNode)(pl:Nat->Nat)(tb:Nat)(k i:Int)(b:Nat)(t:ByteArray)(ns:List ByteArray)(ks:List Dat)(na ka:Option Addr)(nc kc:Nat)(w:World)(hn:TypeAt w pl n tb)(hk:n.kind=3):
  Calls prog 61 #[.pointer (some ⟨tb,0,none⟩),.agg #[.int .i64 k,.int .i64 i,.int .u64 b,.string t,.slice na ns.length nc,.slice ka ks.length kc]] w λe w'=>e=.returned (.bool (ofB n i b t ks))/\Old w w'/\w'.os=w.os/\w'.output=w.output:=by
 obtain ⟨hl,h0,h1,⟨fa,fc,h3,-⟩,⟨sa,sc,h4,-⟩,h6,⟨v,h7,-⟩,⟨ba,bc,h8,-⟩⟩:=hn
 rw [hk] at h0
 have HO:Hid (ofB n i b t ks=Ak i):=KX
 clear hk
 go_enter func61,ntmps61
 go_wp2_with (go_at_call 90;refine (qo _ _).mono ?_;rintro e w1 ⟨rfl,rfl⟩)
 exact Z200
theorem of_5(n:TNode)(pl:Nat->Nat)(tb:Nat)(k i:Int)(b:Nat)(t:ByteArray)(ns:List ByteArray)(ks:List Dat)(na ka:Option Addr)(nc kc:Nat)(w:World)(hn:TypeAt w pl n tb)(hk:n.kind=5):
  Calls prog 61 #[.pointer (some ⟨tb,0,none⟩),.agg #[.int .i64 k,.int .i64 i,.int .u64 b,.string t,.slice na ns.length nc,.slice ka ks.length kc]] w λe w'=>e=.returned (.bool (ofB n i b t ks))/\Old w w'/\w'.os=w.os/\w'.output=w.output:=by
 obtain ⟨hl,h0,h1,⟨fa,fc,h3,-⟩,⟨sa,sc,h4,-⟩,h6,⟨v,h7,-⟩,⟨ba,bc,h8,-⟩⟩:=hn
 rw [hk] at h0
 have HO:Hid (ofB n i b t ks=decide ((b:Int)<=4294967295)):=by show _=_;unfold ofB;rw [hk];simp;omega
 clear hk
 go_enter func61,ntmps61
 go_wp2
 exact Z200
theorem of_8(n:TNode)(pl:Nat->Nat)(tb:Nat)(k i:Int)(b:Nat)(t:ByteArray)(ns:List ByteArray)(ks:List Dat)(na ka:Option Addr)(nc kc:Nat)(w:World)(hn:TypeAt w pl n tb)(hk:n.kind=8)(hts:t.size<=70368744177000)(hT:mq w)(hsz:34<=w.heap.size):
  Calls prog 61 #[.pointer (some ⟨tb,0,none⟩),.agg #[.int .i64 k,.int .i64 i,.int .u64 b,.string t,.slice na ns.length nc,.slice ka ks.length kc]] w λe w'=>e=.returned (.bool (ofB n i b t ks))/\Old w w'/\w'.os=w.os/\w'.output=w.output:=by
 obtain ⟨hl,h0,h1,⟨fa,fc,h3,-⟩,⟨sa,sc,h4,-⟩,h6,⟨v,h7,-⟩,⟨ba,bc,h8,-⟩⟩:=hn
 rw [hk] at h0
 have HO:Hid (ofB n i b t ks=Lib.validD t.data.toList):=KX
 clear hk
 have hval:=qy t (w.alloc (.cells #[.int .i64 k,.int .i64 i,.int .u64 b,.string t,.slice na ns.length nc,.slice ka ks.length kc] 42)) hts (hT.old (rb:=w.heap.size) (Upd.of_old (Old.alloc _ _) rfl rfl) hsz)
 clear hts
 go_enter func61,ntmps61
 go_wp2_with (go_at_call 72;refine hval.mono ?_;rintro e w1 ⟨rfl,hb1⟩)
 go_ret
 exact ⟨mh HO.out.symm,(Old.alloc _ _).trans (Old.of_below hb1),hb1.os,hb1.output⟩
theorem of_14(n:TNode)(pl:Nat->Nat)(tb:Nat)(k i:Int)(b:Nat)(t:ByteArray)(ns:List ByteArray)(ks:List Dat)(na ka:Option Addr)(nc kc:Nat)(w:World)(hn:TypeAt w pl n tb)(hk:n.kind=14):
  Calls prog 61 #[.pointer (some ⟨tb,0,none⟩),.agg #[.int .i64 k,.int .i64 i,.int .u64 b,.string t,.slice na ns.length nc,.slice ka ks.length kc]] w λe w'=>e=.returned (.bool (ofB n i b t ks))/\Old w w'/\w'.os=w.os/\w'.output=w.output:=by
 obtain ⟨hl,h0,h1,⟨fa,fc,h3,-⟩,⟨sa,sc,h4,-⟩,h6,⟨v,h7,-⟩,⟨ba,bc,h8,-⟩⟩:=hn
 rw [hk] at h0
 have HO:Hid (ofB n i b t ks=((t.size:Int)==(n.size:Int))):=MQ
 exact Z108
theorem of_10(n:TNode)(pl:Nat->Nat)(tb:Nat)(k i:Int)(b:Nat)(t:ByteArray)(ns:List ByteArray)(ks:List Dat)(na ka:Option Addr)(nc kc:Nat)(w:World)(hn:TypeAt w pl n tb)(hk:n.kind=10):
  Calls prog 61 #[.pointer (some ⟨tb,0,none⟩),.agg #[.int .i64 k,.int .i64 i,.int .u64 b,.string t,.slice na ns.length nc,.slice ka ks.length kc]] w λe w'=>e=.returned (.bool (ofB n i b t ks))/\Old w w'/\w'.os=w.os/\w'.output=w.output:=by
 obtain ⟨hl,h0,h1,⟨fa,fc,h3,-⟩,⟨sa,sc,h4,-⟩,h6,⟨v,h7,-⟩,⟨ba,bc,h8,-⟩⟩:=hn
 rw [hk] at h0
 have HO:Hid (ofB n i b t ks=gq i n.symbols.length):=KX
 clear hk
 go_enter func61,ntmps61
 go_wp2
 go_quiet ((go_at_call 98;exact Calls.quiet_of_same (ut _ _ _)))
 exact Z262
theorem of_9(n:TNode)(pl:Nat->Nat)(tb:Nat)(k i:Int)(b:Nat)(t:ByteArray)(ns:List ByteArray)(ks:List Dat)(na ka:Option Addr)(nc kc:Nat)(w:World)(hn:TypeAt w pl n tb)(hk:n.kind=9):
  Calls prog 61 #[.pointer (some ⟨tb,0,none⟩),.agg #[.int .i64 k,.int .i64 i,.int .u64 b,.string t,.slice na ns.length nc,.slice ka ks.length kc]] w λe w'=>e=.returned (.bool (ofB n i b t ks))/\Old w w'/\w'.os=w.os/\w'.output=w.output:=by
 obtain ⟨hl,h0,h1,⟨fa,fc,h3,-⟩,⟨sa,sc,h4,-⟩,h6,⟨v,h7,-⟩,⟨ba,bc,h8,-⟩⟩:=hn
 rw [hk] at h0
 have HO:Hid (ofB n i b t ks=((ks.length:Int)==(n.fields.length:Int))):=MQ
 exact Z108
theorem of_1(n:TNode)(pl:Nat->Nat)(tb:Nat)(k i:Int)(b:Nat)(t:ByteArray)(ns:List ByteArray)(ks:List Dat)(na ka:Option Addr)(nc kc:Nat)(w:World)(hn:TypeAt w pl n tb)(hk:n.kind=1):
  Calls prog 61 #[.pointer (some ⟨tb,0,none⟩),.agg #[.int .i64 k,.int .i64 i,.int .u64 b,.string t,.slice na ns.length nc,.slice ka ks.length kc]] w λe w'=>e=.returned (.bool (ofB n i b t ks))/\Old w w'/\w'.os=w.os/\w'.output=w.output:=by
 exact Z61
theorem of_4(n:TNode)(pl:Nat->Nat)(tb:Nat)(k i:Int)(b:Nat)(t:ByteArray)(ns:List ByteArray)(ks:List Dat)(na ka:Option Addr)(nc kc:Nat)(w:World)(hn:TypeAt w pl n tb)(hk:n.kind=4):
  Calls prog 61 #[.pointer (some ⟨tb,0,none⟩),.agg #[.int .i64 k,.int .i64 i,.int .u64 b,.string t,.slice na ns.length nc,.slice ka ks.length kc]] w λe w'=>e=.returned (.bool (ofB n i b t ks))/\Old w w'/\w'.os=w.os/\w'.output=w.output:=by
 exact Z61
theorem of_6(n:TNode)(pl:Nat->Nat)(tb:Nat)(k i:Int)(b:Nat)(t:ByteArray)(ns:List ByteArray)(ks:List Dat)(na ka:Option Addr)(nc kc:Nat)(w:World)(hn:TypeAt w pl n tb)(hk:n.kind=6):
  Calls prog 61 #[.pointer (some ⟨tb,0,none⟩),.agg #[.int .i64 k,.int .i64 i,.int .u64 b,.string t,.slice na ns.length nc,.slice ka ks.length kc]] w λe w'=>e=.returned (.bool (ofB n i b t ks))/\Old w w'/\w'.os=w.os/\w'.output=w.output:=by
 exact Z61
theorem of_7(n:TNode)(pl:Nat->Nat)(tb:Nat)(k i:Int)(b:Nat)(t:ByteArray)(ns:List ByteArray)(ks:List Dat)(na ka:Option Addr)(nc kc:Nat)(w:World)(hn:TypeAt w pl n tb)(hk:n.kind=7):
  Calls prog 61 #[.pointer (some ⟨tb,0,none⟩),.agg #[.int .i64 k,.int .i64 i,.int .u64 b,.string t,.slice na ns.length nc,.slice ka ks.length kc]] w λe w'=>e=.returned (.bool (ofB n i b t ks))/\Old w w'/\w'.os=w.os/\w'.output=w.output:=by
 exact Z61
theorem of_11(n:TNode)(pl:Nat->Nat)(tb:Nat)(k i:Int)(b:Nat)(t:ByteArray)(ns:List ByteArray)(ks:List Dat)(na ka:Option Addr)(nc kc:Nat)(w:World)(hn:TypeAt w pl n tb)(hk:n.kind=11):
  Calls prog 61 #[.pointer (some ⟨tb,0,none⟩),.agg #[.int .i64 k,.int .i64 i,.int .u64 b,.string t,.slice na ns.length nc,.slice ka ks.length kc]] w λe w'=>e=.returned (.bool (ofB n i b t ks))/\Old w w'/\w'.os=w.os/\w'.output=w.output:=by
 exact Z61
theorem of_12(n:TNode)(pl:Nat->Nat)(tb:Nat)(k i:Int)(b:Nat)(t:ByteArray)(ns:List ByteArray)(ks:List Dat)(na ka:Option Addr)(nc kc:Nat)(w:World)(hn:TypeAt w pl n tb)(hk:n.kind=12):
  Calls prog 61 #[.pointer (some ⟨tb,0,none⟩),.agg #[.int .i64 k,.int .i64 i,.int .u64 b,.string t,.slice na ns.length nc,.slice ka ks.length kc]] w λe w'=>e=.returned (.bool (ofB n i b t ks))/\Old w w'/\w'.os=w.os/\w'.output=w.output:=by
 exact Z61
theorem of_13(n:TNode)(pl:Nat->Nat)(tb:Nat)(k i:Int)(b:Nat)(t:ByteArray)(ns:List ByteArray)(ks:List Dat)(na ka:Option Addr)(nc kc:Nat)(w:World)(hn:TypeAt w pl n tb)(hk:n.kind=13):
  Calls prog 61 #[.pointer (some ⟨tb,0,none⟩),.agg #[.int .i64 k,.int .i64 i,.int .u64 b,.string t,.slice na ns.length nc,.slice ka ks.length kc]] w λe w'=>e=.returned (.bool (ofB n i b t ks))/\Old w w'/\w'.os=w.os/\w'.output=w.output:=by
 obtain ⟨hl,h0,h1,⟨fa,fc,h3,-⟩,⟨sa,sc,h4,-⟩,h6,⟨v,h7,-⟩,⟨ba,bc,h8,-⟩⟩:=hn
 rw [hk] at h0
 have hplace:=ut i n.branches.length
 have hof:ofB n i b t ks=(gq i n.branches.length&&decide (ks.length=1)):=by unfold ofB;rw [hk];rfl
 cases hp:gq i n.branches.length with
 |true=>
  have HO:Hid (ofB n i b t ks=((ks.length:Int)==1)):=by show _=_;rw [hof,hp,Bool.true_and];exact Dk _ 1
  exact Z79
 |false=>
  have HO:Hid (ofB n i b t ks=false):=by show _=_;rw [hof,hp,Bool.false_and]
  exact Z79
theorem of_any(n:TNode)(pl:Nat->Nat)(tb:Nat)(k i:Int)(b:Nat)(t:ByteArray)(ns:List ByteArray)(ks:List Dat)(na ka:Option Addr)(nc kc:Nat)(w:World)(hn:TypeAt w pl n tb)(h1:1<=n.kind)(h2:n.kind<=14)(hts:t.size<=70368744177000)(hT:mq w)(hsz:34<=w.heap.size):
  Calls prog 61 #[.pointer (some ⟨tb,0,none⟩),.agg #[.int .i64 k,.int .i64 i,.int .u64 b,.string t,.slice na ns.length nc,.slice ka ks.length kc]] w λe w'=>e=.returned (.bool (ofB n i b t ks))/\Old w w'/\w'.os=w.os/\w'.output=w.output:=by
 have h:n.kind=1\/n.kind=2\/n.kind=3\/n.kind=4\/n.kind=5\/n.kind=6\/n.kind=7\/n.kind=8\/n.kind=9\/n.kind=10\/n.kind=11\/n.kind=12\/n.kind=13\/n.kind=14:=Kc
 rcases h with h|h|h|h|h|h|h|h|h|h|h|h|h|h
 ·exact of_1 n pl tb k i b t ns ks na ka nc kc w hn h
 ·exact of_2 n pl tb k i b t ns ks na ka nc kc w hn h
 ·exact of_3 n pl tb k i b t ns ks na ka nc kc w hn h
 ·exact of_4 n pl tb k i b t ns ks na ka nc kc w hn h
 ·exact of_5 n pl tb k i b t ns ks na ka nc kc w hn h
 ·exact of_6 n pl tb k i b t ns ks na ka nc kc w hn h
 ·exact of_7 n pl tb k i b t ns ks na ka nc kc w hn h
 ·exact of_8 n pl tb k i b t ns ks na ka nc kc w hn h hts hT hsz
 ·exact of_9 n pl tb k i b t ns ks na ka nc kc w hn h
 ·exact of_10 n pl tb k i b t ns ks na ka nc kc w hn h
 ·exact of_11 n pl tb k i b t ns ks na ka nc kc w hn h
 ·exact of_12 n pl tb k i b t ns ks na ka nc kc w hn h
 ·exact of_13 n pl tb k i b t ns ks na ka nc kc w hn h
 exact of_14 n pl tb k i b t ns ks na ka nc kc w hn h
end
section
open Go Go.RowKit Go.Extern.Stop Go.Stop Go.Extern Go.Maps Go.WideMaps
def lG(x:ByteArray)(l:List ByteArray):Bool:=l.any λy=>decide (x=y)
def iy(seen:List ByteArray):List ByteArray->Bool
 |[]=>true
 |x::r=>if lG x seen then false else if Lib.validD x.data.toList then iy (x::seen) r else false
def kQ(ns:List ByteArray):Bool:=iy [] ns
theorem oK{n j:Nat}(h:j<n):n-((j:Int)+1).toNat<n-j:=Kc
theorem qK{H:Type}{P:Program}{k:TypeId}{R:Value->Option (DataW H × List MemPlace)}{b n:Nat}{D:DataW H}{w w':World}(h:w.ownsMap P k R b n D)(hb:Below w.heap.size w w'):w'.ownsMap P k R b n D:=by
 have hlt:=h.lt
 obtain ⟨es,clock,hb0,F,hs,hD⟩:=h
 exact ⟨es,clock,(hb.block b hlt).trans hb0,F,hs,hD⟩
theorem Bt(ns:List ByteArray)(na:Option Addr)(nc:Nat)(w:World)(hs:jE w na ns)(hlen:ns.length<=70368744177000)(hsz:∀s∈ns,s.size<=70368744177000)(hT:mq w):
  Calls prog 100 #[.slice na ns.length nc] w λe w'=>e=.returned (.bool (kQ ns))/\Below w.heap.size w w':=by
 have hmm:=@run_makeMap prog
 have HS:Hid (∀s∈ns,s.size<=70368744177000):=hsz
 clear hsz
 go_enter func100,ntmps100
 go_wp2
 go_loopw [11] (λi wr=>∃(j:Nat) (D:DataW Unit) (seen:List ByteArray),j<=ns.length/\i=.int .i64 j/\wr.ownsMap prog 9 (plainElem prog 3) w.heap.size j D/\IsMap D/\(∀s:ByteArray,Maps.has D (.string s.data.toList)=lG s seen)/\iy seen (ns.drop j)=kQ ns/\Below w.heap.size w wr) (λi _=>ns.length-(intOf i).toNat)
 case atStart=>exact ⟨0,.map [],[],NQ _,rfl,World.ownsMap_made _ _ _ _,⟨_,rfl⟩,λs=>rfl,rfl,(Below.refl _ _).alloc (NL _) _⟩
 obtain ⟨j,D,seen,hj,rfl,hown,hD,hhas,hk,hb⟩:=hrel
 by_cases hlt:j<ns.length
 ·obtain ⟨sb,so,hna,hsb,hcs⟩:∃sb so,na=some ⟨sb,so,none⟩/\sb<w.heap.size/\∀i (h:i<ns.length),w.cell? ⟨sb,so+i,none⟩=some (.string ns[i]):=by
   rcases hs with h|h
   ·rw [h] at hlt;exact absurd hlt (Nat.not_lt_zero _)
   exact h
  subst hna
  have hcell:=(hb.cell (p:=⟨sb,so+j,none⟩) hsb).trans (hcs j hlt)
  have hxs:=HS.out ns[j] (NS hlt)
  rw [List.drop_eq_getElem_cons hlt,iy] at hk
  have hTr:mq wr:=Utf8Tabs_below hT hb
  clear hcs hs
  generalize hx:ns[j]=x at *
  have hkey:=qH x hxs
  have hval:=λw1 (h1:mq w1)=>qy x w1 hxs h1
  have hhx:=hhas x
  clear hx hxs
  cases hc:lG x seen with
  |true=>
   rw [hc] at hhx hk
   have HV:Hid (kQ ns=false):=Ni
   clear hk hc hhas
   go_wp2_with (first
    |(at_lookup;refine wpList_lookup_own_ok_int _ rfl _ _ 74 rfl 9 3 .i64 Tryz.keyLaw underlying74 underlying3 (Tryz.zeroInt _) w.heap.size j D rfl hown _ _ rfl hkey ?_;intro cL hat hwc;rw [hhx])
    |go_in)
   go_ret
   exact ⟨mh HV.out.symm,hb⟩
  |false=>
   rw [hc] at hhx hk
   rw [if_neg Ke] at hk
   generalize hvB:Lib.validD x.data.toList=B at hval hk
   cases B with
   |false=>
    have HV:Hid (kQ ns=false):=Ni
    clear hk hc hhas hvB
    go_wp2_with (first
     |(at_lookup;refine wpList_lookup_own_ok_int _ rfl _ _ 74 rfl 9 3 .i64 Tryz.keyLaw underlying74 underlying3 (Tryz.zeroInt _) w.heap.size j D rfl hown _ _ rfl hkey ?_;intro cL hat hwc;rw [hhx])
     |(go_at_call 72;refine (hval _ hTr).mono ?_;rintro e w1 ⟨rfl,hb1⟩;have hown1:=qK hown hb1))
    go_ret
    exact ⟨mh HV.out.symm,hb.trans (hb1.mono hb.size)⟩
   |true=>
    have HV:Hid (iy (x::seen) (ns.drop (j+1))=kQ ns):=Ni
    have HH:Hid (∀s:ByteArray,Maps.has D (.string s.data.toList)=lG s seen):=hhas
    clear hk hc hhas hvB
    go_wp2_with (first
     |(at_lookup;refine wpList_lookup_own_ok_int _ rfl _ _ 74 rfl 9 3 .i64 Tryz.keyLaw underlying74 underlying3 (Tryz.zeroInt _) w.heap.size j D rfl hown _ _ rfl hkey ?_;intro cL hat hwc;rw [hhx])
     |(go_at_call 72;refine (hval _ hTr).mono ?_;rintro e w1 ⟨rfl,hb1⟩;have hown1:=qK hown hb1)
     |(at_mapUpdate;refine wpList_mapUpdate_own _ rfl _ _ _ 74 rfl 9 3 Tryz.keyLaw underlying74 _ w.heap.size j _ rfl hown1 Ki _ _ _ rfl rfl hkey _ [] (plainElem_int underlying3 (WalkArith.wf_i64 Kc)) ?_;intro w2 hown2 hgrow2))
    go_roundw
    case rel=>
     refine ⟨j+1,_,x::seen,by omega,by go_num,hown2,hD.put _ _,λs=>?_,HV.out,(hb.trans (hb1.mono hb.size)).grown hgrow2 (hb.trans (hb1.mono hb.size)).size (λi hi=>by cases hi;exact NL _)⟩
     by_cases hsx:s=x
     ·subst hsx
      rw [has_put_same hD (Tryz.keyLaw.key hkey)]
      simp [lG]
     rw [has_put_other (λe=>hsx (jP NA)),HH.out s]
     simp [lG,hsx]
    simp only [intOf];exact oK hlt
 obtain rfl:j=ns.length:=Kc
 have HV:Hid (kQ ns=true):=by show _=_;rw [<-hk,List.drop_length];rfl
 clear hk hhas
 go_wp2
 go_ret
 exact ⟨mh HV.out.symm,hb⟩
end
section
open Go Go.RowKit Go.Extern.Stop Go.Stop Go.Extern
def Y91(h:p:=by exact (show Hid (Fitting W w tab pl fb l) from hF)):p:=h
mutual
def Dat.shapedT:Dat->Prop
 |.mk _ _ _ t ns ks=>t.size<=70368744177000/\ns.length<=70368744177000/\(∀s∈ns,s.size<=70368744177000)/\ks.length<=70368744177000/\aV ks
def aV:List Dat->Prop
 |[]=>True
 |d::r=>d.shapedT/\aV r
end
theorem aX{d:Dat}{ks:List Dat}(h:aV ks)(hd:d∈ks):d.shapedT:=by
 induction ks with
 |nil=>cases hd
 |cons x r ih=>
  rw [aV] at h
  exact Z177
def eu(g:Dat->Nat->Option Nat):List Dat->Nat->Option Nat
 |[],l=>some l
 |d::r,l=>match g d l with
  |some l'=>eu g r l'
  |none=>none
structure FitPost(r:Option Nat)(fb:Nat)(w:World)(e:Ending)(w':World):Prop where
 told:e=.returned (.bool r.isSome)
 upd:Upd fb w w'
 cell:∀l,r=some l->w'.cell? ⟨fb,0,none⟩=some (.int .i64 (l:Int))
 frozen:w'.frozen? ⟨fb,0,none⟩=false
structure Fitting(W w:World)(tab:List TNode)(pl:Nat->Nat)(fb l:Nat):Prop where
 lay:Lay W tab pl
 tabs:mq W
 many:34<=W.heap.size
 old:Old W w
 new:W.heap.size<=fb
 cell:w.cell? ⟨fb,0,none⟩=some (.int .i64 (l:Int))
 frozen:w.frozen? ⟨fb,0,none⟩=false
 bound:l<=1000
def qM(tab:List TNode)(pl:Nat->Nat)(depth:Int)(g:Nat->Dat->Nat->Option Nat):Prop:=
 ∀(id:Nat) (d:Dat) (W w:World) (cs:List Value) (fb l:Nat),id<tab.length->Fitting W w tab pl fb l->d.lies W cs->d.shapedT ->
  Calls prog 38 #[.pointer (some ⟨fb,0,none⟩),.pointer (some ⟨pl id,0,none⟩),.agg cs.toArray,.int .i64 depth] w λe w'=>FitPost (g id d l) fb w e w'
theorem Old.upd{W w w':World}{fb:Nat}(h:Old W w)(hf:W.heap.size<=fb)(hu:Upd fb w w'):Old W w':=
 ⟨NM h.size hu.size,λi hi=>(hu.old i (NK hi h.size) Kc).trans (h.old i hi)⟩
def gL(g:Nat->Dat->Nat->Option Nat)(item:Nat)(ks:List Dat)(l:Nat):Option Nat:=if 1000<l+ks.length then none else eu (g item) ks (l+ks.length)
theorem vK(tab:List TNode)(pl:Nat->Nat)(depth:Int)(g:Nat->Dat->Nat->Option Nat)(hg:qM tab pl depth g)(hgl:∀id d l l',g id d l=some l'->l'<=1000)(id:Nat)(hid:id<tab.length)(hkind:tab[id].kind=11\/tab[id].kind=12)
  (W w:World) (ks:List Dat) (ka:Option Addr) (kc fb l:Nat) (hF:Fitting W w tab pl fb l) (hl:Dat.lieAll W ka 0 ks) (hlen:ks.length<=70368744177000) (hsh:aV ks):
  Calls prog 99 #[.pointer (some ⟨fb,0,none⟩),.pointer (some ⟨pl id,0,none⟩),.slice ka ks.length kc,.int .i64 depth] w λe w'=>FitPost (gL g tab[id].item ks l) fb w e w':=by
 have hT:=hF.lay.lies id hid
 have hitem:=hF.lay.item id hid hkind
 obtain ⟨v7,h7,hv7⟩:=hT.item
 have hpv:=hv7 hkind
 subst hpv
 have hlt7:=hT.lt
 have hc:=hF.cell
 have hz:=hF.frozen
 have hb:=hF.bound
 have hne:pl id≠fb:=by have:=hF.new;omega
 by_cases hbig:1000<l+ks.length
 ·have HI:Hid (gL g tab[id].item ks l=none):=by show _=_;unfold gL;rw [if_pos hbig]
  have hbi:(1000<(l:Int)+(ks.length:Int))=True:=Kt
  have HF:=Y91
  clear hl hsh hkind hitem hF hbig hT h7
  go_enter func99,ntmps99
  go_wp2
  go_ret
  exact ⟨by rw [HI.out];rfl,Upd.set _ _ _ _,λl' h=>by rw [HI.out] at h;(cases h),by rw [Od];exact hz⟩
 have HI:Hid (gL g tab[id].item ks l=eu (g tab[id].item) ks (l+ks.length)):=by show _=_;unfold gL;rw [if_neg hbig]
 have hbi:(1000<(l:Int)+(ks.length:Int))=False:=Kt
 have HB:Hid (l+ks.length<=1000):=by show _<=_;omega
 have HF:=Y91
 generalize tab[id].item=it at *
 clear hkind hF hbig hT
 go_enter func99,ntmps99
 go_wp2
 go_loopw [27] (λcnt wr=>∃(j lj:Nat),j<=ks.length/\cnt=.int .i64 j/\lj<=1000/\eu (g it) (ks.drop j) lj=eu (g it) ks (l+ks.length)/\Upd fb w wr/\wr.cell? ⟨fb,0,none⟩=some (.int .i64 (lj:Int))/\wr.frozen? ⟨fb,0,none⟩=false) (λcnt _=>ks.length-(intOf cnt).toNat)
 case atStart=>exact ⟨0,l+ks.length,NQ _,rfl,HB.out,rfl,Upd.set _ _ _ _,by rw [Oe _ _ _ hc];simp,by rw [World.frozen?_setCell];exact hz⟩
 obtain ⟨j,lj,hj,rfl,hlj,hfold,hu,hcj,hzj⟩:=hrel
 have howr:Old W wr:=HF.out.old.upd HF.out.new hu
 by_cases hlt:j<ks.length
 ·obtain ⟨kb,ko,cs,hka,hkb,h6,hcc,hd⟩:=Dat.lieAll_get ks 0 hl j hlt
  obtain ⟨na,nc,kka,kkc,hcs,-⟩:=Dat.lies_cells hd
  subst hka
  have g0:=(howr.cell hkb).trans (hcc 0 Kc)
  have g1:=(howr.cell hkb).trans (hcc 1 Kc)
  have g2:=(howr.cell hkb).trans (hcc 2 Kc)
  have g3:=(howr.cell hkb).trans (hcc 3 Kc)
  have g4:=(howr.cell hkb).trans (hcc 4 Kc)
  have g5:=(howr.cell hkb).trans (hcc 5 Kc)
  simp [hcs] at g0 g1 g2 g3 g4 g5
  have h7r:=(howr.cell hlt7).trans h7
  have hplr:pl id<wr.heap.size:=NK hlt7 howr.size
  have hmem:=Y4
  have hfbl:fb<wr.heap.size:=NW _ _ hcj
  have hFit:∀o:Obj,Fitting W (wr.alloc o).drew tab pl fb lj:=λo=>⟨HF.out.lay,HF.out.tabs,HF.out.many,(howr.trans (Old.alloc wr o)).trans (Old.drew _),HF.out.new,(World.cell?_alloc_lt wr o ⟨fb,0,none⟩ hfbl).trans hcj,(World.frozen?_alloc_old wr o ⟨fb,0,none⟩ (Nat.ne_of_lt hfbl)).trans hzj,hlj⟩
  have hkid:=λo=>hg it ks[j] W _ cs fb lj hitem (hFit o) hd (aX hsh hmem)
  simp only [hcs] at hkid
  rw [List.drop_eq_getElem_cons hlt,eu] at hfold
  have hbd:=hgl it ks[j] lj
  clear hcc hl hsh hcs hd h6 hmem hFit
  generalize hgk:g it ks[j] lj=G at hkid hfold hbd
  have HFO:Hid (_=eu (g it) ks (l+ks.length)):=hfold
  have HU:Hid (Upd fb w wr):=hu
  clear hfold hu hgk
  cases G with
  |some l'=>
   go_wp2_with fail
   go_region_with (go_at_call 38;refine (hkid _).mono ?_;rintro e w1 ⟨rfl,hu1,hc1,hz1⟩)
   all_goals
    go_wp2
    go_roundw
    case rel=>exact ⟨j+1,l',by omega,by go_num,hbd l' rfl,HFO.out,(HU.out.trans (Upd.of_old ((Old.alloc _ _).trans (Old.drew _)) rfl rfl)).trans hu1,hc1 l' rfl,hz1⟩
    case measure=>simp only [intOf];exact oK hlt
  |none=>
   have HN:Hid (eu (g it) ks (l+ks.length)=none):=HFO.out.symm
   go_wp2_with fail
   go_region_with (go_at_call 38;refine (hkid _).mono ?_;rintro e w1 ⟨rfl,hu1,hc1,hz1⟩)
   all_goals
    go_wp2
    go_ret
    exact ⟨by rw [HI.out,HN.out];rfl,(HU.out.trans (Upd.of_old ((Old.alloc _ _).trans (Old.drew _)) rfl rfl)).trans hu1,λl' h=>by rw [HI.out,HN.out] at h;(cases h),hz1⟩
 obtain rfl:=Y5
 rw [List.drop_length,eu] at hfold
 have HN:Hid (eu (g it) ks (l+ks.length)=some lj):=hfold.symm
 have HU:Hid (Upd fb w wr):=hu
 clear hfold hu hl
 go_wp2
 go_ret
 exact ⟨by rw [HI.out,HN.out];rfl,HU.out,λl' h=>by rw [HI.out,HN.out] at h;(cases h;exact hcj),hzj⟩
def Y92(h:p:=by exact ((hF.old.cell hT.lt).trans hT.kind)):p:=h
def Y93(h:p:=by exact (NK hT.lt hF.old.size)):p:=h
def Y94(h:p:=by exact ((hF.alloc (.cells #[Value.int .i64 k,Value.int .i64 i,Value.int .u64 b,Value.string t,Value.slice na ns.length nc,Value.slice ka ks.length kc] 42)).frozen)):p:=h
def Y95(h:p:=by exact ((hF.alloc (.cells #[Value.int .i64 k,Value.int .i64 i,Value.int .u64 b,Value.string t,Value.slice na ns.length nc,Value.slice ka ks.length kc] 42)).cell)):p:=h
def gR(g:Nat->Dat->Nat->Option Nat)(n:TNode)(i:Int)(ns:List ByteArray)(ks:List Dat)(l:Nat):Option Nat:=
 if n.kind=13 then (match n.branches[i.toNat]?,ks with|some b,d::_=>g b d l|_,_=>none)
 else if n.kind=11 then gL g n.item ks l
 else if n.kind=12 then (if ns.length=ks.length then (match gL g n.item ks l with|some l'=>if kQ ns then some l' else none|none=>none) else none)
 else some l
theorem Old.frozen{W w:World}(h:Old W w){b o:Nat}(hb:b<W.heap.size):w.frozen? ⟨b,o,none⟩=W.frozen? ⟨b,o,none⟩:=Oa (a:=⟨b,o,none⟩) (h.old b hb)
theorem Fitting.alloc{W w:World}{tab:List TNode}{pl:Nat->Nat}{fb l:Nat}(h:Fitting W w tab pl fb l)(o:Obj):Fitting W (w.alloc o) tab pl fb l:=by
 have hl:=NW _ _ h.cell
 exact ⟨h.lay,h.tabs,h.many,h.old.trans (Old.alloc w o),h.new,(World.cell?_alloc_lt w o ⟨fb,0,none⟩ hl).trans h.cell,(World.frozen?_alloc_old w o ⟨fb,0,none⟩ (Nat.ne_of_lt hl)).trans h.frozen,h.bound⟩
theorem Fitting.drew{W w:World}{tab:List TNode}{pl:Nat->Nat}{fb l:Nat}(h:Fitting W w tab pl fb l):Fitting W w.drew tab pl fb l:=
 ⟨h.lay,h.tabs,h.many,h.old.trans (Old.drew w),h.new,h.cell,h.frozen,h.bound⟩
theorem FU(tab:List TNode)(pl:Nat->Nat)(depth:Int)(g:Nat->Dat->Nat->Option Nat)(id:Nat)(hid:id<tab.length)
  (W w:World) (k i:Int) (b:Nat) (t:ByteArray) (ns:List ByteArray) (ks:List Dat) (na ka:Option Addr) (nc kc fb l:Nat) (hF:Fitting W w tab pl fb l) (h9:tab[id].kind≠9) (h13:tab[id].kind≠13) (h11:tab[id].kind≠11) (h12:tab[id].kind≠12):
  Calls prog 62 #[.pointer (some ⟨fb,0,none⟩),.pointer (some ⟨pl id,0,none⟩),.agg #[.int .i64 k,.int .i64 i,.int .u64 b,.string t,.slice na ns.length nc,.slice ka ks.length kc],.int .i64 depth] w λe w'=>FitPost (gR g tab[id] i ns ks l) fb w e w':=by
 have hT:=hF.lay.lies id hid
 have h0:=Y92
 have hlt:=Y93
 have HK:Hid (gR g tab[id] i ns ks l=some l):=by show _=_;unfold gR;rw [if_neg h13,if_neg h11,if_neg h12]
 have HF:=Y91
 have hfz:=Y94
 have hfc:=Y95
 clear hT hF
 generalize tab[id].kind=K at *
 go_enter func62,ntmps62
 go_wp2
 go_ret
 exact ⟨by rw [HK.out];rfl,Upd.of_old (Old.alloc _ _) rfl rfl,λl' h=>by rw [HK.out] at h;(cases h;exact hfc),hfz⟩
theorem kids_11(tab:List TNode)(pl:Nat->Nat)(depth:Int)(g:Nat->Dat->Nat->Option Nat)(hg:qM tab pl depth g)(hgl:∀id d l l',g id d l=some l'->l'<=1000)(id:Nat)(hid:id<tab.length)
  (W w:World) (k i:Int) (b:Nat) (t:ByteArray) (ns:List ByteArray) (ks:List Dat) (na ka:Option Addr) (nc kc fb l:Nat) (hF:Fitting W w tab pl fb l) (hl:Dat.lieAll W ka 0 ks) (hlen:ks.length<=70368744177000) (hsh:aV ks) (hk:tab[id].kind=11):
  Calls prog 62 #[.pointer (some ⟨fb,0,none⟩),.pointer (some ⟨pl id,0,none⟩),.agg #[.int .i64 k,.int .i64 i,.int .u64 b,.string t,.slice na ns.length nc,.slice ka ks.length kc],.int .i64 depth] w λe w'=>FitPost (gR g tab[id] i ns ks l) fb w e w':=by
 have hT:=hF.lay.lies id hid
 have h0:=Y92
 have hlt:=Y93
 have HK:Hid (gR g tab[id] i ns ks l=gL g tab[id].item ks l):=by show _=_;unfold gR;rw [hk];rfl
 have hit:=vK tab pl depth g hg hgl id hid (.inl hk) W _ ks ka kc fb l (hF.alloc (.cells #[Value.int .i64 k,Value.int .i64 i,Value.int .u64 b,Value.string t,Value.slice na ns.length nc,Value.slice ka ks.length kc] 42)) hl hlen hsh
 rw [hk] at h0
 clear hT hF hl hsh hg hgl hk
 go_enter func62,ntmps62
 go_wp2_with (go_at_call 99;refine hit.mono ?_;rintro e w1 ⟨rfl,hu1,hc1,hz1⟩)
 go_ret
 exact ⟨by rw [HK.out];rfl,(Upd.of_old (Old.alloc _ _) rfl rfl).trans hu1,λl' h=>hc1 l' (by rw [HK.out] at h;exact h),hz1⟩
theorem mq.of_old{W w:World}(h:mq W)(ho:Old W w):mq w:=
 ⟨λc hc=>(ho.cell (NW _ _ (h.1 c hc))).trans (h.1 c hc),λi hi=>⟨(ho.cell (NW _ _ (h.2 i hi).1)).trans (h.2 i hi).1,(ho.cell (NW _ _ (h.2 i hi).2)).trans (h.2 i hi).2⟩⟩
theorem kids_12(tab:List TNode)(pl:Nat->Nat)(depth:Int)(g:Nat->Dat->Nat->Option Nat)(hg:qM tab pl depth g)(hgl:∀id d l l',g id d l=some l'->l'<=1000)(id:Nat)(hid:id<tab.length)
  (W w:World) (k i:Int) (b:Nat) (t:ByteArray) (ns:List ByteArray) (ks:List Dat) (na ka:Option Addr) (nc kc fb l:Nat) (hF:Fitting W w tab pl fb l) (hns:jE W na ns) (hl:Dat.lieAll W ka 0 ks) (hnl:ns.length<=70368744177000) (hss:∀s∈ns,s.size<=70368744177000) (hlen:ks.length<=70368744177000) (hsh:aV ks) (hk:tab[id].kind=12):
  Calls prog 62 #[.pointer (some ⟨fb,0,none⟩),.pointer (some ⟨pl id,0,none⟩),.agg #[.int .i64 k,.int .i64 i,.int .u64 b,.string t,.slice na ns.length nc,.slice ka ks.length kc],.int .i64 depth] w λe w'=>FitPost (gR g tab[id] i ns ks l) fb w e w':=by
 have hT:=hF.lay.lies id hid
 have h0:=Y92
 have hlt:=Y93
 have hks:gR g tab[id] i ns ks l=(if ns.length=ks.length then (match gL g tab[id].item ks l with|some l'=>if kQ ns then some l' else none|none=>none) else none):=by unfold gR;rw [hk];rfl
 have hit:=vK tab pl depth g hg hgl id hid (.inr hk) W _ ks ka kc fb l (hF.alloc (.cells #[Value.int .i64 k,Value.int .i64 i,Value.int .u64 b,Value.string t,Value.slice na ns.length nc,Value.slice ka ks.length kc] 42)) hl hlen hsh
 have hO:=(hF.alloc (.cells #[Value.int .i64 k,Value.int .i64 i,Value.int .u64 b,Value.string t,Value.slice na ns.length nc,Value.slice ka ks.length kc] 42)).old
 have hfb:fb<w.heap.size:=NW _ _ hF.cell
 have hkeys:=λw1 (h1:Old W w1)=>Bt ns na nc w1 (hns.carry h1) hnl hss (hF.tabs.of_old h1)
 have hbx4:(w.alloc (.cells #[Value.int .i64 k,Value.int .i64 i,Value.int .u64 b,Value.string t,Value.slice na ns.length nc,Value.slice ka ks.length kc] 42)).cell? ⟨w.heap.size,4,none⟩=some (.slice na ns.length nc):=by rw [World.cell?_alloc_at _ _ _ _ rfl];rfl
 have HNEW:Hid (W.heap.size<=fb):=hF.new
 have HBX:Hid ((w.alloc (.cells #[Value.int .i64 k,Value.int .i64 i,Value.int .u64 b,Value.string t,Value.slice na ns.length nc,Value.slice ka ks.length kc] 42)).cell? ⟨w.heap.size,4,none⟩=some (.slice na ns.length nc)):=hbx4
 have hfz:=Y94
 have hfc:=Y95
 rw [hk] at h0
 clear hT hl hsh hg hgl hk hns hss hbx4
 by_cases hnk:ns.length=ks.length
 ·rw [if_pos hnk] at hks
  simp only [hnk] at hit hkeys hO hfz hfc HBX ⊢
  clear hnk hfz hfc
  generalize gL g tab[id].item ks l=G at hit hks
  cases G with
  |none=>
   have HK:Hid (gR g tab[id] i ns ks l=none):=hks
   clear hks hF
   go_enter func62,ntmps62
   go_wp2_with (go_at_call 99;refine hit.mono ?_;rintro e w1 ⟨rfl,hu1,hc1,hz1⟩)
   go_ret
   exact ⟨by rw [HK.out];rfl,(Upd.of_old (Old.alloc _ _) rfl rfl).trans hu1,λl' h=>by rw [HK.out] at h;(cases h),hz1⟩
  |some l'=>
   have HKS:Hid (gR g tab[id] i ns ks l=if kQ ns then some l' else none):=hks
   clear hks hF
   generalize kQ ns=B at hkeys HKS
   go_enter func62,ntmps62
   go_wp2_with (first
    |(go_at_call 99;refine hit.mono ?_;rintro e w1 ⟨rfl,hu1,hc1,hz1⟩;have hy4:=hu1.cell Kc HBX.out;have hO1:=hO.upd HNEW.out hu1)
    |(go_at_call 100;refine (hkeys _ hO1).mono ?_;rintro e w2 ⟨rfl,hb2⟩))
   go_ret
   have hfb1:fb<w1.heap.size:=NW _ _ (hc1 l' rfl)
   refine ⟨by rw [HKS.out];cases B <;> rfl,((Upd.of_old (Old.alloc _ _) rfl rfl).trans hu1).trans (Upd.of_below hb2),λl2 h=>?_,((Old.of_below hb2).frozen hfb1).trans hz1⟩
   rw [HKS.out] at h
   cases B with
   |true=>cases h;exact ((Old.of_below hb2).cell hfb1).trans (hc1 l' rfl)
   |false=>cases h
 have hnk':((ns.length:Int)==(ks.length:Int))=false:=Kr
 rw [if_neg hnk] at hks
 have HK:Hid (gR g tab[id] i ns ks l=none):=hks
 clear hks hF
 go_enter func62,ntmps62
 go_wp2
 go_ret
 exact ⟨by rw [HK.out];rfl,Upd.of_old (Old.alloc _ _) rfl rfl,λl' h=>by rw [HK.out] at h;(cases h),hfz⟩
theorem kids_13(tab:List TNode)(pl:Nat->Nat)(depth:Int)(g:Nat->Dat->Nat->Option Nat)(hg:qM tab pl depth g)(id:Nat)(hid:id<tab.length)
  (W w:World) (k:Int) (m b:Nat) (t:ByteArray) (ns:List ByteArray) (d:Dat) (na ka:Option Addr) (nc kc fb l:Nat) (hF:Fitting W w tab pl fb l) (hl:Dat.lieAll W ka 0 [d]) (hsh:d.shapedT) (hk:tab[id].kind=13) (hm:m<tab[id].branches.length):
  Calls prog 62 #[.pointer (some ⟨fb,0,none⟩),.pointer (some ⟨pl id,0,none⟩),.agg #[.int .i64 k,.int .i64 (m:Int),.int .u64 b,.string t,.slice na ns.length nc,.slice ka 1 kc],.int .i64 depth] w λe w'=>FitPost (g tab[id].branches[m] d l) fb w e w':=by
 have hT:=hF.lay.lies id hid
 have h0:=Y92
 have hlt:=Y93
 obtain ⟨ba,bc,h8W,hbr⟩:=hT.branches
 have h8:=(hF.old.cell hT.lt).trans h8W
 obtain ⟨bb,bo,hba,hbb,hcb⟩:∃bb bo,ba=some ⟨bb,bo,none⟩/\bb<W.heap.size/\∀i (h:i<tab[id].branches.length),W.cell? ⟨bb,bo+i,none⟩=some (.pointer (some ⟨pl tab[id].branches[i],0,none⟩)):=by
  rcases hbr with h|h
  ·rw [h] at hm;exact absurd hm (Nat.not_lt_zero _)
  exact h
 subst hba
 have hcell:=(hF.old.cell hbb).trans (hcb m hm)
 have hbb':=NK hbb hF.old.size
 obtain ⟨kb,ko,cs,hka,hkb,h6,hcc,hd⟩:=Dat.lieAll_get [d] 0 hl 0 Kh
 simp only [List.getElem_cons_zero] at hd
 obtain ⟨na',nc',ka',kc',hcs,-⟩:=Dat.lies_cells hd
 subst hka
 have hkb':=NK hkb hF.old.size
 have g0:=(hF.old.cell hkb).trans (hcc 0 Kc)
 have g1:=(hF.old.cell hkb).trans (hcc 1 Kc)
 have g2:=(hF.old.cell hkb).trans (hcc 2 Kc)
 have g3:=(hF.old.cell hkb).trans (hcc 3 Kc)
 have g4:=(hF.old.cell hkb).trans (hcc 4 Kc)
 have g5:=(hF.old.cell hkb).trans (hcc 5 Kc)
 simp [hcs] at g0 g1 g2 g3 g4 g5
 have hbid:=hF.lay.branches id hid _ (NS hm)
 have hb12:=(hF.lay.sizes id hid).2.2.1
 have hkid:=hg tab[id].branches[m] d W _ cs fb l hbid (hF.alloc (.cells #[Value.int .i64 k,Value.int .i64 (m:Int),Value.int .u64 b,Value.string t,Value.slice na ns.length nc,Value.slice (some ⟨kb,ko,none⟩) 1 kc] 42)).drew hd hsh
 simp only [hcs] at hkid
 rw [hk] at h0
 clear hT hcb hbr hF hl hsh hcc hcs hd h6 hg h8W hk
 generalize tab[id].branches[m]=it at *
 have hmi:(m:Int)<(tab[id].branches.length:Int):=Kc
 generalize tab[id].branches.length=bl at *
 go_enter func62,ntmps62
 go_wp2_with fail
 go_region_with (go_at_call 38;refine hkid.mono ?_;rintro e w1 ⟨rfl,hu1,hc1,hz1⟩)
 all_goals
  go_wp2
  go_ret
  exact ⟨rfl,(Upd.of_old ((Old.alloc _ _).trans (Old.drew _)) rfl rfl).trans hu1,hc1,hz1⟩
end
end Go.Proofs.YtmphmjkinmkidaaGreatDoor
