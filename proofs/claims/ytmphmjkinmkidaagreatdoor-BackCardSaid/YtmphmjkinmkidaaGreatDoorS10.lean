import Derived.Shelf.Strings.Search3
import Derived.Shelf.Strings.LastIndex
import Derived.Shelf.Strings.Split
import Derived.Shelf.Strconv.Quote
import Derived.Shelf.Slices.Turned
import Derived.Test.YtmphmjkinmkidaaGreatDoorS09
set_option linter.defProp false
open Go.Proofs.Tryz
set_option maxRecDepth 8000
set_option maxHeartbeats 4000000
namespace Go.Proofs.YtmphmjkinmkidaaGreatDoor
variable{p:Prop}
section
open Go Go.RowKit Go.Extern.Stop Go.Stop Go.Extern
def Y40(h:p:=by exact (λW (h:Add w W)=>Am (ok:=λb=>ok b/\b<w.heap.size) name W hn (bL (bP (λb hb hl=>⟨hb,hl⟩) _ _ hl) h))):p:=h
def Z28(h:p:=by
 go_enter func119,ntmps119
 go_wp2_with (first
  |(go_at_call 81;refine (dR _ _).mono ?_;rintro e w3 ⟨⟨T,v,rfl⟩,hb⟩)
  |(go_at_call 68;refine (hit _ ((ae w (.cells #[.int .i64 5,.int .i64 0,.string ByteArray.empty,.slice a l.length c,.slice none 0 0,.map none] 85 (0,0))).trans ha1) 12 Kc Kc).mono ?_;rintro e w2 ⟨s2,rfl,hs2,ha2⟩;have hcb:(9223372036854775807<what.size+6+s1.size+4+s2.size)=False:=eq_false Kc)
  |(go_at_call 68;refine (hit _ (ae w (.cells #[.int .i64 5,.int .i64 0,.string ByteArray.empty,.slice a l.length c,.slice none 0 0,.map none] 85 (0,0))) _ hx0 Kc).mono ?_;rintro e w1 ⟨s1,rfl,hs1,ha1⟩;have hc8:(9223372036854775807<what.size+6+s1.size)=False:=eq_false Kc;have hc9:(9223372036854775807<what.size+6+s1.size+4)=False:=eq_false Kc))
 exact ⟨rfl,⟨_,_,rfl⟩,(((ae _ _).trans ha1).trans ha2).trans hb⟩):p:=h
def Z43(h:p:=by
 go_wp2_with (first
  |(go_at_call 123;refine (hin _ (ae w (.cells #[.int .i64 j.kindI,.int .i64 n0,.string t0,.slice a0 l0 c0,.slice na0 nl0 nc0,.map m0] 85 (0,0)))).mono ?_;rintro e w1 ⟨⟨cs,rfl,hcs⟩,ha1⟩;obtain ⟨n6,t6,a6,na6,l6,c6,nl6,nc6,m6,rfl⟩:=J.lies_cells hcs;unfold jc)
  |(go_at_call 81;refine (dR _ _).mono ?_;rintro e w3 ⟨⟨T,v,rfl⟩,hb⟩))
 exact Z263):p:=h
def Z68(h:p:=by
 go_wp2_with (go_at_call 123;refine (hin _ (ae w (.cells #[.int .i64 j.kindI,.int .i64 n0,.string t0,.slice a0 l0 c0,.slice na0 nl0 nc0,.map m0] 85 (0,0)))).mono ?_;rintro e w1 ⟨⟨T,v,rfl⟩,ha1⟩)
 exact ⟨rfl,⟨_,_,rfl⟩,(ae _ _).trans ha1⟩):p:=h
def Z208(h:p:=by
 cases j <;> first|rfl|exact absurd rfl (h _)):p:=h
def Z263(h:p:=by
 exact ⟨rfl,⟨_,_,rfl⟩,(((ae _ _).trans ha1).trans (ae _ _)).trans hb⟩):p:=h
def Js(O:Option ByteArray)(w:World)(e:Ending)(w':World):Prop:=
 (match O with
 |some t=>e=.returned (.string t)/\t.size<=65536
 |none=>fV e)/\Add w w'
theorem bG{j:J}(h:j.text=none):(j.kindI != 4)=true:=by
 cases j <;> first|rfl|(cases h)
theorem bV{j:J}{t:ByteArray}(h:j.text=some t):j=.str t:=by
 cases j <;> first|(cases h;done)|(cases h;rfl)
theorem mt{ok:Nat->Prop}{j:J}{cs:List Value}(name:ByteArray)(w:World)(hn:name.size<=65536)(hl:j.lies ok w cs):
  Calls prog 122 #[.agg cs.toArray,.string name] w λe w'=>Js (j.textIn name) w e w':=by
 have hin:=Y40
 obtain ⟨n0,t0,a0,na0,l0,c0,nl0,nc0,m0,rfl⟩:=Y39
 unfold jc at hin ⊢
 have hcat:(9223372036854775807<name.size+11)=False:=eq_false Kc
 clear hl hn
 unfold J.textIn
 cases hj:j.named name with
 |none=>
  rw [hj] at hin
  go_enter func122,ntmps122
  exact Z68
 |some v=>
  rw [hj] at hin
  show Calls _ _ _ _ λe w'=>Js v.text w e w'
  cases ht:v.text with
  |none=>
   have hk:=bG ht
   go_enter func122,ntmps122
   exact Z43
  |some t=>
   obtain rfl:=bV ht
   go_enter func122,ntmps122
   go_wp2_with (go_at_call 123;refine (hin _ (ae w (.cells #[.int .i64 j.kindI,.int .i64 n0,.string t0,.slice a0 l0 c0,.slice na0 nl0 nc0,.map m0] 85 (0,0)))).mono ?_;rintro e w1 ⟨⟨cs,rfl,hcs⟩,ha1⟩;rw [J.lies] at hcs;obtain ⟨rfl,hsz⟩:=hcs;unfold jc)
   go_ret
   exact ⟨⟨rfl,hsz⟩,((ae _ _).trans ha1).trans (ae _ _)⟩
def UnPost(O:Bool)(w:World)(e:Ending)(w':World):Prop:=
 (match O with
 |true=>e=.returned (.tuple #[])
 |false=>fV e)/\Add w w'
def lw(least:Nat)(l:List J):Bool:=decide (least<=l.length)&&decide (l.length<=12)
theorem oJ{l:List J}{a:Option Addr}{c:Nat}(what:ByteArray)(least:Nat)(x:Int)(hx:x=least)(w:World)(hT:Tbl w)(hn:what.size<=65536)(hle:least<=1)(hll:l.length<=65536):
  Calls prog 119 #[.agg (jc 5 0 ByteArray.empty a none l.length c 0 0 none).toArray,.string what,.int .i64 x] w λe w'=>UnPost (lw least l) w e w':=by
 have hit:=λW (h:Add w W) (n:Int) (h0:0<=n) (h1:n<=100000)=>nQ n W h0 h1 (hT.pow.add h)
 have hc6:(9223372036854775807<what.size+6)=False:=eq_false Kc
 unfold jc
 by_cases h1:l.length<least
 ·have e1:lw least l=false:=by unfold lw;rw [decide_eq_false Kc,Bool.false_and]
  rw [e1]
  have t1:((l.length:Int)<x)=True:=eq_true Kc
  have hx0:0<=x:=Kc
  have hx1:x<=1:=Kc
  clear hx h1 e1 hle hll
  exact Z28
 have t1:((l.length:Int)<x)=False:=eq_false Kc
 by_cases h2:12<l.length
 ·have e1:lw least l=false:=by unfold lw;rw [decide_eq_false (show ¬ l.length<=12 by omega),Bool.and_false]
  rw [e1]
  have t2:(12<(l.length:Int))=True:=eq_true Kc
  have hx0:0<=x:=Kc
  have hx1:x<=1:=Kc
  clear hx h1 h2 e1 hle hll
  exact Z28
 have e1:lw least l=true:=by unfold lw;rw [decide_eq_true Kc,decide_eq_true Kc];rfl
 rw [e1]
 have t2:(12<(l.length:Int))=False:=eq_false Kc
 clear hx h1 h2 e1 hle hll
 go_enter func119,ntmps119
 go_wp2
 go_end0
 exact ⟨rfl,ae _ _⟩
def JP(O:Option (List J))(ok:Nat->Prop)(w:World)(e:Ending)(w':World):Prop:=
 (match O with
 |some l=>∃a c,e=.returned (.slice a l.length c)/\J.lieAll (λb=>ok b/\b<w.heap.size) w' a 0 l/\l.length<=12
 |none=>fV e)/\Add w w'
theorem bD{j:J}(h:∀l,j≠.arr l):(j.kindI != 5)=true:=by
 exact Z208
theorem bH{ok:Nat->Prop}{w w':World}{a:Option Addr}{i:Nat}{l:List J}(h:J.lieAll ok w a i l)(k:Add w w'):J.lieAll ok w' a i l:=J.lieAll_carry ⟨k.size,λi _ hl=>k.old i hl⟩ _ _ _ h
theorem rC{ok:Nat->Prop}{j:J}{cs:List Value}(name:ByteArray)(least:Nat)(x:Int)(hx:x=least)(w:World)(hT:Tbl w)(hn:name.size<=65536)(hle:least<=1)(hl:j.lies ok w cs):
  Calls prog 148 #[.agg cs.toArray,.string name,.int .i64 x] w λe w'=>JP (j.listIn name least) ok w e w':=by
 have hin:=Y40
 obtain ⟨n0,t0,a0,na0,l0,c0,nl0,nc0,m0,rfl⟩:=Y39
 unfold jc at hin ⊢
 have hcat:(9223372036854775807<name.size+10)=False:=eq_false Kc
 have hchk:=λW (h:Add w W) (l:List J) (a:Option Addr) (c:Nat) (hz:l.length<=65536)=>oJ (l:=l) (a:=a) (c:=c) name least x hx W (hT.add h) hn hle hz
 clear hl hn hT
 unfold J.listIn
 cases hj:j.named name with
 |none=>
  rw [hj] at hin
  clear hx hle
  go_enter func148,ntmps148
  exact Z68
 |some v=>
  rw [hj] at hin
  show Calls _ _ _ _ λe w'=>JP (v.list least) ok w e w'
  by_cases ha:∃l,v=.arr l
  ·obtain ⟨l,rfl⟩:=ha
   have e0:J.list least (.arr l)=if lw least l=true then some l else none:=by
    unfold J.list lw
    simp
   rw [e0]
   cases hlo:lw least l with
   |false=>
    rw [if_neg Ke]
    clear hx hle
    go_enter func148,ntmps148
    go_wp2_with (first
     |(go_at_call 123;refine (hin _ (ae w (.cells #[.int .i64 j.kindI,.int .i64 n0,.string t0,.slice a0 l0 c0,.slice na0 nl0 nc0,.map m0] 85 (0,0)))).mono ?_;rintro e w1 ⟨⟨cs,rfl,hcs⟩,ha1⟩;rw [J.lies] at hcs;obtain ⟨a,c,rfl,hlz,hla⟩:=hcs;have hck:=hchk _ (((ae w (.cells #[.int .i64 j.kindI,.int .i64 n0,.string t0,.slice a0 l0 c0,.slice na0 nl0 nc0,.map m0] 85 (0,0))).trans ha1).trans (ae w1 (.cells #[.int .i64 5,.int .i64 0,.string ByteArray.empty,.slice a l.length c,.slice none 0 0,.map none] 85 (0,0)))) l a c hlz;rw [hlo] at hck;unfold jc at hck ⊢)
     |(go_at_call 119;refine hck.mono ?_;rintro e w3 ⟨⟨T,v,rfl⟩,hb⟩))
    exact Z263
   |true=>
    rw [if_pos rfl]
    have hl12:l.length<=12:=by simp [lw] at hlo;exact hlo.2
    have HL:Hid (l.length<=12):=hl12
    clear hx hle hl12
    go_enter func148,ntmps148
    go_wp2_with (first
     |(go_at_call 123;refine (hin _ (ae w (.cells #[.int .i64 j.kindI,.int .i64 n0,.string t0,.slice a0 l0 c0,.slice na0 nl0 nc0,.map m0] 85 (0,0)))).mono ?_;rintro e w1 ⟨⟨cs,rfl,hcs⟩,ha1⟩;rw [J.lies] at hcs;obtain ⟨a,c,rfl,hlz,hla⟩:=hcs;have hck:=hchk _ (((ae w (.cells #[.int .i64 j.kindI,.int .i64 n0,.string t0,.slice a0 l0 c0,.slice na0 nl0 nc0,.map m0] 85 (0,0))).trans ha1).trans (ae w1 (.cells #[.int .i64 5,.int .i64 0,.string ByteArray.empty,.slice a l.length c,.slice none 0 0,.map none] 85 (0,0)))) l a c hlz;rw [hlo] at hck;unfold jc at hck ⊢)
     |(go_at_call 119;refine hck.mono ?_;rintro e w3 ⟨rfl,hb⟩;have hb3:=(hb.old w1.heap.size Km).trans (dD w1 (.cells #[.int .i64 5,.int .i64 0,.string ByteArray.empty,.slice a l.length c,.slice none 0 0,.map none] 85 (0,0)));obtain ⟨p0,p1,p2,p3,p4,p5,pz⟩:=dF hb3))
    go_ret
    exact ⟨⟨a,c,rfl,bJ (λb hb _=>hb.1) _ _ _ (bH hla ((ae _ _).trans hb)),HL.out⟩,(((ae _ _).trans ha1).trans (ae _ _)).trans hb⟩
  have hk:=bD (λl e=>ha ⟨l,e⟩)
  have e0:J.list least v=none:=by
   cases v <;> first|rfl|exact absurd ⟨_,rfl⟩ ha
  rw [e0]
  clear hx hle ha e0
  go_enter func148,ntmps148
  exact Z43
def Z135(h:p:=by
 refine wpList_plain hgd λK hK'=>?_
 unfold Oper.wp
 simp [execOp,ho,hrun,Result.andThen]
 exact hK' _ _ hK):p:=h
def Z143(h:p:=by
 clear he
 go_wp2_with (refine fE _ rfl _ _ _ rfl _ (hix _) ?_)
 go_ret
 exact ⟨rfl,rfl⟩):p:=h
def lS(w:World):Prop:=∀i (h:i<8),w.cell? ⟨16,i,none⟩=some (.string (kC[i]' KV))
theorem lS.add{w w':World}(h:lS w)(a:Add w w'):lS w':=λi hi=>a.cell (h i hi)
theorem gB(x y:ByteArray):(x.toList==y.toList)=decide (x=y):=by
 rw [ByteArray.toList_eq,ByteArray.toList_eq]
 by_cases h:x=y
 ·rw [h,decide_eq_true rfl]
  simp
 rw [decide_eq_false h]
 exact beq_eq_false_iff_ne.2 λe=>h (jP e)
theorem fE{P:Program}(w:World){ops:Array Oper}{rest:List Oper}{o:Oper}{a:Act}{Q:Exit->Act->World->Prop}(hgd:o.guard=none)(t:TypeId)(x i:Operand)(ho:o.op=.index t x i)(v:Value)(hrun:(Instr.index t (a.eval x) (a.eval i)).run P w=.ok v w)(hK:wpList P ops Q rest (a.put o.dst v) w):wpList P ops Q (o::rest) a w:=by
 exact Z135
theorem GD(w0 w1 w2 w3 w4 w5 w6 w7:ByteArray)(t:ByteArray)(w:World)(h0:w.cell? ⟨16,0,none⟩=some (.string w0))(h1:w.cell? ⟨16,1,none⟩=some (.string w1))(h2:w.cell? ⟨16,2,none⟩=some (.string w2))(h3:w.cell? ⟨16,3,none⟩=some (.string w3))(h4:w.cell? ⟨16,4,none⟩=some (.string w4))(h5:w.cell? ⟨16,5,none⟩=some (.string w5))(h6:w.cell? ⟨16,6,none⟩=some (.string w6))(h7:w.cell? ⟨16,7,none⟩=some (.string w7)):
  Calls prog 116 #[.string t] w λe w'=>e=.returned (.int .i64 (dX t 1 [w0,w1,w2,w3,w4,w5,w6,w7]:Nat))/\w'=w:=by
 generalize hV:dX t 1 [w0,w1,w2,w3,w4,w5,w6,w7]=V
 go_enter func116,ntmps116
 go_wp2
 go_loopw [6] (λcnt wr=>∃j:Nat,j<=8/\cnt=.int .i64 j/\dX t (j+1) ([w0,w1,w2,w3,w4,w5,w6,w7].drop j)=V/\wr=w) (λcnt _=>8-(intOf cnt).toNat)
 case atStart=>exact ⟨0,by omega,rfl,hV,rfl⟩
 obtain ⟨j,hj,rfl,hv,rfl⟩:=hrel
 clear hV
 match j,hj with
 |0,_=>
  have hix:∀X,(Instr.index 116 (.agg #[.string w0,.string w1,.string w2,.string w3,.string w4,.string w5,.string w6,.string w7]) (.int .i64 ((0:Nat):Int))).run prog X=.ok (.string w0) X:=λX=>by kernel_rfl
  change dX t 1 (w0::[w1,w2,w3,w4,w5,w6,w7])=V at hv
  rw [dX] at hv
  by_cases he:w0=t
  ·rw [if_pos he] at hv
   subst hv
   have hb:(w0.toList==t.toList)=true:=KI
   exact Z143
  rw [if_neg he] at hv
  have hb:(w0.toList==t.toList)=false:=KE
  have HV:Hid (dX t 2 [w1,w2,w3,w4,w5,w6,w7]=V):=hv
  clear he hv
  go_wp2_with (refine fE _ rfl _ _ _ rfl _ (hix _) ?_)
  go_roundw
  case rel=>exact ⟨1,by omega,by go_num,HV.out,by trivial⟩
  simp [intOf]
 |1,_=>
  have hix:∀X,(Instr.index 116 (.agg #[.string w0,.string w1,.string w2,.string w3,.string w4,.string w5,.string w6,.string w7]) (.int .i64 ((1:Nat):Int))).run prog X=.ok (.string w1) X:=λX=>by kernel_rfl
  change dX t 2 (w1::[w2,w3,w4,w5,w6,w7])=V at hv
  rw [dX] at hv
  by_cases he:w1=t
  ·rw [if_pos he] at hv
   subst hv
   have hb:(w1.toList==t.toList)=true:=KI
   exact Z143
  rw [if_neg he] at hv
  have hb:(w1.toList==t.toList)=false:=KE
  have HV:Hid (dX t 3 [w2,w3,w4,w5,w6,w7]=V):=hv
  clear he hv
  go_wp2_with (refine fE _ rfl _ _ _ rfl _ (hix _) ?_)
  go_roundw
  case rel=>exact ⟨2,by omega,by go_num,HV.out,by trivial⟩
  simp [intOf]
 |2,_=>
  have hix:∀X,(Instr.index 116 (.agg #[.string w0,.string w1,.string w2,.string w3,.string w4,.string w5,.string w6,.string w7]) (.int .i64 ((2:Nat):Int))).run prog X=.ok (.string w2) X:=λX=>by kernel_rfl
  change dX t 3 (w2::[w3,w4,w5,w6,w7])=V at hv
  rw [dX] at hv
  by_cases he:w2=t
  ·rw [if_pos he] at hv
   subst hv
   have hb:(w2.toList==t.toList)=true:=KI
   exact Z143
  rw [if_neg he] at hv
  have hb:(w2.toList==t.toList)=false:=KE
  have HV:Hid (dX t 4 [w3,w4,w5,w6,w7]=V):=hv
  clear he hv
  go_wp2_with (refine fE _ rfl _ _ _ rfl _ (hix _) ?_)
  go_roundw
  case rel=>exact ⟨3,by omega,by go_num,HV.out,by trivial⟩
  simp [intOf]
 |3,_=>
  have hix:∀X,(Instr.index 116 (.agg #[.string w0,.string w1,.string w2,.string w3,.string w4,.string w5,.string w6,.string w7]) (.int .i64 ((3:Nat):Int))).run prog X=.ok (.string w3) X:=λX=>by kernel_rfl
  change dX t 4 (w3::[w4,w5,w6,w7])=V at hv
  rw [dX] at hv
  by_cases he:w3=t
  ·rw [if_pos he] at hv
   subst hv
   have hb:(w3.toList==t.toList)=true:=KI
   exact Z143
  rw [if_neg he] at hv
  have hb:(w3.toList==t.toList)=false:=KE
  have HV:Hid (dX t 5 [w4,w5,w6,w7]=V):=hv
  clear he hv
  go_wp2_with (refine fE _ rfl _ _ _ rfl _ (hix _) ?_)
  go_roundw
  case rel=>exact ⟨4,by omega,by go_num,HV.out,by trivial⟩
  simp [intOf]
 |4,_=>
  have hix:∀X,(Instr.index 116 (.agg #[.string w0,.string w1,.string w2,.string w3,.string w4,.string w5,.string w6,.string w7]) (.int .i64 ((4:Nat):Int))).run prog X=.ok (.string w4) X:=λX=>by kernel_rfl
  change dX t 5 (w4::[w5,w6,w7])=V at hv
  rw [dX] at hv
  by_cases he:w4=t
  ·rw [if_pos he] at hv
   subst hv
   have hb:(w4.toList==t.toList)=true:=KI
   exact Z143
  rw [if_neg he] at hv
  have hb:(w4.toList==t.toList)=false:=KE
  have HV:Hid (dX t 6 [w5,w6,w7]=V):=hv
  clear he hv
  go_wp2_with (refine fE _ rfl _ _ _ rfl _ (hix _) ?_)
  go_roundw
  case rel=>exact ⟨5,by omega,by go_num,HV.out,by trivial⟩
  simp [intOf]
 |5,_=>
  have hix:∀X,(Instr.index 116 (.agg #[.string w0,.string w1,.string w2,.string w3,.string w4,.string w5,.string w6,.string w7]) (.int .i64 ((5:Nat):Int))).run prog X=.ok (.string w5) X:=λX=>by kernel_rfl
  change dX t 6 (w5::[w6,w7])=V at hv
  rw [dX] at hv
  by_cases he:w5=t
  ·rw [if_pos he] at hv
   subst hv
   have hb:(w5.toList==t.toList)=true:=KI
   exact Z143
  rw [if_neg he] at hv
  have hb:(w5.toList==t.toList)=false:=KE
  have HV:Hid (dX t 7 [w6,w7]=V):=hv
  clear he hv
  go_wp2_with (refine fE _ rfl _ _ _ rfl _ (hix _) ?_)
  go_roundw
  case rel=>exact ⟨6,by omega,by go_num,HV.out,by trivial⟩
  simp [intOf]
 |6,_=>
  have hix:∀X,(Instr.index 116 (.agg #[.string w0,.string w1,.string w2,.string w3,.string w4,.string w5,.string w6,.string w7]) (.int .i64 ((6:Nat):Int))).run prog X=.ok (.string w6) X:=λX=>by kernel_rfl
  change dX t 7 (w6::[w7])=V at hv
  rw [dX] at hv
  by_cases he:w6=t
  ·rw [if_pos he] at hv
   subst hv
   have hb:(w6.toList==t.toList)=true:=KI
   exact Z143
  rw [if_neg he] at hv
  have hb:(w6.toList==t.toList)=false:=KE
  have HV:Hid (dX t 8 [w7]=V):=hv
  clear he hv
  go_wp2_with (refine fE _ rfl _ _ _ rfl _ (hix _) ?_)
  go_roundw
  case rel=>exact ⟨7,by omega,by go_num,HV.out,by trivial⟩
  simp [intOf]
 |7,_=>
  have hix:∀X,(Instr.index 116 (.agg #[.string w0,.string w1,.string w2,.string w3,.string w4,.string w5,.string w6,.string w7]) (.int .i64 ((7:Nat):Int))).run prog X=.ok (.string w7) X:=λX=>by kernel_rfl
  change dX t 8 (w7::[])=V at hv
  rw [dX] at hv
  by_cases he:w7=t
  ·rw [if_pos he] at hv
   subst hv
   have hb:(w7.toList==t.toList)=true:=KI
   exact Z143
  rw [if_neg he] at hv
  have hb:(w7.toList==t.toList)=false:=KE
  have HV:Hid (dX t 9 []=V):=hv
  clear he hv
  go_wp2_with (refine fE _ rfl _ _ _ rfl _ (hix _) ?_)
  go_roundw
  case rel=>exact ⟨8,by omega,by go_num,HV.out,by trivial⟩
  simp [intOf]
 |8,_=>
  change dX t 9 []=V at hv
  rw [dX] at hv
  subst hv
  go_wp2
  go_ret
  exact ⟨rfl,rfl⟩
 |j+9,hj=>exact absurd hj Kc
theorem ry(t:ByteArray)(w:World)(hW:lS w):
  Calls prog 116 #[.string t] w λe w'=>e=.returned (.int .i64 (eP t:Nat))/\w'=w:=
 GD _ _ _ _ _ _ _ _ t w (hW 0 Ke) (hW 1 Ke) (hW 2 Ke) (hW 3 Ke) (hW 4 Ke) (hW 5 Ke) (hW 6 Ke) (hW 7 Ke)
def Y41(h:p:=by exact (show (65<=(r:Int))=False from eq_false Kc)):p:=h
def Y42(h:p:=by exact (show ((r:Int)<=90)=True from eq_true Kc)):p:=h
def Y43(h:p:=by exact (show (97<=(r:Int))=False from eq_false Kc)):p:=h
def Y44(h:p:=by exact (show ((r:Int)<=122)=True from eq_true Kc)):p:=h
def Y45(h:p:=by exact (show ((r:Int)==95)=false from beq_eq_false_iff_ne.2 Kc)):p:=h
def Y46(h:p:=by exact (show (48<=(r:Int))=True from eq_true Kc)):p:=h
def Y47(h:p:=by exact (show (65<=(r:Int))=True from eq_true Kc)):p:=h
def Y48(h:p:=by exact (show ((r:Int)<=90)=False from eq_false Kc)):p:=h
def Y49(h:p:=by exact (show ((r:Int)<=57)=False from eq_false Kc)):p:=h
def Y50(h:p:=by exact (show Hid (ow t (pos+1)=V/\q=1) from ⟨by rw [<-hv];simp [hl,hg],n3 (by simp [hl,hg])⟩)):p:=h
def Z35(h:p:=by
 have t3:=Y44
 have t4:=Y45
 have t5:=Y46
 have t6:=Y49
 have hl:rP r=true:=Mu
 have hg:ri r=false:=Mv
 have HV:=Y50
 clear hr hv n3 hl hg hp
 exact Z255):p:=h
def Z36(h:p:=by
 have t0:=Y47
 have t1:=Y48
 have t2:=Y43
 have t3:=Y44
 have t4:=Y45
 exact Z252):p:=h
def Z45(h:p:=by
 have t4:=Y45
 exact Z252):p:=h
def Z84(h:p:=by
 clear hr hv n3 hl hg hp
 exact Z255):p:=h
def Z161(h:p:=by
 rw [ByteArray.toList_eq]
 intro e
 exact h0 (by simpa using congrArg List.length e)):p:=h
def Z178(h:p:=by
 clear hr hv n3 hl hg hp
 go_wp2
 go_ret
 exact ⟨mh HV.out.symm,ha2⟩):p:=h
def Z252(h:p:=by
 have t5:=Y46
 have t6:=Y49
 have hl:rP r=false:=Mu
 have hg:ri r=false:=Mv
 have HV:Hid (V=false):=by show _=_;rw [<-hv];simp [hl,hg]
 clear hr hv n3 hl hg hp
 go_wp2
 go_ret
 exact ⟨mh HV.out.symm,ha2⟩):p:=h
def Z255(h:p:=by
 go_wp2
 go_roundw
 case rel=>exact ⟨pos+1,by rw [hit2,HV.out.2],HV.out.1,HT.out.1,ha2⟩
 simp only [World.iterPos,hit2,HI.out]
 have:=HV.out.2
 have:=HT.out.1
 omega):p:=h
def rP(r:Nat):Bool:=(decide (65<=r)&&decide (r<=90))||(decide (97<=r)&&decide (r<=122))||r==95
def ri(r:Nat):Bool:=decide (48<=r)&&decide (r<=57)
def ow(t:ByteArray)(pos:Nat):Bool:=if pos=0 then Eo t.data.toList else nS (t.data.toList.drop pos)
theorem xO(t:ByteArray)(pos:Nat)(h:pos<t.size):t.data.toList.drop pos=t[pos]::t.data.toList.drop (pos+1):=by
 rw [List.drop_eq_getElem_cons Ky]
 rfl
theorem Cl(t:ByteArray)(pos:Nat)(h:pos<t.size):ow t pos=((rD t[pos]||(uD t[pos]&&decide (pos≠0)))&&ow t (pos+1)):=by
 unfold ow
 by_cases hp:pos=0
 ·subst hp
  have e:=xO t 0 h
  rw [List.drop_zero] at e
  rw [if_pos rfl,if_neg Kc,e,Eo]
  simp
 rw [if_neg hp,if_neg Kc,xO t pos h,nS]
 simp [hp]
theorem uX(t:ByteArray)(pos:Nat)(h:pos<t.size):(t[pos].toNat<128->Utf8.decode t pos=(t[pos].toNat,1))/\(128<=t[pos].toNat->128<=(Utf8.decode t pos).1):=by
 refine ⟨λhb=>decode_ascii t pos h hb,λhb=>(decode_high t pos h hb).1⟩
theorem Gb(b:UInt8):rD b=rP b.toNat:=rfl
theorem Je(b:UInt8):uD b=ri b.toNat:=rfl
theorem FO(t:ByteArray)(pos:Nat)(h:pos<t.size):rD t[pos]=rP (Utf8.decode t pos).1/\uD t[pos]=ri (Utf8.decode t pos).1/\((rP (Utf8.decode t pos).1=true\/ri (Utf8.decode t pos).1=true)->(Utf8.decode t pos).2=1):=by
 have hd:=uX t pos h
 rw [Gb,Je]
 by_cases hb:t[pos].toNat<128
 ·rw [hd.1 hb]
  exact ⟨rfl,rfl,λ_=>rfl⟩
 have h2:=hd.2 Kc
 have f1:∀r,128<=r->rP r=false:=λr hr=>by
  unfold rP
  rw [decide_eq_false (show ¬ r<=90 by omega),decide_eq_false (show ¬ r<=122 by omega),beq_eq_false_iff_ne.2 Kc]
  simp
 have f2:∀r,128<=r->ri r=false:=λr hr=>by
  unfold ri
  rw [decide_eq_false (show ¬ r<=57 by omega),Bool.and_false]
 rw [f1 _ Kc,f2 _ Kc,f1 _ h2,f2 _ h2]
 exact ⟨rfl,rfl,λh=>by rcases h with h|h <;> cases h⟩
theorem rk(t:ByteArray)(w:World)(hz:t.size<=70368744177000):
  Calls prog 154 #[.string t] w λe w'=>e=.returned (.bool (dJ t))/\Add w w':=by
 have hV:ow t 0=dJ t:=rfl
 generalize dJ t=V at *
 go_enter func154,ntmps154
 go_wp2
 go_loopw [] (λwr=>∃pos:Nat,wr.heap[w.heap.size]?=some (.stringIter t pos)/\ow t pos=V/\pos<=t.size/\Add w wr) (λwr=>t.size-wr.iterPos w.heap.size)
 case atStart=>exact ⟨0,World.iter_heap w t 0,hV,NQ _,ae _ _⟩
 obtain ⟨pos,hit,hv,hps,ha⟩:=hrel
 clear hV
 by_cases hp:pos<t.size
 ·have hnx:∀ty,(Instr.next (.pointer (some ⟨w.heap.size,0,none⟩)) true ty).run prog wr=_:=λty=>Lib.run_next_any_at wr w.heap.size t pos ty hit hp
  have hit2:=Lib.iterAt_heap wr w.heap.size t pos (pos+(Utf8.decode t pos).2) hit
  have hitl:w.heap.size<wr.heap.size:=(Oh hit).1
  have ha2:Add w (wr.iterAt w.heap.size t (pos+(Utf8.decode t pos).2)):=⟨ha.os,ha.output,by rw [Lib.iterAt_size];exact ha.size,λi hi=>by rw [Lib.iterAt_other _ _ _ _ _ Kc];exact ha.old i hi⟩
  obtain ⟨n1,n2,n3⟩:=FO t pos hp
  rw [Cl t pos hp,n1,n2] at hv
  have HI:Hid (wr.heap[w.heap.size]?=some (.stringIter t pos)):=hit
  have HT:Hid (pos<t.size/\t.size<=70368744177000):=⟨hp,hz⟩
  generalize wr.iterAt w.heap.size t (pos+(Utf8.decode t pos).2)=w2 at hnx hit2 ha2
  clear n1 n2 hit ha hps
  generalize Utf8.decode t pos=dd at *
  obtain ⟨r,q⟩:=dd
  simp only at hv n3 hit2 hnx
  rcases (by omega:(r<48)\/(48<=r/\r<=57)\/(58<=r/\r<=64)\/(65<=r/\r<=90)\/(91<=r/\r<=94)\/(r=95)\/(r=96)\/(97<=r/\r<=122)\/(122<r)) with hr|hr|hr|hr|hr|hr|hr|hr|hr
  ·have t0:=Y41
   have t1:=Y42
   have t2:=Y43
   have t3:=Y44
   have t4:=Y45
   have t5:(48<=(r:Int))=False:=eq_false Kc
   have t6:((r:Int)<=57)=True:=eq_true Kc
   have hl:rP r=false:=Mu
   have hg:ri r=false:=Mv
   have HV:Hid (V=false):=by show _=_;rw [<-hv];simp [hl,hg]
   exact Z178
  ·have t0:=Y41
   have t1:=Y42
   have t2:=Y43
   have t3:=Y44
   have t4:=Y45
   have t5:=Y46
   have t6:((r:Int)<=57)=True:=eq_true Kc
   have hl:rP r=false:=Mu
   have hg:ri r=true:=Mv
   by_cases h0:pos=0
   ·have b0:((pos:Int)==0)=true:=beq_iff_eq.2 Kc
    have HV:Hid (V=false):=by show _=_;rw [<-hv];simp [hl,hg,h0]
    exact Z178
   have b0:((pos:Int)==0)=false:=beq_eq_false_iff_ne.2 Kc
   have HV:Hid (ow t (pos+1)=V/\q=1):=⟨by rw [<-hv];simp [hl,hg,h0],n3 (by simp [hl,hg])⟩
   exact Z84
  ·have t0:=Y41
   have t1:=Y42
   have t2:=Y43
   have t3:=Y44
   exact Z45
  ·have t0:=Y47
   have t1:=Y42
   have t2:=Y43
   exact Z35
  ·exact Z36
  ·have t0:=Y47
   have t1:=Y48
   have t2:=Y43
   have t3:=Y44
   have t4:((r:Int)==95)=true:=beq_iff_eq.2 Kc
   have t5:=Y46
   have t6:=Y49
   have hl:rP r=true:=Mu
   have hg:ri r=false:=Mv
   have HV:=Y50
   exact Z84
  ·exact Z36
  ·have t0:=Y47
   have t1:=Y48
   have t2:(97<=(r:Int))=True:=eq_true Kc
   exact Z35
  have t0:=Y47
  have t1:=Y48
  have t2:(97<=(r:Int))=True:=eq_true Kc
  have t3:((r:Int)<=122)=False:=eq_false Kc
  exact Z45
 have hnx:∀ty,(Instr.next (.pointer (some ⟨w.heap.size,0,none⟩)) true ty).run prog wr=_:=λty=>Lib.run_next_end_at wr w.heap.size t pos ty hit hp
 obtain rfl:pos=t.size:=Kc
 by_cases h0:t.size=0
 ·have hV0:V=false:=by
   rw [<-hv]
   unfold ow
   rw [if_pos h0]
   have:t.data.toList=[]:=NT Nr
   rw [this]
   rfl
  have hE:t.toList=[]:=by rw [ByteArray.toList_eq];exact NT Nr
  have HV:Hid (V=false):=hV0
  clear hv hV0 h0 hp
  go_wp2
  go_ret
  exact ⟨mh HV.out.symm,ha⟩
 have hV0:V=true:=by
  rw [<-hv]
  unfold ow
  rw [if_neg h0,List.drop_eq_nil_of_le Kh]
  rfl
 have hE:¬ t.toList=[]:=by
  exact Z161
 have HV:Hid (V=true):=hV0
 clear hv hV0 h0 hp
 go_wp2
 go_ret
 exact ⟨mh (by rw [HV.out];cases hc:t.toList with|nil=>exact absurd hc hE|cons a l=>rfl),ha⟩
end
end Go.Proofs.YtmphmjkinmkidaaGreatDoor
section
set_option maxRecDepth 8000
set_option maxHeartbeats 4000000
namespace Go.Proofs
open Go.RowKit Go.Shelf Go.Lib
def Tryz.laysCont_ren:Shelf.Ren:=⟨fun|144=>143|143=>171|219=>186|217=>195|225=>196|224=>197|267=>198|266=>204|314=>205|n=>n,fun|46=>208|146=>249|51=>248|n=>n,fun|1=>24|n=>n⟩
theorem Tryz.laysCont:Lays.n144 prog Tryz.laysCont_ren:=lyT
def Tryz.laysLast_ren:Shelf.Ren:=⟨fun|148=>85|222=>128|223=>129|269=>164|n=>n,fun|146=>249|51=>248|46=>208|n=>n,fun|n=>n⟩
theorem Tryz.laysLast:Lays.n148 prog Tryz.laysLast_ren:=lyT
def Tryz.laysSplit_ren:Shelf.Ren:=⟨fun|146=>189|221=>203|268=>208|138=>209|143=>171|195=>210|197=>187|218=>211|219=>186|260=>199|217=>195|225=>196|224=>197|267=>198|266=>204|314=>205|n=>n,fun|105=>271|46=>208|119=>204|139=>207|138=>206|146=>249|51=>248|n=>n,fun|1=>24|3=>22|4=>23|n=>n⟩
theorem Tryz.laysSplit:Lays.n146 prog Tryz.laysSplit_ren:=lyT
theorem Tryz.hi9:(prog.info? 9).map (λi=>(i.zero,i.size,i.bytes))=some (some (.string ByteArray.empty),1,16):=by kernel_rfl
namespace YtmphmjkinmkidaaGreatDoor
open Go Go.RowKit Go.Extern.Stop Go.Stop Go.Extern
variable {p:Prop}
def Y51(h:p:=by exact (show ((j:Int)<(N:Int))=True from eq_true Kc)):p:=h
def Y52(h:p:=by exact (show (0:Int)<=(j:Int) from by omega)):p:=h
def Y53(h:p:=by exact (show (j:Int)<(N:Int) from by omega)):p:=h
def Y54(h:p:=by exact (show ((j:Int)<(N:Int))=False from eq_false Kc)):p:=h
def Z102(h:p:=by
 go_enter func117,ntmps117
 go_wp2_with (go_at_call 143;refine (Az _ _).mono ?_;rintro e w1 ⟨rfl,hw1⟩;rw [hw1,hp])
 go_ret
 exact ⟨rfl,rfl⟩):p:=h
def Z179(h:p:=by
 show Lib.lastIdx t 46 t.size<=_/\_<=Lib.lastIdx t 46 t.size
 omega):p:=h
def xC(w:World):Prop:=∃m,w.cell? ⟨24,0,none⟩=some (.int .i64 m)
theorem xC.add{w w':World}(h:xC w)(a:Add w w'):xC w':=by
 obtain ⟨m,h⟩:=h
 exact ⟨m,a.cell h⟩
theorem Az(s:ByteArray)(w:World):
  Calls prog 143 #[.string s,.string gC] w λe w'=>e=.returned (.bool (fB s))/\w'=w:=Any.strings_Contains_one Tryz.laysCont s 46 w
theorem AZ(s:ByteArray)(w:World)(hs:s.size<=70368744177000):
  Calls prog 85 #[.string s,.string gC] w λe w'=>e=.returned (.int .i64 (Lib.lastIndexByte s 46))/\w'=w:=Any.strings_LastIndex_one Tryz.laysLast s gC rfl Kc w
theorem FY(s:ByteArray)(w:World)(hs:s.size<=65536)(hm:xC w):
  Calls prog 189 #[.string s,.string gC] w λe w'=>e=.returned (.slice (some ⟨w.heap.size,0,none⟩) (Lib.splitB gC 0 (Lib.countB s gC) s).length (Lib.splitB gC 0 (Lib.countB s gC) s).length)/\w'=w.alloc (.cells ((Lib.splitB gC 0 (Lib.countB s gC) s).map Value.string).toArray 9):=by
 obtain ⟨m,hm⟩:=hm
 have h:=Any.strings_Split Tryz.laysSplit Tryz.hi9 s gC m w Kc hm Ke
 have hl:=Lib.splitB_all gC Ke 0 _ s rfl
 rw [hl]
 exact h
theorem oz(name space:ByteArray)(w:World)(h1:name.size<=65536)(h2:space.size<=70368744177000):
  Calls prog 117 #[.string name,.string space] w λe w'=>e=.returned (.string (fI name space))/\w'=w:=by
 unfold fI
 by_cases h0:space.size=0
 ·rw [if_pos (.inl h0)]
  have hE:space.toList=[]:=by rw [ByteArray.toList_eq];exact NT Nr
  clear h0 h1 h2
  go_enter func117,ntmps117
  go_wp2
  go_ret
  exact ⟨rfl,rfl⟩
 have hE:¬ space.toList=[]:=by
  exact Z161
 cases hp:fB name with
 |true=>
  rw [if_pos (.inr rfl)]
  clear h0 h1 h2
  go_enter func117,ntmps117
  go_wp2_with (go_at_call 143;refine (Az _ _).mono ?_;rintro e w1 ⟨rfl,hw1⟩;rw [hw1,hp])
  all_goals (go_ret;exact ⟨rfl,rfl⟩)
 |false=>
  rw [if_neg (by simp [h0])]
  have hE':space.toList.isEmpty=false:=by
   cases hq:space.toList with
   |nil=>exact absurd hq hE
   |cons _ _=>rfl
  have hc1:(9223372036854775807<space.size+1)=False:=eq_false Kc
  have hc2:(9223372036854775807<space.size+1+name.size)=False:=eq_false Kc
  clear h0 h1 h2 hE
  exact Z102
theorem vV(t:ByteArray)(w:World)(h:t.size<=70368744177000):
  Calls prog 150 #[.string t] w λe w'=>e=.returned (.string (gi t))/\w'=w:=by
 have hl:=AZ t w h
 unfold gi
 have hb:Lib.lastIndexByte t 46<=(t.size:Int) /\ -1<=Lib.lastIndexByte t 46:=by
  rcases Lib.lastIdx_spec t 46 t.size with ⟨e,_⟩|⟨i,hi,e,_⟩
  ·exact Z179
  exact Z179
 generalize Lib.lastIndexByte t 46=n at *
 obtain ⟨m,hm⟩:∃m:Nat,max 0 n=(m:Int):=⟨(max 0 n).toNat,by omega⟩
 have hms:m<=t.size:=Kc
 rw [hm]
 clear hb h
 go_enter func150,ntmps150
 go_wp2_with (go_at_call 85;refine hl.mono ?_;rintro e w1 ⟨rfl,hw1⟩;rw [hw1])
 go_ret
 exact ⟨by rw [Int.toNat_natCast];rfl,rfl⟩
theorem yt(sep:ByteArray):∀(k:Nat) (s:ByteArray),∀p∈Lib.splitB sep 0 k s,p.size<=s.size
 |0,s,p,h=>by
  rw [Lib.splitB_zero] at h
  obtain rfl:p=s:=Ky
  exact NL _
 |k+1,s,p,h=>by
  unfold Lib.splitB at h
  split at h
  ·obtain rfl:p=s:=Ky
   exact NL _
  rcases List.mem_cons.1 h with rfl|h
  ·rw [ByteArray.size_extract];omega
  have:=yt sep k _ p h
  rw [ByteArray.size_extract] at this
  omega
theorem pG(t:ByteArray)(w:World)(hz:t.size<=65536)(hm:xC w):
  Calls prog 173 #[.string t] w λe w'=>e=.returned (.bool (eY t))/\Add w w':=by
 have hsp:=FY t w hz hm
 unfold eY
 have hszs:∀s∈Lib.splitB gC 0 (Lib.countB t gC) t,s.size<=70368744177000:=λp h=>NM (yt _ _ _ p h) Kc
 have hlen:(Lib.splitB gC 0 (Lib.countB t gC) t).length<=70368744177000:=by
  have h1:=Lib.splitB_length_le gC 0 (Lib.countB t gC) t
  have h2:=Lib.countB_le gC Ke t.size t (NL _)
  omega
 generalize Lib.splitB gC 0 (Lib.countB t gC) t=ps at *
 obtain ⟨N,hN⟩:∃N,ps.length=N:=⟨_,rfl⟩
 rw [hN] at hsp
 have HN:Hid (ps.length=N):=hN
 clear hz hm hN
 go_enter func173,ntmps173
 go_wp2_with (go_at_call 189;refine hsp.mono ?_;rintro e w1 ⟨rfl,hw1⟩;have HW:Hid (w1=_):=hw1;clear hw1)
 have HA:Hid (Add w w1):=by show Add w w1;rw [HW.out];exact ae _ _
 go_loopw [8] (λcnt wr=>∃j:Nat,j<=N/\cnt=.int .i64 j/\(ps.drop j).all dJ=ps.all dJ/\Add w1 wr) (λcnt _=>N-(RowKit.intOf cnt).toNat)
 case atStart=>exact ⟨0,by omega,rfl,rfl,Add.refl _⟩
 obtain ⟨j,hj,rfl,hv,ha⟩:=hrel
 by_cases hlt:j<N
 ·have hlt':j<ps.length:=KC
  rw [List.drop_eq_getElem_cons hlt',List.all_cons] at hv
  have hc:wr.cell? ⟨w.heap.size,j,none⟩=some (.string ps[j]):=ha.cell (by rw [HW.out,Og];simp [hlt'])
  have hnm:=rk ps[j] wr (hszs _ (NS hlt'))
  generalize ps[j]=p at *
  have HV:Hid (_=ps.all dJ):=hv
  have ji:=Y51
  have j0:=Y52
  have j1:=Y53
  clear hv hsp
  cases hp:dJ p with
  |true=>
   go_wp2_with (go_at_call 154;refine hnm.mono ?_;rintro e w2 ⟨rfl,ha2⟩;rw [hp])
   exact ⟨⟨j+1,by omega,rfl,by have:=HV.out;rwa [hp,Bool.true_and] at this,ha.trans ha2⟩,by show N-((j:Int)+1).toNat<N-(j:Int).toNat;omega⟩
  |false=>
   go_wp2_with (go_at_call 154;refine hnm.mono ?_;rintro e w2 ⟨rfl,ha2⟩;rw [hp])
   go_ret
   exact ⟨by rw [<-HV.out,hp];rfl,(HA.out.trans ha).trans ha2⟩
 have ji:=Y54
 have HV:Hid (true=ps.all dJ):=by
  show _=_
  rw [<-hv,List.drop_eq_nil_of_le MS];rfl
 clear hv hsp hlt hj
 go_wp2
 go_ret
 exact ⟨by rw [<-HV.out];rfl,HA.out.trans ha⟩
end YtmphmjkinmkidaaGreatDoor
end Go.Proofs
end
section
namespace Go.Proofs
open Go.RowKit Go.Shelf Go.Lib
def Tryz.laysQuote_ren:Shelf.Ren:=⟨fun|177=>118|250=>144|289=>172|197=>187|323=>188|260=>199|339=>200|340=>201|242=>169|119=>202|345=>206|346=>207|278=>184|n=>n,fun|37=>76|105=>271|46=>208|119=>204|139=>207|138=>206|49=>281|234=>282|131=>147|51=>248|236=>284|n=>n,fun|3=>22|4=>23|20=>29|21=>30|22=>31|23=>32|24=>33|n=>n⟩
theorem Tryz.laysQuote:Lays.n177 prog Tryz.laysQuote_ren:=lyT
def Tryz.laysIndexS_ren:Shelf.Ren:=⟨fun|109=>155|n=>n,fun|n=>n,fun|n=>n⟩
theorem Tryz.laysIndexS:Lays.n109 prog Tryz.laysIndexS_ren:=lyT
def Tryz.laysContS_ren:Shelf.Ren:=⟨fun|110=>176|109=>155|n=>n,fun|n=>n,fun|n=>n⟩
theorem Tryz.laysContS:Lays.n110 prog Tryz.laysContS_ren:=lyT
theorem Tryz.hi5:(prog.info? 5).map (λi=>(i.zero,i.size,i.bytes))=some (some (.int .u8 0),1,1):=by kernel_rfl
namespace YtmphmjkinmkidaaGreatDoor
open Go Go.RowKit Go.Extern.Stop Go.Stop Go.Extern
variable {p:Prop}
def Z180(h:p:=by
 exact ⟨none,0,by rw [h0],.inl (NT h0)⟩):p:=h
def JT(w:World):Prop:=∃T,Lib.PrintTabsAt (Tryz.laysQuote_ren.g 20) (Tryz.laysQuote_ren.g 21) (Tryz.laysQuote_ren.g 22) (Tryz.laysQuote_ren.g 23) T w
theorem lV{g:Nat}{k:IntKind}{t:List Nat}{w w':World}(h:Lib.TabSlice g k t w)(a:Add w w'):Lib.TabSlice g k t w':=by
 obtain ⟨R,o,c,h1,h2⟩:=h
 exact ⟨R,o,c,a.cell h1,λj hj=>a.cell (h2 j hj)⟩
theorem JT.add{w w':World}(h:JT w)(a:Add w w'):JT w':=by
 obtain ⟨T,h1,h2,h3,h4,h5⟩:=h
 exact ⟨T,lV h1 a,lV h2 a,lV h3 a,lV h4 a,h5⟩
structure STbl(w:World):Prop where
 tbl:Tbl w
 words:lS w
 max:xC w
 pr:JT w
theorem STbl.add{w w':World}(h:STbl w)(a:Add w w'):STbl w':=⟨h.tbl.add a,h.words.add a,h.max.add a,h.pr.add a⟩
theorem uJ(s:ByteArray)(w:World)(hs:s.size<=70368744177)(hT:STbl w):
  Calls prog 118 #[.string s] w λe w'=>(∃q:ByteArray,e=.returned (.string q)/\q.size<=10*s.size+2)/\Add w w':=by
 obtain ⟨T,hP⟩:=hT.pr
 refine (Any.strconv_Quote Tryz.laysQuote Tryz.hi5 T s w Kc hP hT.tbl.tabs).mono ?_
 rintro e w' ⟨rfl,hb⟩
 refine ⟨⟨_,rfl,?_⟩,kD hb⟩
 have h:=Lib.quoteZ_length_le T s
 have e:(strOfNums (Lib.quoteZ T s)).size=(Lib.quoteZ T s).length:=by simp [strOfNums,ByteArray.size]
 omega
theorem uo(l:List ByteArray)(x:ByteArray):Lib.containsS l x=dU x l:=by
 have h1:=Lib.containsS_iff l x
 have h2:dU x l=true↔x∈l:=by
  unfold dU
  simp
 cases h3:Lib.containsS l x <;> cases h4:dU x l <;> simp_all
def sw(w:World)(a:Option Addr)(ns:List ByteArray):Prop:=ns=[]\/∃b o,a=some ⟨b,o,none⟩/\∀i (h:i<ns.length),w.cell? ⟨b,o+i,none⟩=some (.string ns[i])
theorem sw.row{w:World}{v:Value}{ns:List ByteArray}(h:Row w 1 v ns.length (ns.map Value.string)):∃a c,v=.slice a ns.length c/\sw w a ns:=by
 rcases h with ⟨rfl,h0,_⟩|⟨g,c,rfl,h⟩
 ·exact Z180
 refine ⟨_,c,rfl,.inr ⟨g,0,rfl,λi hi=>?_⟩⟩
 rw [NV,h.holds i Kc]
 simp [hi]
theorem qQ(a:Option Addr)(c:Nat)(ns:List ByteArray)(x:ByteArray)(w:World)(hl:ns.length<=70368744177000)(h:sw w a ns):
  Calls prog 176 #[.slice a ns.length c,.string x] w λe w'=>e=.returned (.bool (dU x ns))/\w'=w:=by
 rcases h with rfl|⟨b,o,rfl,h⟩
 ·exact Any.slices_Contains_string_empty Tryz.laysContS a c x w
 have:=Any.slices_Contains_string Tryz.laysContS b o ns.length c ns x w (NL _) Kc (λj hj=>by rw [h j hj];simp [hj])
 rw [List.take_length,uo] at this
 exact this
theorem ye(a:Option Addr)(c:Nat)(ns:List ByteArray)(x:ByteArray)(w:World)(hl:ns.length<=70368744177000)(h:sw w a ns):
  Calls prog 155 #[.slice a ns.length c,.string x] w λe w'=>e=.returned (.int .i64 (Lib.idxOfS ns x))/\w'=w:=by
 rcases h with rfl|⟨b,o,rfl,h⟩
 ·exact Any.slices_Index_string_empty Tryz.laysIndexS a c x w
 have:=Any.slices_Index_string Tryz.laysIndexS b o ns.length c ns x w (NL _) Kc (λj hj=>by rw [h j hj];simp [hj])
 rw [List.take_length] at this
 exact this
theorem idx_in(ns:List ByteArray)(x:ByteArray):decide (0<=Lib.idxOfS ns x)=dU x ns:=uo ns x
end YtmphmjkinmkidaaGreatDoor
end Go.Proofs
end
