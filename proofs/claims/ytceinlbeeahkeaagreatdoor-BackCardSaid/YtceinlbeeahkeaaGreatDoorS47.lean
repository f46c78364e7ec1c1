import Derived.Test.YtceinlbeeahkeaaGreatDoorRows
import Derived.Lib.LaidPrint
import Derived.Lib.LaidU8T
import Derived.PinnedBridge
import Derived.Lay
import Derived.Shelf.Vars
import Derived.ProofKit
import Derived.LaidMore
import Derived.LaidLaws
import Derived.LaidHandle
import Derived.OpenShut
import Derived.Stop.Joined
import Derived.SevenTiedAt
import Derived.WideKeyArgs
import Derived.Deep.Slices
import Derived.SizedLaws
import Derived.Test.YtceinlbeeahkeaaGreatDoorCards
import Derived.Test.YtceinlbeeahkeaaGreatDoorTie
import Derived.Test.YtceinlbeeahkeaaGreatDoorS46
set_option linter.defProp false
open Go.Proofs.Tryz
set_option maxRecDepth 100000
namespace Go.Proofs.YtceinlbeeahkeaaGreatDoor
variable{p:Prop}
section
open Go Go.ChangeShapes Go.WideShapes Go.ChangeAt Go.RowKit
variable{W:World}
def Z77(h:p:=by
 have hpw:=List.pairwise_iff_getElem.1 hd
 rcases Nat.lt_or_gt_of_ne hne with h|h
 ·exact hpw i j ML La h (by simp [heq])
 exact hpw j i La ML h (by simp [heq])):p:=h
theorem uN{P:Program}{nm:String}{W:World}{ti tp te ts:TypeId}{ms:Array (String × TypeId)}{f:Field}
  (hi:P.underlying ti=some (.interface ms)) (hrow:∀u,P.typeName? 3 u=some nm->u=tp)
  (hp:P.underlying tp=some (.pointer te)) (he:P.underlying te=some (.struct #[f])) (hft:f.type=ts) (hfo:f.offset=0) (hs:P.underlying ts=some .string) (hc:P.cellsOf te=1) (hcs:P.cellsOf ts=1):
  ∀(l:List (String × List UInt8)) (ps:List MemPlace),(∀x∈l,∃g,P.globalNamed x.1=some g/\(P.globals[g]?).map (·.type)=some ti) ->
   DataW.LaidVars P W (l.map λx=>(x.1,.iface nm (.ptr (.agg [.lit (.string x.2)])))) ps ->
   (∀b off,MemPlace.cell b off∈ps->(∃c t,W.heap[b]?=some (.cells c t (0,0)))/\∀u v,W.cell? ⟨b,off,none⟩=some (.iface u v)->Value.okWide P W .any 0 u v) ->
   ∃a:Nat->Addr,(∀i x,l[i]?=some x->W.var? P x.1=some #[.iface tp (.pointer (some (a i)))]/\(∃s:ByteArray,W.cell? (a i)=some (.string s)/\s.data.toList=x.2)/\∃c t,W.heap[(a i).block]?=some (.cells c t (0,0))) /\
    ((List.range l.length).map λi=>MemPlace.cell (a i).block (a i).off).Sublist ps
 |[],ps,_,h,_=>⟨λ_=>⟨0,0,none⟩,λi x hx=>by simp at hx,by simp⟩
 |(n,text)::r,ps,hg,h,hrows=>by
  obtain ⟨g0,t0,cs0,f0,p0,q0,hg0,ht0,hv0,hd0,hr,e0⟩:=h
  obtain ⟨g,hgn,hgt⟩:=hg (n,text) List.mem_cons_self
  obtain rfl:=Option.some.inj (hgn.symm.trans hg0)
  obtain rfl:=Option.some.inj (hgt.symm.trans ht0)
  subst e0
  obtain ⟨l0⟩:=cs0
  have ok0:∀u v,l0=[.iface u v]->Value.okWide P W .any 0 u v:=λu v e=>by
   subst e
   exact (hrows g 0 NB).2 u v (by simpa using World.var?_cell hg0 hv0 0)
  obtain ⟨a0,s0,rfl,hc0,hs0,_,rfl⟩:=errorString_of_trod hi hrow hp he hft hfo hs hc hcs hd0 ok0
  obtain ⟨c0,t0,hb0⟩:=(hrows a0.block a0.off NB).1
  obtain ⟨a,ha,hsub⟩:=uN hi hrow hp he hft hfo hs hc hcs r q0 (λx hx=>hg x (List.mem_cons_of_mem _ hx)) hr (λb off hm=>hrows b off (List.mem_append_right _ hm))
  refine ⟨λi=>match i with|0=>a0|j+1=>a j,?_,?_⟩
  ·intro i x hx
   match i,hx with
   |0,hx=>
    obtain rfl:(n,text)=x:=by simpa using hx
    exact ⟨hv0,⟨s0,hc0,hs0⟩,c0,t0,hb0⟩
   |j+1,hx=>exact ha j x (by simpa using hx)
  rw [List.length_cons,List.range_succ_eq_map,List.map_cons,List.map_map]
  have e1:MemPlace.row ⟨g,0,none⟩ (Array.size ⟨[Value.iface tp (.pointer (some a0))]⟩)++MemPlace.row a0 1++q0=MemPlace.cell g 0::MemPlace.cell a0.block a0.off::q0:=NB
  rw [e1]
  exact List.Sublist.cons _ (List.Sublist.cons_cons _ hsub)
theorem tX{P:Program} : ∀(l r:List (String × DataW Unit)) (ps:List MemPlace),DataW.LaidVars P W (l++r) ps->∃p q,ps=p++q/\DataW.LaidVars P W l p/\DataW.LaidVars P W r q
 |[],r,ps,h=>⟨[],ps,rfl,rfl,h⟩
 |(n,d)::l,r,ps,h=>by
  obtain ⟨g,t,cs,f,p0,q0,h1,h2,h3,h4,h5,e⟩:=h
  obtain ⟨p,q,rfl,hp,hq⟩:=tX l r q0 h5
  exact ⟨MemPlace.row ⟨g,0,none⟩ cs.size++p0++p,q,by rw [e];simp only [List.append_assoc],⟨g,t,cs,f,p0,p,h1,h2,h3,h4,hp,rfl⟩,hq⟩
theorem yi{P:Program}{w:World}{base:Nat}{sp:Nat->Bool}{held:Bool}{fuel:Nat}{t e:TypeId}{n:Nat}{cs:List Value}{l:List (List UInt8)}{p:List MemPlace}
  (ht:P.underlying t=some (.array n e)) (he:P.underlying e=some .string) (hce:P.cellsOf e=1)
  (h:DataW.trod (λ_=>()) P w base sp held fuel t cs=some (.agg (l.map λx=>.lit (.string x)),p)):
  ∀(i:Nat) (x:List UInt8),l[i]?=some x->∃s:ByteArray,cs[i]?=some (Value.string s)/\s.data.toList=x:=by
 obtain ⟨xs,m,_,hx,_,hxl,hf⟩:=DataW.trod_array ht h
 have hm:(l.map λx:List UInt8=>(DataW.lit (.string x):DataW Unit))=xs.map (·.1):=by
  have:=congrArg Prod.fst hx
  simpa only [DataW.agg.injEq] using this
 have hlen:l.length=n:=by
  have:=congrArg List.length hm
  rw [List.length_map,List.length_map] at this
  omega
 intro i x hxi
 have hi:i<l.length:=(Oi hxi).1
 have hfi:=hf i Kc
 rw [NP (show i<xs.length by omega),hce] at hfi
 have hmi:(DataW.lit (.string x):DataW Unit)=(xs[i]' Kc).1:=by
  have:=congrArg (·[i]?) hm
  simpa [hxi,List.getElem?_eq_getElem (show i<xs.length by omega)] using this
 obtain ⟨s,e1,d1,_⟩:=DataW.trod_string he (x:=xs[i]' Kc) hfi
 rw [d1] at hmi
 simp only [DataW.lit.injEq,Lit.string.injEq] at hmi
 refine ⟨s,?_,hmi.symm⟩
 have:=congrArg (·[0]?) e1
 simpa [List.getElem?_take,List.getElem?_drop] using this
def nC:List (String × List UInt8):=[("avro/avro.ErrText",[110,111,32,74,83,79,78]),("avro/avro.ErrSchema",[97,32,115,99,104,101,109,97,32,116,104,97,116,32,109,97,121,32,110,111,116,32,98,101]),("avro/avro.ErrDatum",[97,32,100,97,116,117,109,32,116,104,97,116,32,116,104,101,32,115,99,104,101,109,97,32,100,111,101,115,32,110,111,116,32,104,97,118,101]),("avro/avro.ErrShort",[98,121,116,101,115,32,116,104,97,116,32,101,110,100,32,116,111,111,32,101,97,114,108,121]),("avro/avro.ErrRange",[97,32,110,117,109,98,101,114,32,111,114,32,97,32,116,101,120,116,32,116,104,97,116,32,109,97,121,32,110,111,116,32,98,101]),("avro/avro.ErrDeep",[110,101,115,116,101,100,32,116,111,111,32,100,101,101,112]),("avro/avro.ErrMany",[116,111,111,32,109,97,110,121,32,105,116,101,109,115]),("avro/avro.ErrFlate",[110,111,32,99,111,109,112,114,101,115,115,101,100,32,100,97,116,97]),("avro/avro.ErrCap",[109,111,114,101,32,100,97,116,97,32,116,104,97,110,32,109,97,121,32,98,101]),("avro/avro.ErrHeader",[110,111,32,104,101,97,100,101,114]),("avro/avro.ErrCodec",[97,32,99,111,100,101,99,32,116,104,97,116,32,105,115,32,110,111,116,32,107,110,111,119,110]),("avro/avro.ErrBlock",[110,111,32,98,108,111,99,107]),("avro/avro.ErrMatch",[115,99,104,101,109,97,115,32,116,104,97,116,32,100,111,32,110,111,116,32,103,111,32,116,111,103,101,116,104,101,114]),("avro/avro.ErrResolve",[97,32,100,97,116,117,109,32,116,104,97,116,32,116,104,101,32,114,101,97,100,101,114,39,115,32,115,99,104,101,109,97,32,100,111,101,115,32,110,111,116,32,104,97,118,101]),("avro/avro.ErrClosed",[105,116,32,105,115,32,99,108,111,115,101,100]),("avro/avro.ErrDown",[116,104,101,32,102,105,108,101,32,105,115,32,100,111,119,110])]
def pJ:List (String × List UInt8):=[("avro/wire.ErrShort",[116,104,101,121,32,101,110,100,32,119,105,116,104,105,110,32,97,32,100,97,116,117,109]),("avro/wire.ErrRange",[97,32,110,117,109,98,101,114,32,111,114,32,97,32,116,101,120,116,32,116,104,97,116,32,109,97,121,32,110,111,116,32,115,116,97,110,100,32,116,104,101,114,101]),("avro/wire.ErrDeep",[97,32,100,97,116,117,109,32,110,101,115,116,101,100,32,116,111,111,32,100,101,101,112]),("avro/wire.ErrMany",[109,111,114,101,32,105,116,101,109,115,32,111,102,32,97,114,114,97,121,115,32,97,110,100,32,109,97,112,115,32,116,104,97,110,32,109,97,121,32,98,101])]
def errD(x:String × List UInt8):String × DataW Unit:=(x.1,.iface "*errors.errorString" (.ptr (.agg [.lit (.string x.2)])))
theorem Tryz.own:ownKnob prog.godebug=none:=Kf
theorem Tryz.cells106:prog.cellsOf 202=1:=Kf
theorem Tryz.cells9:prog.cellsOf 9=1:=Kf
theorem star : "*" ++ "errors.errorString" = "*errors.errorString":=Ke
theorem Tryz.row66(u:TypeId)(h:prog.typeName? 3 u=some "*errors.errorString"):u=200:=
 typeName_ptr_named (nm := "errors.errorString") (by rw [star];kernel_rfl) Kf Ke u (by rw [star];exact h)
theorem Tryz.known:((List.range 16).all λi=>match nC[i]? with
  |some x=>prog.globalNamed x.1==some i&&(prog.globals[i]?).map (·.type)==some 57&&decide (0<x.2.length)&&decide (x.2.length<1000)
  |none=>false)=true:=Kf
theorem sA(i:Nat)(x:String × List UInt8)(hx:nC[i]?=some x):
  prog.globalNamed x.1=some i/\(prog.globals[i]?).map (·.type)=some 57/\0<x.2.length/\x.2.length<1000:=by
 have hi:i<16:=(Oi hx).1
 have h:=List.all_eq_true.1 Tryz.known i (List.mem_range.2 hi)
 simp only [hx,Bool.and_eq_true,beq_iff_eq,decide_eq_true_eq] at h
 exact ⟨h.1.1.1,h.1.1.2,h.1.2,h.2⟩
theorem uB(i:Nat)(hi:i<16):∃x,nC[i]?=some x:=⟨_,NP (l:=nC) hi⟩
theorem Tryz.knownW:(pJ.map λx=>prog.globalNamed x.1)=[some 18,some 21,some 19,some 20]:=Kf
theorem Tryz.knownT:(pJ.all λx=>match prog.globalNamed x.1 with
  |some g=>(prog.globals[g]?).map (·.type)==some 57
  |none=>false)=true:=Kf
theorem Gl(x:String × List UInt8)(hx:x∈pJ):∃g,prog.globalNamed x.1=some g/\(prog.globals[g]?).map (·.type)=some 57:=by
 have h:=List.all_eq_true.1 Tryz.knownT x hx
 cases hg:prog.globalNamed x.1 with
 |none=>rw [hg] at h;cases h
 |some g=>rw [hg] at h;exact ⟨g,rfl,by simpa using h⟩
theorem Tryz.et:prog.globalNamed "errors.errorType" = some 17:=Kf
theorem Tryz.rt:(prog.cutTypes.find? (·.1 == "internal/reflectlite.rtype")).map (·.2)=some 169:=Kf
theorem Tryz.oneRow:((List.range 313).filter λt=>prog.rowNamed t [101,114,114,111,114])=[57]:=Kf
theorem Tryz.size:prog.types.size=313:=Kf
def laidA:List (String × DataW Unit):=[("math/bits.deBruijn32tab",Rows.laid_math_bits_deBruijn32tab),("math/bits.deBruijn64tab",Rows.laid_math_bits_deBruijn64tab),("internal/strconv.uint64pow10",Rows.laid_internal_strconv_uint64pow10),("unicode/utf8.acceptRanges",Rows.laid_unicode_utf8_acceptRanges),("avro/schema.words",Rows.laid_avro_schema_words)]
def laidZ:List (String × DataW Unit):=[("strconv.isGraphic",Rows.laid_strconv_isGraphic),("strconv.isNotPrint16",Rows.laid_strconv_isNotPrint16),("strconv.isNotPrint32",Rows.laid_strconv_isNotPrint32),("strconv.isPrint16",Rows.laid_strconv_isPrint16),("strconv.isPrint32",Rows.laid_strconv_isPrint32),("unicode/utf8.first",Rows.laid_unicode_utf8_first)]
def lL:List (String × DataW Unit):=laidA++(pJ.map errD++(nC.map errD++laidZ))
theorem flt:(Rows.backRow.laid.filter λx=>x.2.handleName?.isNone)=lL:=Kf
theorem flh:(Rows.backRow.laid.filter λx=>x.2.handleName?.isSome)=[("errors.errorType",Rows.laid_errors_errorType)]:=Kf
theorem met_of{W:World}{ps q:List MemPlace}(hv:DataW.LaidVars prog W (nC.map errD) q)(hsb:q.Sublist ps)(hnd:ps.Nodup)
  (hrows:∀b off,MemPlace.cell b off∈ps->(∃c t,W.heap[b]?=some (.cells c t (0,0)))/\∀u v,W.cell? ⟨b,off,none⟩=some (.iface u v)->Value.okWide prog W .any 0 u v)
  (hh:W.cell? ⟨17,0,none⟩=some (.iface 169 (.agg #[.pointer (some ⟨34,57,none⟩)]))):∃a,Met a W:=by
 obtain ⟨a,ha,hsub⟩:=uN underlying57 Tryz.row66 underlying200 underlying202 rfl rfl underlying9 Tryz.cells106 Tryz.cells9 nC q
  (λx hx=>by
   obtain ⟨i,hi⟩:=List.getElem?_of_mem hx
   exact ⟨i,(sA i x hi).1,(sA i x hi).2.1⟩) hv (λb off hm=>hrows b off (hsb.subset hm))
 refine ⟨a,λi hi=>?_,λi j hi hj hne heq=>?_,λi hi=>?_,λi hi=>?_,hh⟩
 ·obtain ⟨x,hx⟩:=uB i hi
  simpa using World.var?_cell (sA i x hx).1 (ha i x hx).1 0
 ·have hd:=List.Nodup.sublist (hsub.trans hsb) hnd
  have hlen:nC.length=16:=rfl
  rw [hlen] at hd
  exact Z77
 ·obtain ⟨x,hx⟩:=uB i hi
  exact (ha i x hx).2.2
 obtain ⟨x,hx⟩:=uB i hi
 obtain ⟨s,hs,ht⟩:=(ha i x hx).2.1
 have hk:=sA i x hx
 refine ⟨s,hs,?_,?_⟩
 ·rw [ByteArray.toList_eq,ht]
  cases hl:x.2 with
  |nil=>rw [hl] at hk;exact absurd hk.2.2.1 Ke
  |cons _ _=>rfl
 have e:s.size=x.2.length:=by rw [<-ht];rfl
 rw [e];exact hk.2.2.2
theorem met4_of{W:World}{ps q:List MemPlace}(hv:DataW.LaidVars prog W (pJ.map errD) q)(hsb:q.Sublist ps)(hnd:ps.Nodup)
  (hrows:∀b off,MemPlace.cell b off∈ps->(∃c t,W.heap[b]?=some (.cells c t (0,0)))/\∀u v,W.cell? ⟨b,off,none⟩=some (.iface u v)->Value.okWide prog W .any 0 u v):∃a,Met4 a W:=by
 obtain ⟨a,ha,hsub⟩:=uN underlying57 Tryz.row66 underlying200 underlying202 rfl rfl underlying9 Tryz.cells106 Tryz.cells9 pJ q
  (λx hx=>Gl x hx) hv (λb off hm=>hrows b off (hsb.subset hm))
 have hl:pJ.length=4:=rfl
 have H:∀(i:Nat) (_:i<4) (g:Nat),(pJ.map λx=>prog.globalNamed x.1)[i]?=some (some g)->W.cell? ⟨g,0,none⟩=some (.iface 200 (.pointer (some (a i)))):=λi hi g hg=>by
  have hx:pJ[i]?=some pJ[i]:=NP Kc
  have hgn:prog.globalNamed (pJ[i]).1=some g:=by
   rw [List.getElem?_map,hx] at hg
   simpa using hg
  simpa using World.var?_cell hgn (ha i _ hx).1 0
 rw [Tryz.knownW] at H
 refine ⟨a,H 0 Ke _ rfl,H 1 Ke _ rfl,H 2 Ke _ rfl,H 3 Ke _ rfl,λi j hi hj hne heq=>?_,λi hi=>?_⟩
 ·have hd:=List.Nodup.sublist (hsub.trans hsb) hnd
  rw [hl] at hd
  exact Z77
 exact (ha i _ (NP Kc)).2.2
theorem Tryz.gwo:prog.globalNamed "avro/schema.words" = some 16:=Kf
theorem Tryz.two:(prog.globals[16]?).map (·.type)=some 116:=Kf
theorem Tryz.ggr:prog.globalNamed "strconv.isGraphic" = some 33:=Kf
theorem IG:Rows.laid_avro_schema_words=(DataW.agg (kC.map λx=>.lit (.string x.data.toList)):DataW Unit):=Kf
theorem Hr(h:Lib.VarReads prog W "avro/schema.words" Rows.laid_avro_schema_words):lS W:=by
 rw [IG] at h
 obtain ⟨g,t,cs,fuel,p,hg,ht,hv,hd⟩:=h
 obtain rfl:=Option.some.inj (Tryz.gwo.symm.trans hg)
 obtain rfl:=Option.some.inj (Tryz.two.symm.trans ht)
 have e:(kC.map λx=>(DataW.lit (.string x.data.toList):DataW Unit))=(kC.map λx=>x.data.toList).map λx=>.lit (.string x):=by rw [List.map_map];rfl
 rw [e] at hd
 have hc:=yi underlying116 underlying9 Tryz.cells9 hd
 intro i hi
 have hl:kC.length=8:=rfl
 obtain ⟨s,h1,h2⟩:=hc i (kC[i]' Kc).data.toList (by rw [List.getElem?_map,NP Kc];rfl)
 rw [World.var?_cell Tryz.gwo hv i]
 have h3:cs[i]?=some (Value.string s):=by simpa using h1
 rw [h3,jP h2]
theorem Tryz.u8x:U8Extra prog Tryz.laysValid_ren:=⟨by kernel_rfl,by kernel_rfl,by kernel_rfl,by kernel_rfl,by kernel_rfl,by kernel_rfl,by kernel_rfl⟩
theorem tabs_of(h3:Lib.VarReads prog W "unicode/utf8.first" Rows.laid_unicode_utf8_first)(h4:Lib.VarReads prog W "unicode/utf8.acceptRanges" Rows.laid_unicode_utf8_acceptRanges):mq W:=by
 have e3:Rows.laid_unicode_utf8_first=Lib.firstData:=Pinned.utf8First_eq
 have e4:Rows.laid_unicode_utf8_acceptRanges=Lib.acceptData:=Kf
 rw [e3] at h3
 rw [e4] at h4
 exact utf8Tabs_of_readsT (U8Types.of196 Tryz.laysValid) Tryz.u8x h3 h4
theorem Tryz.gp10:(prog.globals[25]?).map (·.type)=some 267:=Kf
theorem Tryz.cU64:prog.cellsOf 40=1:=Kf
theorem Tryz.cP10:prog.cellsOf 267=20:=Kf
theorem pow_of(h:Lib.VarReads prog W "internal/strconv.uint64pow10" Rows.laid_internal_strconv_uint64pow10):Pow W:=by
 have e:(Rows.laid_internal_strconv_uint64pow10:DataW Unit)=Lib.tabData .u64 Lib.pow10Tab:=Kf
 rw [e] at h
 obtain ⟨g,t,cs,fuel,p,hg,ht,hv,hd⟩:=h
 obtain rfl:=Option.some.inj (Tryz.gp10.symm.trans (by obtain rfl:=Option.some.inj (Tryz.gpow.symm.trans hg);exact ht))
 unfold Pow Lib.TabIs
 rw [hv,<-Lib.cells_of_tab underlying267 underlying40 Tryz.cU64 Tryz.cP10 hd]
theorem Tryz.cU16:prog.cellsOf 281=1:=Kf
theorem Tryz.cU32:prog.cellsOf 248=1:=Kf
theorem Tryz.gi16:prog.globalNamed "strconv.isPrint16" = some 29:=Kf
theorem Tryz.gn16:prog.globalNamed "strconv.isNotPrint16" = some 30:=Kf
theorem Tryz.gi32:prog.globalNamed "strconv.isPrint32" = some 31:=Kf
theorem Tryz.gn32:prog.globalNamed "strconv.isNotPrint32" = some 32:=Kf
theorem Tryz.ti16:(prog.globals[29]?).map (·.type)=some 282:=Kf
theorem Tryz.tn16:(prog.globals[30]?).map (·.type)=some 282:=Kf
theorem Tryz.ti32:(prog.globals[31]?).map (·.type)=some 284:=Kf
theorem Tryz.tn32:(prog.globals[32]?).map (·.type)=some 282:=Kf
theorem pr_of(h20:Lib.VarReads prog W "strconv.isPrint16" Rows.laid_strconv_isPrint16)(h21:Lib.VarReads prog W "strconv.isNotPrint16" Rows.laid_strconv_isNotPrint16)(h22:Lib.VarReads prog W "strconv.isPrint32" Rows.laid_strconv_isPrint32)(h23:Lib.VarReads prog W "strconv.isNotPrint32" Rows.laid_strconv_isNotPrint32):JT W:=by
 rw [show Rows.laid_strconv_isPrint16=_ from Pinned.isPrint16_eq] at h20
 rw [show Rows.laid_strconv_isNotPrint16=_ from Pinned.isNotPrint16_eq] at h21
 rw [show Rows.laid_strconv_isPrint32=_ from Pinned.isPrint32_eq] at h22
 rw [show Rows.laid_strconv_isNotPrint32=_ from Pinned.isNotPrint32_eq] at h23
 exact ⟨Lib.goPrintTabs,Lib.tabSlice_of_reads Tryz.gi16 Tryz.ti16 underlying282 underlying281 Tryz.cU16 Ke h20,
  Lib.tabSlice_of_reads Tryz.gn16 Tryz.tn16 underlying282 underlying281 Tryz.cU16 Ke h21,
  Lib.tabSlice_of_reads Tryz.gi32 Tryz.ti32 underlying284 underlying248 Tryz.cU32 Ke h22,
  Lib.tabSlice_of_reads Tryz.gn32 Tryz.tn32 underlying282 underlying281 Tryz.cU16 Ke h23,by decide,by decide,by decide⟩
theorem ng_of(h:Lib.VarReads prog W "strconv.isGraphic" Rows.laid_strconv_isGraphic):34<=W.heap.size:=by
 obtain ⟨g,t,cs,fuel,p,hg,ht,hv,hd⟩:=h
 unfold World.var? at hv
 rw [Tryz.ggr] at hv
 simp only [Option.bind_some] at hv
 cases hb:W.heap[33]? with
 |none=>rw [hb] at hv;simp at hv
 |some o=>
  have:=(Oh hb).1
  omega
theorem max_of(h:W.ShapedOpen prog):xC W:=
 cell_of_shapedOpen_int (zero:=#[.int .i64 0]) (t:=3) h Ke Kf rfl Kf Kf underlying3
theorem glb_of(h:laidMetH prog Rows.backRow.laid W)(hs:W.ShapedOpen prog):∃a q,Glb a q W:=by
 unfold laidMetH at h
 rw [flh,flt] at h
 obtain ⟨⟨ps,hv,hnd,hrows⟩,hh⟩:=h
 have R:=λn d hm=>Lib.LaidVars_reads hv n d hm
 have rA:=λi n d (e:laidA[i]?=some (n,d))=>R n d (List.mem_append_left _ (List.mem_of_getElem? e))
 have rZ:=λi n d (e:laidZ[i]?=some (n,d))=>R n d (List.mem_append_right _ (List.mem_append_right _ (List.mem_append_right _ (List.mem_of_getElem? e))))
 obtain ⟨p1,q1,rfl,hv1,hv2⟩:=tX _ _ _ hv
 obtain ⟨p2,q2,rfl,hv3,hv4⟩:=tX _ _ _ hv2
 obtain ⟨p3,q3,rfl,hv5,hv6⟩:=tX _ _ _ hv4
 obtain ⟨a,ha⟩:=met_of hv5 (((List.sublist_append_left _ _).trans (List.sublist_append_right _ _)).trans (List.sublist_append_right _ _)) hnd hrows (by
  obtain ⟨name,u,ty,e1,e2,e3,e4,e5⟩:=hh _ (List.mem_singleton.2 rfl)
  have en:name=[101,114,114,111,114]:=(Option.some.inj e1).symm
  subst en
  obtain rfl:=Option.some.inj (Tryz.rt.symm.trans e2)
  have hm:ty∈(List.range 313).filter λt=>prog.rowNamed t [101,114,114,111,114]:=List.mem_filter.2 ⟨List.mem_range.2 (by rw [<-Tryz.size];exact e3),e4⟩
  rw [Tryz.oneRow] at hm
  obtain rfl:=List.mem_singleton.1 hm
  have hh:typeHandle prog 57=.pointer (some ⟨34,57,none⟩):=Kf
  rw [hh] at e5
  simpa using World.var?_cell Tryz.et e5 0)
 obtain ⟨q,hq⟩:=met4_of hv3 ((List.sublist_append_left _ _).trans (List.sublist_append_right _ _)) hnd hrows
 exact ⟨a,q,⟨⟨ng_of (rZ 0 _ _ rfl),pow_of (rA 2 _ _ rfl),tabs_of (rZ 5 _ _ rfl) (rA 3 _ _ rfl)⟩,Hr (rA 4 _ _ rfl),max_of hs,pr_of (rZ 3 _ _ rfl) (rZ 1 _ _ rfl) (rZ 4 _ _ rfl) (rZ 2 _ _ rfl)⟩,ha,hq⟩
end
section
open Go Go.ChangeShapes Go.WideShapes Go.ChangeAt Go.RowKit
theorem DP(sa:Option Addr)(cap:Nat)(w:World):
  Calls prog 14 #[.slice sa 0 cap] w λe w'=>e=.returned (.bool true)/\w'=w:=by
 go_enter func14,ntmps14
 go_wp2
 go_loop [3,4] (λt i=>i=.int .i64 0/\t=.int .i64 0) (λ_ _=>0)
 case atStart=>exact ⟨rfl,rfl⟩
 obtain ⟨rfl,rfl⟩:=hrel
 go_wp2
 go_ret
 exact ⟨rfl,rfl⟩
theorem Ht(os:Os):(((World.holding prog os ⟨#[],#[],[]⟩).setCell ⟨17,0,none⟩ (.iface 169 (.agg #[.pointer (some ⟨34,57,none⟩)]))).layVars prog lL).os=os:=World.layVars_os _ _ _
theorem GN(os:Os):((World.holding prog os ⟨#[],#[],[]⟩).setCell ⟨17,0,none⟩ (.iface 169 (.agg #[.pointer (some ⟨34,57,none⟩)]))).layFits prog lL []=true:=Kf
theorem Cb(os:Os):((World.holding prog os ⟨#[],#[],[]⟩).setCell ⟨17,0,none⟩ (.iface 169 (.agg #[.pointer (some ⟨34,57,none⟩)]))).layIfaces prog lL (((World.holding prog os ⟨#[],#[],[]⟩).setCell ⟨17,0,none⟩ (.iface 169 (.agg #[.pointer (some ⟨34,57,none⟩)]))).layVars prog lL)=true:=Kf
theorem Ef(os:Os)(args:Array Value):laidMet prog lL ((((World.holding prog os ⟨#[],#[],[]⟩).setCell ⟨17,0,none⟩ (.iface 169 (.agg #[.pointer (some ⟨34,57,none⟩)]))).layVars prog lL).forCall (λ_ _=>0) ⟨#[],args,[]⟩).memory:=by
 have e1:(lL.filter λx=>(lL.map (·.1)).contains x.1)=lL:=List.filter_eq_self.2 λx hx=>List.contains_iff_mem.2 (List.mem_map.2 ⟨x,hx,rfl⟩)
 have e2:(lL.filter λx=>!(lL.map (·.1)).contains x.1)=[]:=List.filter_eq_nil_iff.2 λx hx=>by rw [List.contains_iff_mem.2 (List.mem_map.2 ⟨x,hx,rfl⟩)];simp
 have h:laidMet prog lL (((World.holding prog os ⟨#[],#[],[]⟩).setCell ⟨17,0,none⟩ (.iface 169 (.agg #[.pointer (some ⟨34,57,none⟩)]))).layVars prog lL):=laidMet_layVars (w0:=((World.holding prog os ⟨#[],#[],[]⟩).setCell ⟨17,0,none⟩ (.iface 169 (.agg #[.pointer (some ⟨34,57,none⟩)])))) (lL.map (·.1)) [] (by rw [e1]) (by rw [e1];exact GN os) (by rw [e1];exact Cb os) (by rw [e2];exact LaidIn.none)
 exact h.of_heap (by simp [World.memory,World.forCall,Input.heap])
theorem JU(os:Os)(args:Array Value):laidMetH prog Rows.backRow.laid ((((World.holding prog os ⟨#[],#[],[]⟩).setCell ⟨17,0,none⟩ (.iface 169 (.agg #[.pointer (some ⟨34,57,none⟩)]))).layVars prog lL).forCall (λ_ _=>0) ⟨#[],args,[]⟩).memory:=
 laidMetH_of_parts (by rw [flt];exact Ef os args) Kf
theorem Cv(os:Os)(args:Array Value):((((World.holding prog os ⟨#[],#[],[]⟩).setCell ⟨17,0,none⟩ (.iface 169 (.agg #[.pointer (some ⟨34,57,none⟩)]))).layVars prog lL).forCall (λ_ _=>0) ⟨#[],args,[]⟩).Shaped prog:=World.shaped_of_ZipB Kf Kf
end
section
open Go Go.ChangeShapes Go.WideShapes Go.ChangeAt Go.RowKit Go.Deep
def Z204(h:p:=by
 rw [Ij] at this
 simpa [Nat.add_assoc] using this):p:=h
theorem Tryz.cellsOp:prog.cellsOf 52=5:=Kf
theorem Tryz.cellsI:prog.cellsOf 3=1:=Kf
theorem Tryz.cellsS:prog.cellsOf 9=1:=Kf
theorem Tryz.bytesOp:1<=prog.bytesOf 52:=by
 have h:decide (1<=prog.bytesOf 52)=true:=Kf
 exact of_decide_eq_true h
theorem qU{H:Type}{P:Program}{e:TypeId} : ∀ {l:List (DataW H)} {d:DataW H},d∈l->∀n∈d.weights P e,n∈DataW.weightsAll P e l
 |d0::l,d,hd,n,hn=>by
  simp only [DataW.weightsAll,List.mem_append]
  rcases List.mem_cons.1 hd with rfl|h
  ·exact .inl hn
  exact .inr (qU h n hn)
 |[],_,hd,_,_=>by cases hd
section
variable {H:Type} {enc:TypeId × Value->H}
theorem Ij(b o k:Nat):(⟨b,o,none⟩:Addr).add k=⟨b,o+k,none⟩:=by
 unfold Addr.add
 split
 ·rename_i h;rw [h];rfl
 rfl
theorem DW{w:World}{a:Addr}{v:Value}(h:w.cell? a=some v):a.block<w.heap.size:=by
 cases hb:w.heap[a.block]? with
 |none=>simp [World.cell?,hb] at h
 |some o=>exact (Oh hb).1
structure OpIs(W:World)(a:Addr)(i:Nat)(d:DataW H)(q:Int × Int × Int × Int × ByteArray):Prop where
 k:W.cell? (a.add (i*5))=some (.int .i64 q.1)
 x:W.cell? (a.add (i*5+1))=some (.int .i64 q.2.1)
 xw:(Lit.int .i64 q.2.1).wf=true
 y:W.cell? (a.add (i*5+2))=some (.int .i64 q.2.2.1)
 yw:(Lit.int .i64 q.2.2.1).wf=true
 z:W.cell? (a.add (i*5+3))=some (.int .i64 q.2.2.2.1)
 zw:(Lit.int .i64 q.2.2.2.1).wf=true
 s:W.cell? (a.add (i*5+4))=some (.string q.2.2.2.2)
 d:∃y0 y1 y2 y3,d=.agg [y0,y1,y2,y3,.lit (.string q.2.2.2.2.data.toList)]
theorem op_is{W:World}{sp:Nat->Bool}{n i:Nat}{a:Addr}{cs:List Value}{d:DataW H}{p:List MemPlace}(h1:W.cells? 0 (a.add (i*prog.cellsOf 52)) (prog.cellsOf 52)=some cs)
  (h2:DataW.trod enc prog W 0 sp true n 52 cs=some (d,p)):∃q,OpIs W a i d q:=by
 rw [Tryz.cellsOp] at h1
 obtain ⟨_,hlen,hcell⟩:=World.cells?_some h1
 obtain ⟨xs,k,_,hxy,_,hxl,hf⟩:=DataW.trod_struct underlying52 h2
 have hxl5:xs.length=5:=hxl
 match xs,hxl5,cs,hlen with
 |[y0,y1,y2,y3,y4],_,[v0,v1,v2,v3,v4],_=>
  have g0:DataW.trod enc prog W 0 sp true k 3 (([v0,v1,v2,v3,v4].drop 0).take (prog.cellsOf 3))=some y0:=hf 0 _ rfl
  have g1:DataW.trod enc prog W 0 sp true k 3 (([v0,v1,v2,v3,v4].drop 1).take (prog.cellsOf 3))=some y1:=hf 1 _ rfl
  have g2:DataW.trod enc prog W 0 sp true k 3 (([v0,v1,v2,v3,v4].drop 2).take (prog.cellsOf 3))=some y2:=hf 2 _ rfl
  have g3:DataW.trod enc prog W 0 sp true k 3 (([v0,v1,v2,v3,v4].drop 3).take (prog.cellsOf 3))=some y3:=hf 3 _ rfl
  have g4:DataW.trod enc prog W 0 sp true k 9 (([v0,v1,v2,v3,v4].drop 4).take (prog.cellsOf 9))=some y4:=hf 4 _ rfl
  rw [Tryz.cellsI] at g0 g1 g2 g3
  rw [Tryz.cellsS] at g4
  simp only [List.drop,List.take] at g0 g1 g2 g3 g4
  obtain ⟨k0,e0,d0,_⟩:=DataW.trod_int underlying3 g0
  obtain ⟨k1,e1,d1,w1⟩:=DataW.trod_int underlying3 g1
  obtain ⟨k2,e2,d2,w2⟩:=DataW.trod_int underlying3 g2
  obtain ⟨k3,e3,d3,w3⟩:=DataW.trod_int underlying3 g3
  obtain ⟨s,e4,d4,_⟩:=DataW.trod_string underlying9 g4
  simp only [List.cons.injEq,and_true] at e0 e1 e2 e3 e4
  subst e0;subst e1;subst e2;subst e3;subst e4
  have c0:=hcell 0 Kc
  have c1:=hcell 1 Kc
  have c2:=hcell 2 Kc
  have c3:=hcell 3 Kc
  have c4:=hcell 4 Kc
  rw [add_add] at c0 c1 c2 c3 c4
  simp only [Prod.mk.injEq] at hxy
  exact ⟨(k0,k1,k2,k3,s),by simpa using c0,by simpa using c1,w1,by simpa using c2,w2,by simpa using c3,w3,by simpa using c4,y0.1,y1.1,y2.1,y3.1,by rw [hxy.1,d4];rfl⟩
theorem BO{W:World}{base:Nat}{v:Value}{d:DataW H}{p:List MemPlace}(hok:Value.okWide prog W .any base 22 v)(h:DataW.Trod enc prog W 0 (λ_=>true) true 22 v d p)
  (hz:(DataW.weightsEach prog [22] [d]).all (· <= reachBytes)=true):
  (∃sa cap,v=.slice sa 0 cap) \/
  ∃(sb so n cap:Nat) (K A B C:Nat->Int) (S:Nat->ByteArray),v=.slice (some ⟨sb,so,none⟩) n cap/\ScrAt W sb so n K A B C S:=by
 obtain ⟨a0,len,cap,rfl⟩:=okWide_slice underlying22 hok
 obtain ⟨fuel,hf⟩:=h
 rcases open_slice underlying22 hf with ⟨hc,_⟩|⟨a,len',cap',m,n,D,Pl,hc,_,hl,hm,hmm,hx,hall⟩
 ·simp only [Value.cells,List.cons.injEq,Value.slice.injEq,and_true] at hc
  exact .inl ⟨_,_,by rw [hc.2.1]⟩
 simp only [Value.cells,List.cons.injEq,Value.slice.injEq,and_true] at hc
 obtain ⟨rfl,rfl,rfl⟩:=hc
 cases len with
 |zero=>exact .inl ⟨_,_,rfl⟩
 |succ len=>
  right
  have hlm:len+1<=m:=by rw [hmm];simp;exact hl
  obtain ⟨q,hq⟩:=choose_lt (α:=Int × Int × Int × Int × ByteArray) (p:=λi q=>OpIs W a i (D i) q) (n:=m) (λi hi=>by
   obtain ⟨cs,h1,h2⟩:=hall i hi
   exact op_is h1 h2)
  obtain ⟨sb,so,spot⟩:=a
  have hsp:spot=none:=by simpa [Addr.add] using World.cell?_spot (hq 0 Kc).k
  subst hsp
  have hd:d=.slice ((List.range (len+1)).map D) ((List.range (m-(len+1))).map λj=>D (len+1+j)):=by
   have:=congrArg Prod.fst hx
   simpa using this
  have hsz:=sized_slice hz (j:=0) (t:=22) rfl (by rw [hd];rfl) underlying22
  have hr:=reachBytes_lt
  have hb:=Tryz.bytesOp
  have hle:len+1<=140737488355328:=by
   have h1:len+1<=(len+1)*prog.bytesOf 52:=Nat.le_mul_of_pos_right _ hb
   have h2:(len+1)*prog.bytesOf 52<=(((List.range (len+1)).map D).length+((List.range (m-(len+1))).map λj=>D (len+1+j)).length)*prog.bytesOf 52:=Nat.mul_le_mul_right _ Kh
   omega
  refine ⟨sb,so,len+1,cap,λi=>(q i).1,λi=>(q i).2.1,λi=>(q i).2.2.1,λi=>(q i).2.2.2.1,λi=>(q i).2.2.2.2,rfl,?_,λi hi=>?_,λi hi=>?_,λi hi=>?_,λi hi=>?_,λi hi=>?_,λi hi=>⟨?_,?_,?_⟩,λi hi=>?_,hle⟩
  ·exact DW (hq 0 Kc).k
  ·have:=(hq i Kc).k
   rwa [Ij] at this
  ·have:=(hq i Kc).x
   exact Z204
  ·have:=(hq i Kc).y
   exact Z204
  ·have:=(hq i Kc).z
   exact Z204
  ·have:=(hq i Kc).s
   exact Z204
  ·exact bounds_i64 (hq i Kc).xw
  ·exact bounds_i64 (hq i Kc).yw
  ·exact bounds_i64 (hq i Kc).zw
  obtain ⟨y0,y1,y2,y3,hdi⟩:=(hq i Kc).d
  have hmem:(q i).2.2.2.2.data.toList.length∈DataW.weightsEach prog [22] [d]:=by
   refine DataW.weights_mem_each (j:=0) (t:=22) (d:=d) rfl rfl _ ?_
   rw [hd]
   simp only [DataW.weights,underlying22,List.mem_cons,List.mem_append]
   refine .inr (.inl (qU (d:=D i) (List.mem_map.2 ⟨i,List.mem_range.2 hi,rfl⟩) _ ?_))
   rw [hdi]
   simp only [DataW.weights,underlying52]
   exact DataW.weights_mem_each (j:=4) (t:=9) rfl rfl _ (by simp [DataW.weights])
  have:=List.all_eq_true.1 hz _ hmem
  have h2:(q i).2.2.2.2.data.toList.length<=reachBytes:=of_decide_eq_true this
  have h3:(q i).2.2.2.2.size=(q i).2.2.2.2.data.toList.length:=Array.length_toList.symm
  show (q i).2.2.2.2.size<=_
  omega
end
end
section
open Go Go.ChangeShapes Go.WideShapes Go.ChangeAt Go.RowKit
theorem Be{W W':World}(h:Add W W'){p:MemPlace}(hp:p.block<W.heap.size):W.sameAt W' p:=by
 cases p with
 |cell b o=>exact NY (w:=W) (h.old b hp)
 |map b=>exact h.old b hp
theorem Bg(S:Nat->ByteArray):ky 0 S=true:=by unfold ky gQ;decide
theorem Jh{H:Type}{enc:TypeId × Value->H}(W:World)(base:Nat)(args:Array Value)(ds gs:List (DataW H))(before:List MemPlace)
  (hval0:∀(j:Nat) t v,Tryz.f3.params[j]?=some t->args[j]?=some v->Value.okWide prog W .any base t v)
  (hW:DataW.Whole enc prog Tryz.f3.params.toList Rows.backSpec.vars false W args.toList ds gs before)
  (hz:(DataW.weightsEach prog (Tryz.f3.params.toList++Rows.backSpec.plain.varTypes prog) (ds++gs)).all (· <= reachBytes)=true)
  (hL:laidMetH prog Rows.backRow.laid W) (hsh:W.ShapedOpen prog):
  Calls prog 3 args W λe W'=>∃v,e=.returned v/\Rows.backSpec.post enc prog Tryz.f3 false true false false W args v W':=by
 have hval:∀(j:Nat) t v,Tryz.f3.params[j]?=some t->args[j]?=some v->Value.okWide prog W .any base t v:=hval0
 have hlt:=hW.lt
 have hW':=hW
 obtain ⟨p,q,hA0,hV,rfl,hfz,hnd⟩:=hW
 have hA:DataW.TrodAll enc prog W 0 (λ_=>true) true Tryz.f3.params.toList args.toList ds p:=hA0
 rw [params3] at hA hval
 obtain ⟨v,d,rfl,rfl,hd⟩:=trodAll_one hA
 obtain ⟨rfl,rfl⟩:=trodVars_none hV
 have hz':(DataW.weightsEach prog [22] [d]).all (· <= reachBytes)=true:=hz
 obtain ⟨a,b,hG⟩:=glb_of hL hsh
 have walk:Calls prog 3 #[v] W λe w'=>e=.returned (.bool true)/\Add W w':=by
  rcases BO (hval 0 _ v rfl rfl) hd hz' with ⟨sa,cap,rfl⟩|⟨sb,so,n,cap,K,A,B,C,S,rfl,hS⟩
  ·exact Eu (sb:=0) (so:=0) (K:=λ_=>0) (A:=λ_=>0) (B:=λ_=>0) (C:=λ_=>0) (S:=λ_=>⟨#[]⟩) hG (.inr rfl) (.inl rfl) λW' _=>by rw [Bg];exact DP sa cap W'
  exact Eu hG (.inl rfl) (.inr hS) λW2 k=>Gn sb so n cap S W2 hS.le (hS.add k).s hS.sz
 refine walk.mono λe W' ⟨he,hx⟩=>?_
 subst he
 have hd':DataW.Trod enc prog W' 0 (λb=>decide (b<W.heap.size)) true 22 v d p:=
  WideElems.Trod_stays Kf Kf (of_decide_eq_true Kf) hd (λx hx'=>Be hx (hlt x (List.mem_append_left _ hx'))) (λx hx'=>by simpa using hlt x (List.mem_append_left _ hx'))
 refine ⟨_,rfl,_,_,_,[],p,[],hW',?_,?_,?_,hx.ext.kept _,λh=>by cases h⟩
 ·exact trodAll_mk1 (shut_bool underlying4 true)
 ·show DataW.TrodAll enc prog W' 0 (λb=>decide (b<W.heap.size)) true Tryz.f3.params.toList [v] [d] _
  rw [params3]
  exact trodAll_mk1 hd'
 rfl
theorem lifted(os:Os)(started:os.Started)(H:Type)(enc:TypeId × Value->H):
  ReturnsInHanded {} Tryz.checked os 3 .any (λw args=>(Rows.backSpec.pre enc prog Tryz.f3 [] false w args/\laidMetH prog Rows.backRow.laid w)/\sizedMet enc prog Tryz.f3 (OpenSpec.ofChange Rows.backSpec) false w args)
   (Rows.backSpec.post enc prog Tryz.f3 false true false false):=by
 refine returnsInHanded_of_calls (C:=Tryz.checked) Tryz.own started Kf
  (ChangeSpec.witness_shaped (enc:=enc) (C:=Tryz.checked) (os:=os) (X:=λw _=>laidMetH prog Rows.backRow.laid w) false (((World.holding prog os ⟨#[],#[],[]⟩).setCell ⟨17,0,none⟩ (.iface 169 (.agg #[.pointer (some ⟨34,57,none⟩)]))).layVars prog lL) #[.slice none 0 0] 8 (Ht os) (Cv os _) Kf Kf Kf (JU os _)) ?_
 intro w tape i _ hsh _ hok hpre hholds
 obtain ⟨_,_,_,fn',hfn',_,_,_,_,hval⟩:=hok
 have e:fn'=Tryz.f3:=Option.some.inj (hfn'.symm.trans func3)
 subst e
 obtain ⟨⟨⟨ds,gs,before,hw,hc⟩,hx⟩,hz⟩:=hpre
 have hw':=DataW.Whole.of_heap (w':=w.forCall tape i) Kl hw
 refine (Jh (w.forCall tape i) w.heap.size i.args ds gs before hval hw' (hz.weights hw) (hx.of_heap Kl) hsh).mono λe W' ⟨v,he,hp⟩=>?_
 subst he
 exact ChangeSpec.post_blind hp
theorem Dv:Rows.BackSaid:=
 OpenClaim.holds_of_wide 3 Tryz.f3 rfl rfl rfl rfl rfl rfl rfl ⟨rfl,rfl,rfl,rfl,rfl⟩ rfl rfl rfl rfl rfl Kf func3 Kf
  (of_decide_eq_true Kf) (by unfold Func.isWrapper;first|(rw [if_pos (by decide +kernel)];kernel_rfl)|(rw [if_neg (by decide +kernel)];exact ⟨rfl,rfl⟩))
  (λos started H enc _=>lifted os started H enc)
theorem Tryz.noStand:prog.wantsStandIn 22=false:=Kf
theorem back_card:Rows.BackCardSaid:=
 Claim7.holds_tied_plain_at .later [] [.data,.data,.data,.data,.handle,.data,.sentinel,.sentinel,.sentinel,.sentinel,.sentinel,.sentinel,.sentinel,.sentinel,.sentinel,.sentinel,.sentinel,.sentinel,.sentinel,.sentinel,.sentinel,.sentinel,.sentinel,.sentinel,.sentinel,.sentinel,.pinned,.pinned,.pinned,.pinned,.pinned,.pinned] true Rows.backCard.stood.harness true
  Dv (λ_ h=>by cases h) Kf (λ_ h=>by cases h) back_row_tie rfl ⟨rfl,rfl⟩ Kf rfl
  (λf fn hf hfn=>by
   obtain rfl:f=3:=Option.some.inj ((show prog.funcNamed "avro/avrokeep.Back" = some 3 by kernel_rfl).symm.trans hf) |>.symm
   obtain rfl:fn=Tryz.f3:=(Option.some.inj (func3.symm.trans hfn)).symm
   exact ⟨by kernel_rfl,λj t ht=>by
    rw [params3] at ht
    have e:t=22:=by
     cases j with
     |zero=>exact (Option.some.inj ht).symm
     |succ j=>simp at ht
    rw [e]
    exact Tryz.noStand⟩)
  Kf
end
end Go.Proofs.YtceinlbeeahkeaaGreatDoor
