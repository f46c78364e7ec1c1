import Derived.Lib.OthersKept
import Derived.Laws.MakeOwn
import Derived.Test.YtmphmjkinmkidaaGreatDoorS07
set_option linter.defProp false
open Go.Proofs.Tryz
set_option maxRecDepth 8000
set_option maxHeartbeats 4000000
open Go Go.RowKit Go.Extern.Stop Go.Stop Go.Extern
namespace Go.Proofs.YtmphmjkinmkidaaGreatDoor
variable{p:Prop}
section
variable{L l:List Nat}{j:J}{val:List Nat->Option (J × List Nat)}
def Y28(h:p:=by exact (show Six w3 w.heap.size from Six.of_heap hb0)):p:=h
def Y29(h:p:=by exact (show (pk (dK L)==34)=false from beq_eq_false_iff_ne.2 e34)):p:=h
def Y30(h:p:=by exact (show Hid (-1000000000000000000<n/\n<1000000000000000000) from hnb)):p:=h
def Y36(h:p:=by exact (fK hsix (.int .i64 j.kindI) (.int .i64 n6) (.string t6) (.slice a6 l6 c6) (.slice na6 nl6 nc6) (.map m6))):p:=h
def Z20(h:p:=by
 have h2z:w.heap.size<w2.heap.size:=NK Km hu2.size
 have hsix:=Y28
 obtain ⟨r0,r1,r2,r3,r4,r5⟩:=Y36
 have hJF:=hJ3.below (n:=w.heap.size) (w':=dV w3 w.heap.size (.int .i64 j.kindI) (.int .i64 n6) (.string t6) (.slice a6 l6 c6) (.slice na6 nl6 nc6) (.map m6)) hrl Kx (λi hi=>dI _ _ _ _ _ _ _ _ i Kc)
 have hUF:=iH ((((ae w (.cells #[.int .i64 0,.int .i64 0,.string ⟨#[]⟩,.slice none 0 0,.slice none 0 0,.map none] 85 (0,0))).upd rb).trans hu2).trans hu3) (NL w.heap.size) (.int .i64 j.kindI) (.int .i64 n6) (.string t6) (.slice a6 l6 c6) (.slice na6 nl6 nc6) (.map m6)
 have hLF:=sW (B0:=w.heap.size) (W:=w3) (bP (λb hb _=>by omega) _ _ hcs) (.int .i64 j.kindI) (.int .i64 n6) (.string t6) (.slice a6 l6 c6) (.slice na6 nl6 nc6) (.map m6)
 clear q0 q1 q2 q3 q4 q5 qz hsix hb0
 unfold dV at r0 r1 r2 r3 r4 r5 hJF hUF hLF
 refine bodyPost_ret (v:=.agg #[.int .i64 j.kindI,.int .i64 n6,.string t6,.slice a6 l6 c6,.slice na6 nl6 nc6,.map m6]) Ld rfl ?_
 exact Z269):p:=h
def Z21(h:p:=by
 have hsix:=Y28
 obtain ⟨r0,r1,r2,r3,r4,r5⟩:=fK hsix (.int .i64 3) (.int .i64 (n)) (.string ⟨#[]⟩) (.slice none 0 0) (.slice none 0 0) (.map none)
 have hJF:=hJ3.below (n:=w.heap.size) (w':=dV w3 w.heap.size (.int .i64 3) (.int .i64 (n)) (.string ⟨#[]⟩) (.slice none 0 0) (.slice none 0 0) (.map none)) hrl Kx (λi hi=>dI _ _ _ _ _ _ _ _ i Kc)
 have hUF:=iH ((((ae w (.cells #[.int .i64 0,.int .i64 0,.string ⟨#[]⟩,.slice none 0 0,.slice none 0 0,.map none] 85 (0,0))).upd rb).trans hu2).trans hu3) (NL w.heap.size) (.int .i64 3) (.int .i64 (n)) (.string ⟨#[]⟩) (.slice none 0 0) (.slice none 0 0) (.map none)
 have hLF:=sW (B0:=w.heap.size) (W:=w3) (j:=.num n) (cs:=[.int .i64 3,.int .i64 (n),.string ⟨#[]⟩,.slice none 0 0,.slice none 0 0,.map none]) (by rw [J.lies];exact ⟨rfl,HN.out⟩) (.int .i64 3) (.int .i64 (n)) (.string ⟨#[]⟩) (.slice none 0 0) (.slice none 0 0) (.map none)
 clear q0 q1 q2 q3 q4 q5 qz hsix hb0
 unfold dV at r0 r1 r2 r3 r4 r5 hJF hUF hLF
 refine bodyPost_ret (v:=.agg #[.int .i64 3,.int .i64 (n),.string ⟨#[]⟩,.slice none 0 0,.slice none 0 0,.map none]) Ld rfl ?_
 exact Z269):p:=h
def Z96(h:p:=by
 exact ⟨rfl,⟨_,_,rfl⟩,(((ae w (.cells #[.int .i64 0,.int .i64 0,.string ⟨#[]⟩,.slice none 0 0,.slice none 0 0,.map none] 85 (0,0))).upd rb).trans hu2).trans hu3⟩):p:=h
def Z122(h:p:=by
 obtain ⟨x,t⟩:=y
 simp only [e,Option.map_some,Option.some.injEq,Prod.mk.injEq] at h
 obtain ⟨rfl,rfl⟩:=h
 have:=qr e
 omega):p:=h
def Z220(h:p:=by
 cases h
 rw [e] at hl
 simp at hl
 omega):p:=h
theorem DD{w:World}{rb:Nat}{rs:List Nat}(hJ:Jr w rb rs L):
  Calls prog 110 #[.pointer (some ⟨rb,0,none⟩),.int .i64 33] w λe w'=>fV e/\Upd rb w w':=by
 go_enter func110,ntmps110
 go_wp2_with (go_at_call 141;have hI:=qJ w (.cells #[.int .i64 0,.int .i64 0,.string ⟨#[]⟩,.slice none 0 0,.slice none 0 0,.map none] 85) (.cells #[.int .i64 5,.int .i64 0,.string ⟨#[]⟩,.slice none 0 0,.slice none 0 0,.map none] 85);refine (xS (hJ.add hI.1) 91 93).mono ?_;rintro e w1 ⟨⟨T,v,rfl⟩,hu1⟩)
 exact Z206
theorem BK{w:World}{rb:Nat}{rs:List Nat}(hJ:Jr w rb rs L):
  Calls prog 111 #[.pointer (some ⟨rb,0,none⟩),.int .i64 33] w λe w'=>fV e/\Upd rb w w':=by
 have hmm:=@run_makeMap prog
 go_enter func111,ntmps111
 go_wp2_with (go_at_call 141;have hI:=CJ w (.cells #[.int .i64 0,.int .i64 0,.string ⟨#[]⟩,.slice none 0 0,.slice none 0 0,.map none] 85) (.map #[] 0) (.cells #[.int .i64 6,.int .i64 0,.string ⟨#[]⟩,.slice none 0 0,.slice none 0 0,.map (some (w.heap.size+1))] 85);refine (xS (hJ.add hI.1) 123 125).mono ?_;rintro e w1 ⟨⟨T,v,rfl⟩,hu1⟩)
 exact Z206
theorem uw(h:tL L=some (j,l)):l.length<L.length:=by
 have ht:=List.takeWhile_append_dropWhile (p:=gY) (l:=L)
 have hl:=congrArg List.length ht
 rw [List.length_append] at hl
 unfold tL at h
 split at h
 ·rename_i e
  exact Z220
 split at h
 ·rename_i e
  exact Z220
 split at h
 ·rename_i e
  exact Z220
 cases h
theorem qr{x:Nat}(h:jq L=some (x,l)):l.length<L.length/\x<1000000000000000000:=by
 cases L with
 |nil=>cases h
 |cons r t=>
  rw [jq] at h
  split at h
  ·rename_i hd
   rw [kZ,if_pos hd,if_neg Kc,if_neg Kc] at h
   have hd':48<=r/\r<=57:=Nv
   have:=wI t _ 2 _ x l h Kc Kc Kc
   exact ⟨by simp;omega,this.1⟩
  cases h
theorem nK{n:Int}(h:rU L=some (n,l)):l.length<L.length /\ -1000000000000000000<n/\n<1000000000000000000:=by
 unfold rU at h
 cases m:dY 45 L with
 |none=>
  rw [m] at h
  cases e:jq L with
  |none=>simp [e] at h
  |some y=>
   exact Z122
 |some q=>
  rw [m] at h
  have hq:=kW m
  cases e:jq q with
  |none=>simp [e] at h
  |some y=>
   exact Z122
theorem mO(hv:∀L j l,val L=some (j,l)->l.length<L.length):∀(f:Nat) (acc:List J) (L:List Nat) (j:J) (l:List Nat),iI val f acc L=some (j,l)->l.length<L.length
 |0,_,_,_,_,h=>by rw [iI] at h;cases h
 |f+1,acc,L,j,l,h=>by
  rw [iI] at h
  cases e:val L with
  |none=>rw [e] at h;cases h
  |some y=>
   obtain ⟨v,l1⟩:=y
   simp only [e] at h
   have h1:=hv L v l1 e
   cases e2:nX 93 l1 with
   |none=>simp only [e2] at h;cases h
   |some z=>
    obtain ⟨b,l2⟩:=z
    simp only [e2] at h
    have h2:=mG e2
    cases b with
    |true=>cases h;omega
    |false=>
     have:=mO hv f _ _ _ _ h
     omega
theorem mo(hv:∀L j l,val L=some (j,l)->l.length<L.length):∀(f:Nat) (ns:List ByteArray) (vs:List J) (L:List Nat) (j:J) (l:List Nat),jC val f ns vs L=some (j,l)->l.length<L.length
 |0,_,_,_,_,_,h=>by rw [jC] at h;cases h
 |f+1,ns,vs,L,j,l,h=>by
  rw [jC] at h
  have hs:=ja L
  cases e:qD (dK L) with
  |none=>rw [e] at h;cases h
  |some y=>
   obtain ⟨n,l1⟩:=y
   simp only [e] at h
   have h1:=(qA e).2
   split at h
   ·cases h
   have hs1:=ja l1
   cases e2:dY 58 (dK l1) with
   |none=>simp only [e2] at h;cases h
   |some l2=>
    simp only [e2] at h
    have h2:=kW e2
    cases e3:val l2 with
    |none=>simp only [e3] at h;cases h
    |some y=>
     obtain ⟨v,l3⟩:=y
     simp only [e3] at h
     have h3:=hv l2 v l3 e3
     cases e4:nX 125 l3 with
     |none=>simp only [e4] at h;cases h
     |some z=>
      obtain ⟨b,l4⟩:=z
      simp only [e4] at h
      have h4:=mG e4
      cases b with
      |true=>cases h;omega
      |false=>
       have:=mo hv f _ _ _ _ _ h
       omega
theorem BN{f l:Nat}{l0:List Nat}{b:Bool}(h:lD f l L=some (b,l0)):l0.length<L.length:=by
 exact Z60
theorem IZ(hv:∀L j l,val L=some (j,l)->l.length<L.length)(h:Bf val L=some (j,l)):l.length<L.length:=by
 unfold Bf at h
 cases e:lD 91 93 L with
 |none=>rw [e] at h;cases h
 |some y=>
  obtain ⟨b,l1⟩:=y
  simp only [e] at h
  have h1:=BN e
  cases b with
  |true=>cases h;omega
  |false=>have:=mO hv _ _ _ _ _ h;omega
theorem JM(hv:∀L j l,val L=some (j,l)->l.length<L.length)(h:BZ val L=some (j,l)):l.length<L.length:=by
 unfold BZ at h
 cases e:lD 123 125 L with
 |none=>rw [e] at h;cases h
 |some y=>
  obtain ⟨b,l1⟩:=y
  simp only [e] at h
  have h1:=BN e
  cases b with
  |true=>cases h;omega
  |false=>have:=mo hv _ _ _ _ _ _ h;omega
theorem pn{ar ob:List Nat->Option (J × List Nat)}(ha:∀L j l,ar L=some (j,l)->l.length<L.length)(hb:∀L j l,ob L=some (j,l)->l.length<L.length)(h:si ar ob L=some (j,l)):l.length<L.length:=by
 have fin:∀ {α:Type} {g:α->J} {O:Option (α × List Nat)},O.map (λx=>(g x.1,x.2))=some (j,l)->∃x,O=some (x,l):=by
  intro α g O hO
  cases O with
  |none=>cases hO
  |some y=>
   obtain ⟨x,t⟩:=y
   simp only [Option.map_some,Option.some.injEq,Prod.mk.injEq] at hO
   exact ⟨x,by rw [hO.2]⟩
 unfold si at h
 split at h
 ·obtain ⟨x,e⟩:=fin h
  exact (qA e).2
 split at h
 ·exact ha _ _ _ h
 split at h
 ·exact hb _ _ _ h
 split at h
 ·obtain ⟨x,e⟩:=fin h
  exact (nK e).1
 split at h
 ·obtain ⟨x,e⟩:=fin h
  exact (nK e).1
 exact uw h
theorem uh:∀(k:Nat) (L:List Nat) (j:J) (l:List Nat),iQ k L=some (j,l)->l.length<L.length
 |0,L,j,l,h=>by
  rw [iQ] at h
  have:=pn (λ_ _ _ h=>by cases h) (λ_ _ _ h=>by cases h) h
  have:=ja L
  omega
 |k+1,L,j,l,h=>by
  rw [iQ] at h
  have:=pn (λ_ _ _ h=>IZ (uh k) h) (λ_ _ _ h=>JM (uh k) h) h
  have:=ja L
  omega
theorem sW{B0:Nat}{W:World}{cs:List Value}(h:j.lies (λb=>B0<b) W cs)(v0 v1 v2 v3 v4 v5:Value):j.lies (λb=>B0<=b) (dV W B0 v0 v1 v2 v3 v4 v5) cs:=
 bP (λb hb _=>by omega) _ _ (J.lies_carry (ok:=λb=>B0<b) ⟨by rw [dP];exact NL _,λi hi _=>dI _ _ _ _ _ _ _ _ i Kc⟩ _ _ h)
theorem xU{ar ob:List Nat->Option (J × List Nat)}{w:World}{rb:Nat}{rs L:List Nat}(hJ:Jr w rb rs L)(d d1:Int)(hd:wrap64 (d+1)=d1)
  (har:∀W L,Jr W rb rs L->Calls prog 110 #[.pointer (some ⟨rb,0,none⟩),.int .i64 d1] W λe w'=>mr (ar L) rb rs W e w')
  (hob:∀W L,Jr W rb rs L->Calls prog 111 #[.pointer (some ⟨rb,0,none⟩),.int .i64 d1] W λe w'=>mr (ob L) rb rs W e w'):
  Calls prog 74 #[.pointer (some ⟨rb,0,none⟩),.int .i64 d] w λe w'=>mr (si ar ob (dK L)) rb rs w e w':=by
 have hrl:=hJ.rlt
 have hln:=hJ.len
 have hsk:=ja L
 unfold si
 by_cases e34:pk (dK L)=34
 ·rw [if_pos e34]
  have htx:=λW (h:Jr W rb rs (dK L))=>Bn h
  have b34:(pk (dK L)==34)=true:=beq_iff_eq.2 e34
  cases hs:qD (dK L) with
  |none=>
   rw [hs] at htx
   clear har hob hd hln hsk
   go_enter func74,ntmps74
   go_wp2_with (first
    |(go_at_call 109;refine (htx _ hJ2).mono ?_;rintro e w3 ⟨⟨T,v,rfl⟩,hu3⟩)
    |(go_at_call 76;refine (eD hJ1).mono ?_;rintro e w2 ⟨rfl,ha2⟩;have hJ2:=hJ1.add ha2;have hu2:=hu1.trans (ha2.upd rb))
    |(go_at_call 75;refine (ed (hJ.add (ae _ _))).mono ?_;rintro e w1 ⟨rfl,hJ1,hu1⟩))
   exact Z96
  |some y=>
   obtain ⟨s,l⟩:=y
   rw [hs] at htx
   have hss:=qA hs
   have hs65:s.size<=65536:=Kc
   clear har hob hd hln hsk hss
   go_enter func74,ntmps74
   go_wp2_with (first
    |(go_at_call 109;refine (htx _ hJ2).mono ?_;rintro e w3 ⟨rfl,hJ3,hu3⟩;have hb0:=((hu2.trans hu3).old _ Km (by omega:w.heap.size≠rb)).trans (dD w (.cells #[.int .i64 0,.int .i64 0,.string ⟨#[]⟩,.slice none 0 0,.slice none 0 0,.map none] 85 (0,0)));obtain ⟨q0,q1,q2,q3,q4,q5,qz⟩:=dF hb0)
    |(go_at_call 76;refine (eD hJ1).mono ?_;rintro e w2 ⟨rfl,ha2⟩;have hJ2:=hJ1.add ha2;have hu2:=hu1.trans (ha2.upd rb))
    |(go_at_call 75;refine (ed (hJ.add (ae _ _))).mono ?_;rintro e w1 ⟨rfl,hJ1,hu1⟩))
   have hsix:=Y28
   obtain ⟨r0,r1,r2,r3,r4,r5⟩:=fK hsix (.int .i64 4) (.int .i64 (0)) (.string s) (.slice none 0 0) (.slice none 0 0) (.map none)
   have hJF:=hJ3.below (n:=w.heap.size) (w':=dV w3 w.heap.size (.int .i64 4) (.int .i64 (0)) (.string s) (.slice none 0 0) (.slice none 0 0) (.map none)) hrl Kx (λi hi=>dI _ _ _ _ _ _ _ _ i Kc)
   have hUF:=iH ((((ae w (.cells #[.int .i64 0,.int .i64 0,.string ⟨#[]⟩,.slice none 0 0,.slice none 0 0,.map none] 85 (0,0))).upd rb).trans hu2).trans hu3) (NL w.heap.size) (.int .i64 4) (.int .i64 (0)) (.string s) (.slice none 0 0) (.slice none 0 0) (.map none)
   have hLF:=sW (B0:=w.heap.size) (W:=w3) (j:=.str s) (cs:=[.int .i64 4,.int .i64 (0),.string s,.slice none 0 0,.slice none 0 0,.map none]) (by rw [J.lies];exact ⟨rfl,hs65⟩) (.int .i64 4) (.int .i64 (0)) (.string s) (.slice none 0 0) (.slice none 0 0) (.map none)
   clear q0 q1 q2 q3 q4 q5 qz hsix hb0
   unfold dV at r0 r1 r2 r3 r4 r5 hJF hUF hLF
   refine bodyPost_ret (v:=.agg #[.int .i64 4,.int .i64 (0),.string s,.slice none 0 0,.slice none 0 0,.map none]) Ld rfl ?_
   exact Z269
 by_cases e91:pk (dK L)=91
 ·rw [if_neg e34,if_pos e91]
  have b91:(pk (dK L)==91)=true:=beq_iff_eq.2 e91
  have b34:=Y29
  have hcl:=λW (h:Jr W rb rs (dK L))=>har W (dK L) h
  clear har hob hln hsk
  cases hs:ar (dK L) with
  |none=>
   rw [hs] at hcl
   go_enter func74,ntmps74
   go_wp2_with (first
    |(go_at_call 110;refine (hcl _ hJ2).mono ?_;rintro e w3 ⟨⟨T,v,rfl⟩,hu3⟩)
    |(go_at_call 76;refine (eD hJ1).mono ?_;rintro e w2 ⟨rfl,ha2⟩;have hJ2:=hJ1.add ha2;have hu2:=hu1.trans (ha2.upd rb))
    |(go_at_call 75;refine (ed (hJ.add (ae _ _))).mono ?_;rintro e w1 ⟨rfl,hJ1,hu1⟩))
   exact Z96
  |some y=>
   obtain ⟨j,l⟩:=y
   rw [hs] at hcl
   go_enter func74,ntmps74
   go_wp2_with (first
    |(go_at_call 110;refine (hcl _ hJ2).mono ?_;rintro e w3 ⟨⟨cs,rfl,hcs⟩,hJ3,hu3⟩;obtain ⟨n6,t6,a6,na6,l6,c6,nl6,nc6,m6,rfl⟩:=J.lies_cells hcs;have hb0:=((hu2.trans hu3).old _ Km (by omega:w.heap.size≠rb)).trans (dD w (.cells #[.int .i64 0,.int .i64 0,.string ⟨#[]⟩,.slice none 0 0,.slice none 0 0,.map none] 85 (0,0)));obtain ⟨q0,q1,q2,q3,q4,q5,qz⟩:=dF hb0;unfold jc)
    |(go_at_call 76;refine (eD hJ1).mono ?_;rintro e w2 ⟨rfl,ha2⟩;have hJ2:=hJ1.add ha2;have hu2:=hu1.trans (ha2.upd rb))
    |(go_at_call 75;refine (ed (hJ.add (ae _ _))).mono ?_;rintro e w1 ⟨rfl,hJ1,hu1⟩))
   exact Z20
 by_cases e123:pk (dK L)=123
 ·rw [if_neg e34,if_neg e91,if_pos e123]
  have b123:(pk (dK L)==123)=true:=beq_iff_eq.2 e123
  have b34:=Y29
  have b91:(pk (dK L)==91)=false:=beq_eq_false_iff_ne.2 e91
  have hcl:=λW (h:Jr W rb rs (dK L))=>hob W (dK L) h
  clear har hob hln hsk
  cases hs:ob (dK L) with
  |none=>
   rw [hs] at hcl
   go_enter func74,ntmps74
   go_wp2_with (first
    |(go_at_call 111;refine (hcl _ hJ2).mono ?_;rintro e w3 ⟨⟨T,v,rfl⟩,hu3⟩)
    |(go_at_call 76;refine (eD hJ1).mono ?_;rintro e w2 ⟨rfl,ha2⟩;have hJ2:=hJ1.add ha2;have hu2:=hu1.trans (ha2.upd rb))
    |(go_at_call 75;refine (ed (hJ.add (ae _ _))).mono ?_;rintro e w1 ⟨rfl,hJ1,hu1⟩))
   exact Z96
  |some y=>
   obtain ⟨j,l⟩:=y
   rw [hs] at hcl
   go_enter func74,ntmps74
   go_wp2_with (first
    |(go_at_call 111;refine (hcl _ hJ2).mono ?_;rintro e w3 ⟨⟨cs,rfl,hcs⟩,hJ3,hu3⟩;obtain ⟨n6,t6,a6,na6,l6,c6,nl6,nc6,m6,rfl⟩:=J.lies_cells hcs;have hb0:=((hu2.trans hu3).old _ Km (by omega:w.heap.size≠rb)).trans (dD w (.cells #[.int .i64 0,.int .i64 0,.string ⟨#[]⟩,.slice none 0 0,.slice none 0 0,.map none] 85 (0,0)));obtain ⟨q0,q1,q2,q3,q4,q5,qz⟩:=dF hb0;unfold jc)
    |(go_at_call 76;refine (eD hJ1).mono ?_;rintro e w2 ⟨rfl,ha2⟩;have hJ2:=hJ1.add ha2;have hu2:=hu1.trans (ha2.upd rb))
    |(go_at_call 75;refine (ed (hJ.add (ae _ _))).mono ?_;rintro e w1 ⟨rfl,hJ1,hu1⟩))
   exact Z20
 have b34:=Y29
 have b91:(pk (dK L)==91)=false:=beq_eq_false_iff_ne.2 e91
 have b123:(pk (dK L)==123)=false:=beq_eq_false_iff_ne.2 e123
 rw [if_neg e34,if_neg e91,if_neg e123]
 by_cases e45:pk (dK L)=45
 ·rw [if_pos e45]
  have b45:(pk (dK L)==45)=true:=beq_iff_eq.2 e45
  clear e34 e91 e123
  have hcl:=λW (h:Jr W rb rs (dK L))=>xx h
  cases hs:rU (dK L) with
  |none=>
   rw [hs] at hcl
   clear har hob hd hln hsk
   go_enter func74,ntmps74
   go_wp2_with (first
    |(go_at_call 113;refine (hcl _ hJ2).mono ?_;rintro e w3 ⟨⟨T,v,rfl⟩,hu3⟩)
    |(go_at_call 76;refine (eD hJ1).mono ?_;rintro e w2 ⟨rfl,ha2⟩;have hJ2:=hJ1.add ha2;have hu2:=hu1.trans (ha2.upd rb))
    |(go_at_call 75;refine (ed (hJ.add (ae _ _))).mono ?_;rintro e w1 ⟨rfl,hJ1,hu1⟩))
   exact Z96
  |some y=>
   obtain ⟨n,l⟩:=y
   rw [hs] at hcl
   have hnb:=(nK hs).2
   have HN:=Y30
   clear har hob hd hln hsk hnb
   go_enter func74,ntmps74
   go_wp2_with (first
    |(go_at_call 113;refine (hcl _ hJ2).mono ?_;rintro e w3 ⟨rfl,hJ3,hu3⟩;have hb0:=((hu2.trans hu3).old _ Km (by omega:w.heap.size≠rb)).trans (dD w (.cells #[.int .i64 0,.int .i64 0,.string ⟨#[]⟩,.slice none 0 0,.slice none 0 0,.map none] 85 (0,0)));obtain ⟨q0,q1,q2,q3,q4,q5,qz⟩:=dF hb0)
    |(go_at_call 76;refine (eD hJ1).mono ?_;rintro e w2 ⟨rfl,ha2⟩;have hJ2:=hJ1.add ha2;have hu2:=hu1.trans (ha2.upd rb))
    |(go_at_call 75;refine (ed (hJ.add (ae _ _))).mono ?_;rintro e w1 ⟨rfl,hJ1,hu1⟩))
   exact Z21
 rw [if_neg e45]
 have b45:(pk (dK L)==45)=false:=beq_eq_false_iff_ne.2 e45
 by_cases edg:48<=pk (dK L)/\pk (dK L)<=57
 ·rw [if_pos edg]
  have hdg:nr (pk (dK L))=true:=by simp [nr,edg.1,edg.2]
  clear e34 e91 e123 e45 edg
  have hcl:=λW (h:Jr W rb rs (dK L))=>xx h
  cases hs:rU (dK L) with
  |none=>
   rw [hs] at hcl
   clear har hob hd hln hsk
   go_enter func74,ntmps74
   go_wp2_with (first
    |(go_at_call 113;refine (hcl _ hJ2).mono ?_;rintro e w3 ⟨⟨T,v,rfl⟩,hu3⟩)
    |(go_at_call 112;refine (fC _ _).mono ?_;rintro e w9 ⟨rfl,h9⟩;rw [h9,hdg])
    |(go_at_call 76;refine (eD hJ1).mono ?_;rintro e w2 ⟨rfl,ha2⟩;have hJ2:=hJ1.add ha2;have hu2:=hu1.trans (ha2.upd rb))
    |(go_at_call 75;refine (ed (hJ.add (ae _ _))).mono ?_;rintro e w1 ⟨rfl,hJ1,hu1⟩))
   exact Z96
  |some y=>
   obtain ⟨n,l⟩:=y
   rw [hs] at hcl
   have hnb:=(nK hs).2
   have HN:=Y30
   clear har hob hd hln hsk hnb
   go_enter func74,ntmps74
   go_wp2_with (first
    |(go_at_call 113;refine (hcl _ hJ2).mono ?_;rintro e w3 ⟨rfl,hJ3,hu3⟩;have hb0:=((hu2.trans hu3).old _ Km (by omega:w.heap.size≠rb)).trans (dD w (.cells #[.int .i64 0,.int .i64 0,.string ⟨#[]⟩,.slice none 0 0,.slice none 0 0,.map none] 85 (0,0)));obtain ⟨q0,q1,q2,q3,q4,q5,qz⟩:=dF hb0)
    |(go_at_call 112;refine (fC _ _).mono ?_;rintro e w9 ⟨rfl,h9⟩;rw [h9,hdg])
    |(go_at_call 76;refine (eD hJ1).mono ?_;rintro e w2 ⟨rfl,ha2⟩;have hJ2:=hJ1.add ha2;have hu2:=hu1.trans (ha2.upd rb))
    |(go_at_call 75;refine (ed (hJ.add (ae _ _))).mono ?_;rintro e w1 ⟨rfl,hJ1,hu1⟩))
   exact Z21
 rw [if_neg edg]
 have hdg:nr (pk (dK L))=false:=by
  unfold nr
  by_cases h1:48<=pk (dK L)
  ·rw [decide_eq_true h1,Bool.true_and]
   exact decide_eq_false (λh2=>edg ⟨h1,h2⟩)
  rw [decide_eq_false h1,Bool.false_and]
 have hcl:=λW (h:Jr W rb rs (dK L))=>IR h
 clear e34 e91 e123 e45 edg har hob hd hln hsk
 cases hs:tL (dK L) with
 |none=>
  rw [hs] at hcl
  go_enter func74,ntmps74
  go_wp2_with (first
   |(go_at_call 114;refine (hcl _ hJ2).mono ?_;rintro e w3 ⟨⟨T,v,rfl⟩,hu3⟩)
   |(go_at_call 112;refine (fC _ _).mono ?_;rintro e w9 ⟨rfl,h9⟩;rw [h9,hdg])
   |(go_at_call 76;refine (eD hJ1).mono ?_;rintro e w2 ⟨rfl,ha2⟩;have hJ2:=hJ1.add ha2;have hu2:=hu1.trans (ha2.upd rb))
   |(go_at_call 75;refine (ed (hJ.add (ae _ _))).mono ?_;rintro e w1 ⟨rfl,hJ1,hu1⟩))
  exact Z96
 |some y=>
  obtain ⟨j,l⟩:=y
  rw [hs] at hcl
  go_enter func74,ntmps74
  go_wp2_with (first
   |(go_at_call 114;refine (hcl _ hJ2).mono ?_;rintro e w3 ⟨⟨cs,rfl,hcs⟩,hJ3,hu3⟩;obtain ⟨n6,t6,a6,na6,l6,c6,nl6,nc6,m6,rfl⟩:=J.lies_cells hcs;have hb0:=((hu2.trans hu3).old _ Km (by omega:w.heap.size≠rb)).trans (dD w (.cells #[.int .i64 0,.int .i64 0,.string ⟨#[]⟩,.slice none 0 0,.slice none 0 0,.map none] 85 (0,0)));obtain ⟨q0,q1,q2,q3,q4,q5,qz⟩:=dF hb0;unfold jc)
   |(go_at_call 112;refine (fC _ _).mono ?_;rintro e w9 ⟨rfl,h9⟩;rw [h9,hdg])
   |(go_at_call 76;refine (eD hJ1).mono ?_;rintro e w2 ⟨rfl,ha2⟩;have hJ2:=hJ1.add ha2;have hu2:=hu1.trans (ha2.upd rb))
   |(go_at_call 75;refine (ed (hJ.add (ae _ _))).mono ?_;rintro e w1 ⟨rfl,hJ1,hu1⟩))
  exact Z20
theorem xA:∀k,k<=32->JV k
 |0,_=>λw rb rs L d hd hJ=>by
  subst hd
  rw [iQ]
  exact xU hJ _ 33 Kn (λW L h=>DD h) (λW L h=>BK h)
 |k+1,hk=>λw rb rs L d hd hJ=>by
  rw [iQ]
  refine xU hJ d (32-(k:Int)) Kn (λW L h=>JR (xA k Kc) (uh k) h Kc _ rfl) (λW L h=>FB (xA k Kc) (uh k) h Kc _ rfl)
end
section
def Y31(h:p:=by exact (show ∀ty,(Instr.next (.pointer (some ⟨w1.heap.size,0,none⟩)) true ty).run prog wr=_ from λty=>Lib.run_next_any_at wr w1.heap.size s pos ty hit hp)):p:=h
def Y32(h:p:=by exact (Lib.iterAt_heap wr w1.heap.size s pos (pos+(Utf8.decode s pos).2) hit)):p:=h
def Y33(h:p:=by exact (Lib.iterAt_size wr w1.heap.size s (pos+(Utf8.decode s pos).2))):p:=h
def Y34(h:p:=by exact (show w1.heap.size<wr.heap.size from (Oh hit).1)):p:=h
def Y35(h:p:=by exact (show ∀ty,(Instr.next (.pointer (some ⟨w1.heap.size,0,none⟩)) true ty).run prog wr=_ from λty=>Lib.run_next_end_at wr w1.heap.size s pos ty hit hp)):p:=h
def Z183(h:p:=by
 simp only [Prod.mk.injEq] at h2
 exact ⟨i,h1,h2.1,h2.2.1,h2.2.2⟩):p:=h
def Z199(h:p:=by
 simp only [World.iterPos,hit3,HI.out]
 simp at hwd
 omega):p:=h
theorem wP(s:ByteArray)(pos:Nat):(Utf8.decode s pos).1<=1114111:=by
 have hb:∀k,(s.get! (pos+k)).toNat<256:=λk=>(s.get! (pos+k)).toNat_lt
 have h0:=hb 0
 have h1:=hb 1
 have h2:=hb 2
 have h3:=hb 3
 simp only [Utf8.decode]
 repeat' split
 all_goals simp_all [Utf8.runeError,Utf8.valid]
 all_goals omega
theorem xy(s:ByteArray)(pos:Nat):1<=(Utf8.decode s pos).2:=by
 simp only [Utf8.decode]
 repeat' split
 all_goals simp
def gM(s:ByteArray):Nat->Nat->List Nat
 |0,_=>[]
 |f+1,pos=>if pos<s.size then (Utf8.decode s pos).1::gM s f (pos+(Utf8.decode s pos).2) else []
def lI(s:ByteArray):List Nat:=gM s s.size 0
theorem yP(s:ByteArray)(f pos:Nat)(h:¬ pos<s.size):gM s f pos=[]:=by
 cases f with
 |zero=>rfl
 |succ f=>rw [gM,if_neg h]
theorem ou(s:ByteArray):∀f pos,(gM s f pos).length<=f
 |0,_=>NL _
 |f+1,pos=>by
  rw [gM]
  split
  ·have:=ou s f (pos+(Utf8.decode s pos).2)
   simp
   omega
  simp
theorem qY(s:ByteArray):∀f pos,∀r∈gM s f pos,r<=1114111
 |0,_,r,h=>by cases h
 |f+1,pos,r,h=>by
  rw [gM] at h
  split at h
  ·rcases List.mem_cons.1 h with rfl|h
   ·exact wP s pos
   exact qY s f _ r h
  cases h
def oQ(l:List Nat):List Value:=l.map λr:Nat=>.int .i32 (r:Int)
theorem Cw{w:World}{base:Nat}{e:TypeId}{size:Nat}{v:Value}{n:Nat}{xs:List Value}(h:w.ownsRow base e size v n xs):Row w size v n xs:=by
 obtain ⟨hl,⟨rfl,h0⟩|⟨g,cap,cur,rfl,_,hg,hn,hc,hs,ht⟩⟩:=h
 ·exact .inl ⟨rfl,h0,NT (by rw [hl,h0];simp)⟩
 refine .inr ⟨g,cap,rfl,(Oh hg).1,hn,hc,hl,λj hj=>?_,λj hj=>?_⟩
 ·unfold World.cell?
  rw [hg,<-ht]
  simp [hj]
 unfold World.cell? World.frozen?
 rw [hg]
 simp [hs,hj]
theorem Tryz.infoR:(prog.info? 21).map (λi=>(i.zero,i.size,i.bytes))=some (some (.int .i32 0),1,4):=Kf
theorem Tryz.infoR1:∃i,prog.info? 21=some i/\i.zero=some (.int .i32 0)/\i.size=1/\i.bytes=4:=by
 obtain ⟨i,h1,h2⟩:=Option.map_eq_some_iff.1 Tryz.infoR
 exact Z183
theorem BS(s:ByteArray)(w:World)(hs:s.size<=4000):
  Calls prog 73 #[.string s] w λe w'=>∃v:Value,e=.returned v/\Row w' 1 v (lI s).length (oQ (lI s))/\(∃g,blk v=some g/\w.heap.size<=g)/\Add w w':=by
 obtain ⟨iR,hiR,hzR,hsR,hbR⟩:=Tryz.infoR1
 obtain ⟨w1,hmk,hown,hgrow⟩:=run_make_own (P:=prog) w w.heap.size 158 21 iR (.int .i32 0) 1 underlying158 hiR hzR hsR .i64 .i64 s.size (by rw [hbR];omega) Ki (NL _)
 have hrow0:=Cw hown
 have ha1:Add w w1:=⟨hgrow.os,hgrow.output,hgrow.size,λi hi=>hgrow.block i hi Kh⟩
 have hl1:w.heap.size<w1.heap.size:=hrow0.blk_lt rfl
 clear hown hgrow
 go_enter func73,ntmps73
 go_wp2
 go_loopw [3] (λl wr=>∃(pos fuel:Nat) (acc:List Nat),wr.heap[w1.heap.size]?=some (.stringIter s pos)/\Row wr 1 l acc.length (oQ acc)/\(∃g,blk l=some g/\w.heap.size<=g/\g≠w1.heap.size)/\acc++gM s fuel pos=lI s/\s.size<=pos+fuel/\acc.length<=pos/\Add w wr) (λ_ wr=>s.size-wr.iterPos w1.heap.size)
 case atStart=>
  refine ⟨0,s.size,[],World.iter_heap w1 s 0,hrow0.alloc (.stringIter s 0),⟨w.heap.size,rfl,NL _,by omega⟩,rfl,by omega,NL _,ha1.trans (ae _ _)⟩
 obtain ⟨pos,fuel,acc,hit,hrow,⟨g,hg,hg1,hg2⟩,hacc,hfu,hal,ha⟩:=hrel
 by_cases hp:pos<s.size
 ·have hnx:=Y31
  have hwd:=xy s pos
  have hd1:=wP s pos
  obtain ⟨f,rfl⟩:∃f,fuel=f+1:=⟨fuel-1,by omega⟩
  rw [gM,if_pos hp] at hacc
  have hit2:=Y32
  have hoth:∀i,i≠w1.heap.size->(wr.iterAt w1.heap.size s (pos+(Utf8.decode s pos).2)).heap[i]?=wr.heap[i]?:=λi hi=>by unfold World.iterAt;simp [Ne.symm hi]
  have hrow2:Row (wr.iterAt w1.heap.size s (pos+(Utf8.decode s pos).2)) 1 u3 acc.length (oQ acc):=hrow.carry (λi hi=>hoth i (by rw [hg] at hi;cases hi;exact hg2))
  have hsz2:=Y33
  have hitl:=Y34
  have ha2:Add w (wr.iterAt w1.heap.size s (pos+(Utf8.decode s pos).2)):=⟨ha.os,ha.output,by rw [hsz2];exact ha.size,λi hi=>(hoth i Kc).trans (ha.old i hi)⟩
  generalize wr.iterAt w1.heap.size s (pos+(Utf8.decode s pos).2)=w2 at hnx hit2 hrow2 hsz2 ha2
  obtain ⟨la,lc,rfl⟩:=hrow2.shape
  have HI:Hid (wr.heap[w1.heap.size]?=some (.stringIter s pos)):=hit
  have HA:Hid (acc++(Utf8.decode s pos).1::gM s f (pos+(Utf8.decode s pos).2)=lI s):=hacc
  generalize Utf8.decode s pos=dd at *
  obtain ⟨r,q⟩:=dd
  have HSZ:Hid (w2.heap.size=wr.heap.size):=hsz2
  clear hit hacc hrow hoth ha hsz2
  go_wp2_with (at_builtin;refine dH _ rfl _ _ 158 158 rfl Ke iR (.int .i32 0) 4 underlying158 hiR hzR hsR hbR rfl rfl (hrow2.alloc _) _ 1 _ rfl (di _ underlying158 _ rfl 21 _ rfl) Ki Kc ?_;intro l3 w3 hrow3 hg3)
  change Grew _ (.slice la acc.length lc) _ _ at hg3
  have h3a:(w2.alloc (.cells #[.int .i32 (r:Int)] 21)).heap.size=w2.heap.size+1:=dE _ _
  have h3s:=hg3.size
  have hsz2:=HSZ.out
  have hnit:blk (.slice la acc.length lc)≠some w1.heap.size:=by rw [hg];intro e;cases e;exact hg2 rfl
  have hit3:w3.heap[w1.heap.size]?=some (.stringIter s (pos+q)):=by
   rw [hg3.old _ Kc hnit,Oc _ _ _ Kc]
   exact hit2
  go_roundw
  case rel=>
   refine ⟨pos+q,f,acc++[r],hit3,?_,?_,?_,by omega,by simp;omega,?_⟩
   ·rw [List.length_append]
    unfold oQ
    rw [List.map_append]
    exact hrow3
   ·rcases hg3.at' with e|⟨g3,hg3',e⟩
    ·exact ⟨g,e.trans hg,hg1,hg2⟩
    exact ⟨g3,e,by have:=ha2.size;omega,by omega⟩
   ·rw [<-HA.out]
    simp
   exact ⟨hg3.os.trans ha2.os,hg3.output.trans ha2.output,by have:=ha2.size;omega,λi hi=>by
    rw [hg3.old i Nw (by rw [hg];intro e;cases e;omega),Oc _ _ i Nw]
    exact ha2.old i hi⟩
  exact Z199
 have hnx:=Y35
 rw [yP s fuel pos hp,List.append_nil] at hacc
 subst hacc
 have HR:Hid (Row wr 1 u3 (lI s).length (oQ (lI s))):=hrow
 clear hrow
 go_wp2
 go_ret
 exact ⟨_,rfl,HR.out,⟨g,hg,hg1⟩,ha⟩
def iN(t:ByteArray):Option J:=if 4000<t.size then none else if Lib.validD t.data.toList=true then yG (lI t) else none
structure Tbl(w:World):Prop where
 ng:34<=w.heap.size
 pow:Pow w
 tabs:mq w
theorem mq.add{w w':World}(h:mq w)(a:Add w w'):mq w':=⟨λc hc=>a.cell (h.1 c hc),λi hi=>⟨a.cell (h.2 i hi).1,a.cell (h.2 i hi).2⟩⟩
theorem Tbl.add{w w':World}(h:Tbl w)(a:Add w w'):Tbl w':=⟨NM h.ng a.size,h.pow.add a,h.tabs.add a⟩
def WPost(O:Option J)(w:World)(e:Ending)(w':World):Prop:=
 match O with
 |some j=>(∃cs:List Value,e=.returned (.agg cs.toArray)/\j.lies (λb=>w.heap.size<=b) w' cs)/\Add w w'
 |none=>fV e/\Add w w'
theorem kD{w w':World}(h:Below w.heap.size w w'):Add w w':=⟨h.os,h.output,h.size,h.block⟩
theorem Row.runes{w:World}{v:Value}{l:List Nat}(h:Row w 1 v l.length (oQ l)){g:Nat}(hg:blk v=some g):∃c,v=.slice (some ⟨g,0,none⟩) l.length c/\l.length<=c/\g<w.heap.size/\∀j (h:j<l.length),w.cell? ⟨g,0+j,none⟩=some (.int .i32 (l[j]:Int)):=by
 rcases h with ⟨rfl,_,_⟩|⟨g',c,rfl,h⟩
 ·cases hg
 obtain rfl:g'=g:=by simpa [blk] using hg
 refine ⟨c,rfl,h.le,h.lt,λj hj=>?_⟩
 rw [NV,h.holds j Kc]
 simp [oQ,hj]
theorem Upd.boxed{w w':World}{o:Obj}(h:Upd w.heap.size (w.alloc o) w'):Add w w':=⟨h.os,h.output,NM (ae w o).size h.size,λi hi=>(h.old i (NK hi (ae w o).size) Kc).trans ((ae w o).old i hi)⟩
theorem FX(t:ByteArray)(w:World)(hT:Tbl w)(hz:t.size<=70368744177000):
  Calls prog 47 #[.string t] w λe w'=>WPost (iN t) w e w':=by
 unfold iN
 by_cases h4:4000<t.size
 ·rw [if_pos h4]
  have t4:(4000<(t.size:Int))=True:=eq_true Kc
  have hit:=λW (h:Tbl W)=>nQ 4000 W Kc Kc h.pow
  clear h4 hz
  go_enter func47,ntmps47
  go_wp2_with (first
   |(go_at_call 68;refine (hit _ (hT.add (ae _ _))).mono ?_;rintro e w1 ⟨s1,rfl,hs1,ha1⟩)
   |(go_at_call 71;refine (ww _ _).mono ?_;rintro e w2 ⟨⟨v,rfl⟩,ha2⟩)
   |(go_at_call 70;refine (oZ _ _ _).mono ?_;rintro e w3 ⟨rfl,rfl⟩))
  exact ⟨rfl,⟨_,_,rfl⟩,((ae _ _).trans ha1).trans ha2⟩
 rw [if_neg h4]
 have t4:(4000<(t.size:Int))=False:=eq_false Kc
 have hvl:=λW (h:Tbl W)=>qy t W hz h.tabs
 cases hv:Lib.validD t.data.toList with
 |false=>
  rw [hv] at hvl
  rw [if_neg Ke]
  clear h4 hz
  go_enter func47,ntmps47
  go_wp2_with (first
   |(go_at_call 72;refine (hvl _ (hT.add (ae _ _))).mono ?_;rintro e w1 ⟨rfl,hb1⟩)
   |(go_at_call 71;refine (ww _ _).mono ?_;rintro e w2 ⟨⟨v,rfl⟩,ha2⟩)
   |(go_at_call 70;refine (oZ _ _ _).mono ?_;rintro e w3 ⟨rfl,rfl⟩))
  exact ⟨rfl,⟨_,_,rfl⟩,((ae _ _).trans (kD hb1)).trans ha2⟩
 |true=>
  rw [hv] at hvl
  rw [if_pos rfl]
  unfold yG
  have hrn:=λW=>BS t W Kc
  have hrl:(lI t).length<=4000:=NM (ou t t.size 0) Kc
  have hrm:=qY t t.size 0
  change ∀r∈lI t,r<=1114111 at hrm
  generalize lI t=rs at *
  have hval:=λW rb (h:Jr W rb rs rs)=>xA 32 (NL _) W rb rs rs 0 rfl h
  clear h4 hz hv
  have hbx:∀(W:World) (v:Value) (g:Nat),Tbl W->Row W 1 v rs.length (oQ rs)->blk v=some g->Jr (W.alloc (.cells #[v,.int .i64 0] 161)) W.heap.size rs rs:=by
   intro W v g hTW hrow hg
   obtain ⟨c,rfl,hc,hgl,hcs⟩:=hrow.runes hg
   have hh:=dD W (.cells #[.slice (some ⟨g,0,none⟩) rs.length c,.int .i64 0] 161)
   have ha:=ae W (.cells #[.slice (some ⟨g,0,none⟩) rs.length c,.int .i64 0] 161)
   exact ⟨g,0,c,0,rfl,NQ _,hrl,hc,hrm,hTW.ng,hgl,NK hgl ha.size,by unfold World.cell?;rw [hh];rfl,by unfold World.cell?;rw [hh];rfl,by unfold World.frozen?;rw [hh];rfl,λj hj=>ha.cell (hcs j hj),hTW.pow.add ha⟩
  cases hvv:iQ 32 rs with
  |none=>
   simp only [hvv] at hval
   go_enter func47,ntmps47
   go_wp2_with (first
    |(go_at_call 72;refine (hvl _ (hT.add (ae _ _))).mono ?_;rintro e w1 ⟨rfl,hb1⟩)
    |(go_at_call 73;refine (hrn _).mono ?_;rintro e w2 ⟨v2,rfl,hr2,⟨g2,hg2,hgl2⟩,ha2⟩;have hA2:=((ae w (.cells #[.int .i64 0,.int .i64 0,.string ⟨#[]⟩,.slice none 0 0,.slice none 0 0,.map none] 85 (0,0))).trans (kD hb1)).trans ha2;have hJ2:=hbx _ _ _ (hT.add hA2) hr2 hg2;obtain ⟨c2,rfl,-,-,-⟩:=hr2.runes hg2)
    |(go_at_call 74;refine (hval _ _ hJ2).mono ?_;rintro e w3 ⟨⟨T,v,rfl⟩,hu3⟩))
   refine ⟨rfl,⟨_,_,rfl⟩,?_⟩
   exact hA2.trans hu3.boxed
  |some y=>
   obtain ⟨j,l⟩:=y
   simp only [hvv] at hval
   show Calls _ _ _ _ λe w'=>WPost (if dK l=[] then some j else none) w e w'
   by_cases hsl:dK l=[]
   ·rw [if_pos hsl]
    have hJe:∀W rb,Jr W rb rs (dK l)->Calls prog 76 #[.pointer (some ⟨rb,0,none⟩)] W λe w'=>e=.returned (.int .i32 (-1))/\Add W w':=by
     intro W rb h
     have:=eD h
     rw [hsl] at this
     exact this
    clear hsl
    go_enter func47,ntmps47
    go_wp2_with (first
     |(go_at_call 76;refine (hJe _ _ hJ5).mono ?_;rintro e w6 ⟨rfl,ha6⟩;have hA6:=((hu3.trans ((ae w3 (.cells #[.int .i64 j.kindI,.int .i64 n6,.string t6,.slice a6 l6 c6,.slice na6 nl6 nc6,.map m6] 85 (0,0))).upd _)).trans (hu5.trans (ha6.upd _))).boxed;have hb0:=(((kD hb1).trans (ha2.trans hA6)).old w.heap.size Km).trans (dD w (.cells #[.int .i64 0,.int .i64 0,.string ⟨#[]⟩,.slice none 0 0,.slice none 0 0,.map none] 85 (0,0)));have hr3:=hJ3.rlt;have hb4:=((hu5.trans (ha6.upd _)).old w3.heap.size Km Kc).trans (dD w3 (.cells #[.int .i64 j.kindI,.int .i64 n6,.string t6,.slice a6 l6 c6,.slice na6 nl6 nc6,.map m6] 85 (0,0)));obtain ⟨p0,p1,p2,p3,p4,p5,pz⟩:=dF hb4;obtain ⟨q0,q1,q2,q3,q4,q5,qz⟩:=dF hb0)
     |(go_at_call 75;refine (ed (hJ3.add (ae _ _))).mono ?_;rintro e w5 ⟨rfl,hJ5,hu5⟩)
     |(go_at_call 74;refine (hval _ _ hJ2).mono ?_;rintro e w3 ⟨⟨cs,rfl,hcs⟩,hJ3,hu3⟩;obtain ⟨n6,t6,a6,na6,l6,c6,nl6,nc6,m6,rfl⟩:=J.lies_cells hcs;unfold jc)
     |(go_at_call 72;refine (hvl _ (hT.add (ae _ _))).mono ?_;rintro e w1 ⟨rfl,hb1⟩)
     |(go_at_call 73;refine (hrn _).mono ?_;rintro e w2 ⟨v2,rfl,hr2,⟨g2,hg2,hgl2⟩,ha2⟩;have hA2:=((ae w (.cells #[.int .i64 0,.int .i64 0,.string ⟨#[]⟩,.slice none 0 0,.slice none 0 0,.map none] 85 (0,0))).trans (kD hb1)).trans ha2;have hJ2:=hbx _ _ _ (hT.add hA2) hr2 hg2;obtain ⟨c2,rfl,-,-,-⟩:=hr2.runes hg2))
    have hsix:Six w6 w.heap.size:=Six.of_heap hb0
    obtain ⟨r0,r1,r2,r3,r4,r5⟩:=Y36
    have hw2:w.heap.size<w2.heap.size:=NK Km ((kD hb1).trans ha2).size
    have hAF:Add w (dV w6 w.heap.size (.int .i64 j.kindI) (.int .i64 n6) (.string t6) (.slice a6 l6 c6) (.slice na6 nl6 nc6) (.map m6)):=⟨(iF w6 w.heap.size (.int .i64 j.kindI) (.int .i64 n6) (.string t6) (.slice a6 l6 c6) (.slice na6 nl6 nc6) (.map m6)).trans (hA2.trans hA6).os,(eX w6 w.heap.size (.int .i64 j.kindI) (.int .i64 n6) (.string t6) (.slice a6 l6 c6) (.slice na6 nl6 nc6) (.map m6)).trans (hA2.trans hA6).output,by rw [dP];exact (hA2.trans hA6).size,λi hi=>(dI w6 w.heap.size (.int .i64 j.kindI) (.int .i64 n6) (.string t6) (.slice a6 l6 c6) (.slice na6 nl6 nc6) (.map m6) i Kc).trans ((hA2.trans hA6).old i hi)⟩
    have hK6:Keep (λb=>w2.heap.size<b) w3 w6:=⟨NM (ae w3 _).size (hu5.trans (ha6.upd _)).size,λi hi hl=>((hu5.trans (ha6.upd _)).old i (NK hl (ae w3 _).size) Kc).trans ((ae w3 _).old i hl)⟩
    have hLF:=sW (B0:=w.heap.size) (W:=w6) (bP (λb hb _=>by omega) _ _ (J.lies_carry hK6 _ _ (bP (λb hb _=>by rw [dE] at hb;omega) _ _ hcs))) (.int .i64 j.kindI) (.int .i64 n6) (.string t6) (.slice a6 l6 c6) (.slice na6 nl6 nc6) (.map m6)
    clear p0 p1 p2 p3 p4 p5 pz q0 q1 q2 q3 q4 q5 qz hsix hb0 hb4 hK6
    unfold dV at r0 r1 r2 r3 r4 r5 hAF hLF
    refine bodyPost_ret (v:=.agg #[.int .i64 j.kindI,.int .i64 n6,.string t6,.slice a6 l6 c6,.slice na6 nl6 nc6,.map m6]) (by simp [results,results47,go_sem,r0,r1,r2,r3,r4,r5]) rfl ?_
    exact ⟨⟨_,rfl,hLF⟩,hAF⟩
   rw [if_neg hsl]
   have hpk:(pk (dK l) != -1)=true:=by
    cases hc:dK l with
    |nil=>exact absurd hc hsl
    |cons r q=>
     show ((r:Int) != -1)=true
     exact bne_iff_ne.2 Kc
   clear hsl
   go_enter func47,ntmps47
   go_wp2_with (first
    |(go_at_call 76;refine (eD hJ5).mono ?_;rintro e w6 ⟨rfl,ha6⟩;have hJ6:=hJ5.add ha6)
    |(go_at_call 77;refine (hJ6.wrong _ Ke).mono ?_;rintro e w7 ⟨⟨T,v,rfl⟩,ha7⟩)
    |(go_at_call 75;refine (ed (hJ3.add (ae _ _))).mono ?_;rintro e w5 ⟨rfl,hJ5,hu5⟩)
    |(go_at_call 74;refine (hval _ _ hJ2).mono ?_;rintro e w3 ⟨⟨cs,rfl,hcs⟩,hJ3,hu3⟩;obtain ⟨n6,t6,a6,na6,l6,c6,nl6,nc6,m6,rfl⟩:=J.lies_cells hcs;unfold jc)
    |(go_at_call 72;refine (hvl _ (hT.add (ae _ _))).mono ?_;rintro e w1 ⟨rfl,hb1⟩)
    |(go_at_call 73;refine (hrn _).mono ?_;rintro e w2 ⟨v2,rfl,hr2,⟨g2,hg2,hgl2⟩,ha2⟩;have hA2:=((ae w (.cells #[.int .i64 0,.int .i64 0,.string ⟨#[]⟩,.slice none 0 0,.slice none 0 0,.map none] 85 (0,0))).trans (kD hb1)).trans ha2;have hJ2:=hbx _ _ _ (hT.add hA2) hr2 hg2;obtain ⟨c2,rfl,-,-,-⟩:=hr2.runes hg2))
   refine ⟨rfl,⟨_,_,rfl⟩,?_⟩
   exact hA2.trans ((hu3.trans ((ae w3 _).upd _)).trans ((hu5.trans (ha6.upd _)).trans (ha7.upd _))).boxed
end
end Go.Proofs.YtmphmjkinmkidaaGreatDoor
