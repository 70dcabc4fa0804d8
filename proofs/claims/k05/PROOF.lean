import PyProof.Rows.All
import Wide.All
import OpenK.AllK
import Wide.FinOn
import HandS.ForMost
import HandS.IsInst
import HandS.Exc
import HandS.TryOnly
import HandS.ExcOwn
import HandS.WordsExc
import HandS.RaiseMore
import HandS.Codes
import HandS.TupAny
import KE.KDictDisplayH
import HandS.IterVal
import KE.KDictCopyH
import HandS.DictEq
import HandS.DeepEq
import HandS.DictTup
import HandS.SortKw
import HandS.Conv
import HandS.DictComp
import HandS.SortRule
import HandS.SortInts
import HandS.TupMul
import PySem.Challenge.RW_steadhold_k05_streams
import HandS.Style
import HandS.Walk
set_option Elab.async false
set_option linter.all false
set_option maxRecDepth 100000
set_option maxHeartbeats 4000000
namespace My
open PySem L2
/-! ### rules that the layer lacks -/
section
variable {X : Cx}
/-- xs[i] as the read of xs[i] op= e -/
theorem get_list : PGet X (rIxL X.K) := fun pins s0 σ H o1 o2 u1 u2 Q I r1 r2 hh => by
  obtain ⟨l, xs, n, z, e1, e2, hl, hn, q⟩ := hh
  subst e1; subst e2
  cases r1
  obtain ⟨tk, e3⟩ := r2
  subst e3
  obtain ⟨us, rel, pll, _⟩ := I.list hl
  obtain ⟨j, c1, c2, _, c4, c5⟩ := atI_get hn
  obtain ⟨u, hu, ru⟩ := rel.get c2
  have len := rel.length
  have big := line63
  have goal : EP X pins σ Q u s0 := ⟨z, H, I, ru, q⟩
  rcases Int.lt_or_le n 0 with neg | pos
  · have hj : (n + (us.toArray.size : Int)).toNat = j := by
      rw [seqIndex_neg neg c4] at c1
      have c1' := Option.some.inj c1
      simpa [← len] using c1'
    exact PySem.wpAny_getItem_list_neg pll.isList neg (by simp; omega) (by omega) (by rw [hj]; simpa using hu) goal
  · have hj : n.toNat = j := by
      rw [seqIndex_of pos c5] at c1
      exact Option.some.inj c1
    exact PySem.wpAny_getItem_list pll.isList pos (by omega) (by rw [hj]; simpa using hu) goal
/-- a module's int, text -/
theorem pe_gint {x : Str} {i : Int} {pos : Pos} (hg : Gl X x) (hm : ∃ t, X.mg x = some (.int i t)) (hd : (x == ("__debug__" : Str)) = false := by decide) : PE X (.Name x pos) (tC (.int i)) := by
  obtain ⟨t, hm⟩ := hm
  exact pe_glob hg hm ⟨t, rfl⟩ hd
theorem pe_gstr {x i : Str} {pos : Pos} (hg : Gl X x) (hm : ∃ t, X.mg x = some (.str i t)) (hd : (x == ("__debug__" : Str)) = false := by decide) : PE X (.Name x pos) (tC (.str i)) := by
  obtain ⟨t, hm⟩ := hm
  exact pe_glob hg hm ⟨t, rfl⟩ hd
end
/-! ### rules with the written part named -/
def rLen (K : PySem.W.Frag) : List V → Hp → VK → Prop := fun xs H Q => ∃ p ys, xs = [.ref p] ∧ (SqL K H p ys ∨ SqT K H p ys) ∧ Q (.int ys.length) H
def rListOf (K : PySem.W.Frag) : List V → Hp → VK → Prop := fun xs H Q => ∃ p ys, xs = [.ref p] ∧ (SqL K H p ys ∨ SqT K H p ys) ∧ ∀ l, H l = none → Q (.ref l) (upd H l (.lst ys))
def rTupOf (K : PySem.W.Frag) : List V → Hp → VK → Prop := fun xs H Q => ∃ p ys, xs = [.ref p] ∧ ((SqL K H p ys ∧ ∀ l, H l = none → Q (.ref l) (upd H l (.tup ys))) ∨ (SqT K H p ys ∧ Q (.ref p) H))
section
variable {X : Cx} (K : PySem.W.Frag)
theorem kIxL (h : X.K = K := by rfl) : IxR X (rIxL K) := by subst h; exact ix_list
theorem kIxT (h : X.K = K := by rfl) : IxR X (rIxT K) := by subst h; exact ix_tup
theorem kGetL (h : X.K = K := by rfl) : PGet X (rIxL K) := by subst h; exact get_list
theorem kSlL (h : X.K = K := by rfl) : SlR X (rSlL K) := by subst h; exact sl_list
theorem kSlT (h : X.K = K := by rfl) : SlR X (rSlA K) := by subst h; exact sl_tupA
theorem kEqD (hu : X.A.units + 64 < cLine) (h : X.K = K := by rfl) : OpR X (compareOp .Eq) (rEqD K) := by subst h; exact op_eqD hu
theorem kNeD (hu : X.A.units + 64 < cLine) (h : X.K = K := by rfl) : OpR X (compareOp .NotEq) (rNeD K) := by subst h; exact op_neD hu
theorem kIn (h : X.K = K := by rfl) : OpR X (compareOp .In) (rIn K false) := by subst h; exact op_in_seq
theorem kNotIn (h : X.K = K := by rfl) : OpR X (compareOp .NotIn) (rIn K true) := by subst h; exact op_notIn_seq
theorem kCatT (h : X.K = K := by rfl) : OpR X (binaryOp .Add) (rCatA K) := by subst h; exact op_catA
theorem kLen (h : X.K = K := by rfl) : CallR X (.builtin "len") (rLen K) := by subst h; exact call_len_seq
theorem kListOf (h : X.K = K := by rfl) : CallR X (.type "list") (rListOf K) := by subst h; exact call_list_of
theorem kTupOf (h : X.K = K := by rfl) : CallR X (.type "tuple") (rTupOf K) := by subst h; exact call_tuple_of
theorem kIsi (h : X.K = K := by rfl) : CallR X (.builtin "isinstance") (rIsi K) := by subst h; exact call_isi
theorem kAll (hc : X.calm = true) (h : X.K = K := by rfl) : CallR X (.builtin "all") (rAll K) := by subst h; exact cr_all hc
theorem kAny (hc : X.calm = true) (h : X.K = K := by rfl) : CallR X (.builtin "any") (rAny K) := by subst h; exact cr_any hc
theorem kSum (hc : X.calm = true) (h : X.K = K := by rfl) : CallR X (.builtin "sum") (rSum K) := by subst h; exact cr_sum hc
theorem kSorted (h : X.K = K := by rfl) : CallR X (.builtin "sorted") (rSorted K) := by subst h; exact cr_sorted
theorem kIndex (h : X.K = K := by rfl) : MtR X "list.index" (rIndex K) := by subst h; exact mt_index
section
variable {tg l : Expr} {tl : TE} {pos : Pos}
theorem kpiL (hl : PE X l tl) (h : X.K = K := by rfl) : PI X tg l (iList K tl) := by subst h; exact pi_list hl
theorem kpiT (hl : PE X l tl) (h : X.K = K := by rfl) : PI X tg l (iTup K tl) := by subst h; exact pi_tup hl
theorem kpgT {es : List Expr} {k : Nat} {t : TGs} {n : Nat} (hc : X.calm = true) (hh : PGs X es t)
    (hn : (assignEach es X.env).length = n := by rfl) (hst : (assignEach es X.env).findIdx? (·.1) = none := by rfl) (h : X.K = K := by rfl) : PG X (.Tuple es k pos) (gTup K n t) := by subst h; exact pg_tup hc hh hn hst
theorem kBM0 {o : Expr} {to : TE} {name : Str} {apos cpos : Pos} {T id : String} {r : V → List V → Hp → VK → Prop} (pa : PlainAttrs T) (slot : Slot T name id) (hty : typeOf (.builtin id) = pure (.type "method_descriptor")) (hm : MtR X id r) (ho : PE X o to)
    (hbase : attributeBase o name X.env (eval o X.env) = eval o X.env := by rfl) (hline : (apos.endLine == cpos.line) = true := by rfl) (h : X.K = K := by rfl) : PE X (.Call (.Attribute o name apos) [] [] cpos) (tBM0 K T r to) := by
  subst h; exact pe_bm0 pa slot hty hm ho hbase hline
theorem kBM {o e : Expr} {es : List Expr} {to : TE} {t : TA} {name : Str} {apos cpos : Pos} {T id : String} {r : V → List V → Hp → VK → Prop} (pa : PlainAttrs T) (slot : Slot T name id) (hty : typeOf (.builtin id) = pure (.type "method_descriptor")) (hm : MtR X id r) (ho : PE X o to) (ha : PA X (e :: es) t)
    (hbase : attributeBase o name X.env (eval o X.env) = eval o X.env := by rfl)
    (hfew : ((backTo cpos (starEach (e :: es) X.env)).all (fun x => !x.1) && (backToKw cpos (keywordEach [] X.env)).all (fun x => x.1.isSome)
      && decide ((e :: es).length + ([] : List Keyword).length + (if ([] : List Keyword).isEmpty then 0 else 1) < 30)) = true := by rfl)
    (hline : (apos.endLine == cpos.line) = true := by rfl) (hs : starEach (e :: es) X.env = (false, eval e X.env) :: starEach es X.env := by rfl) (hplain : (backTo cpos (starEach es X.env)).any (·.1) = false := by rfl) (h : X.K = K := by rfl) :
    PE X (.Call (.Attribute o name apos) (e :: es) [] cpos) (tBM K T r to t) := by
  subst h; exact pe_bm pa slot hty hm ho ha hbase hfew hline hs hplain
theorem kSFld {o value : Expr} {f : Str} {pos' : Pos} {ta tv : TE} (ha : PE X o ta) (hv : PE X value tv) (hs : swapsWith value (some (.Attribute o f pos')) pos.line X.env = pure false) (h : X.K = K := by rfl) : PS X (.Assign [.Attribute o f pos'] value pos) (sFld K ta tv f) := by subst h; exact ps_fld ha hv hs
theorem kSFldA {o value : Expr} {f : Str} {tpos : Pos} {ta tv : TE} {op : Operator} {rd : V → V → Hp → VK → Prop} (ha : PE X o ta) (hv : PE X value tv) (hop : InOp X op rd) (h : X.K = K := by rfl) : PS X (.AugAssign (.Attribute o f tpos) op value pos) (sFldAug K ta tv rd f) := by subst h; exact ps_fldaug ha hv hop
theorem kFld {f : Str} (he : PE X l tl) (hb : attributeBase l f X.env (eval l X.env) = eval l X.env) (h : X.K = K := by rfl) : PE X (.Attribute l f pos) (tFld K tl f) := by subst h; exact pe_fld he hb
end
end
/-! ### xs.count(y), flat items -/
theorem countP_eqU {x : V} {v : Value} (rx : RelV x v) : ∀ {xs : List V} {us : List Value}, Vals xs us → xs.all flatV = true → us.countP (eqU x) = xs.countP fun y => eqV y x
  | _, _, .nil, _ => rfl
  | y :: xs, u :: us, .cons r t, f => by
    rw [List.all_cons, Bool.and_eq_true] at f
    rw [List.countP_cons, List.countP_cons, countP_eqU rx t f.2, eqU_of r f.1]
def rCount (K : PySem.W.Frag) : V → List V → Hp → VK → Prop := fun x vs H Q => ∃ (p : Addr) (xs : List V) (y : V), x = .ref p ∧ vs = [y] ∧ SqL K H p xs ∧ flatV y = true ∧ xs.all flatV = true ∧ Q (.int (xs.countP (fun z => eqV z y) : Nat)) H
theorem kCount {X : Cx} (K : PySem.W.Frag) (h : X.K = K := by rfl) : MtR X "list.count" (rCount K) := by
  subst h
  intro pins s0 σ H x vs u us Q I r1 r2 hh
  obtain ⟨p, xs, y, rfl, rfl, hl, fy, fx, q⟩ := hh
  cases r1
  cases r2 with
  | cons ry rn =>
    cases rn
    obtain ⟨ws, rel, ⟨⟨c0, d0, dat, sl0⟩, n, ho, hc, _, hd⟩, _⟩ := I.list hl
    dsimp only at hc hd
    subst hc hd
    refine call_meets PySem.F.slot_list_count ⟨_, ho, rfl⟩ PySem.F.entry_list_count (PySem.F.args_list_count_2 _ _)
      (SeqAt.list_countAt p ws.toArray n d0 sl0 _ (eqU y)) ⟨ho, fun z hz => mem_eqAt ry fy rel fx z (by simpa using hz), ?_⟩
    refine ⟨.int (xs.countP (fun z => eqV z y) : Nat), H, I.tok _, ⟨s0.toks, ?_⟩, q⟩
    rw [← countP_eqU ry rel fx]
/-! ### a def by its name -/
section
variable {P : Program} {w : World} {K : PySem.W.Frag} {mg : Str → Option Value} {base : Heap}
structure Dfn (P : Program) (w : World) (K : PySem.W.Frag) (mg : Str → Option Value) (base : Heap) (CX : CXT) (k : Nat) (x : Str) (ps : List Str) (sp : Sp) : Prop where
  ex : ∃ f fd, FnOk P w K mg base CX k f fd ps sp ∧ mg x = some (.ref f) ∧ PySem.W.keepIn K (.ref f) = true ∧ Binds K fd ps []
theorem Dfn.imp {CX : CXT} {k : Nat} {x : Str} {ps : List Str} {sp sp' : Sp} (D : Dfn P w K mg base CX k x ps sp) (h : ∀ vs H Q E, sp' vs H Q E → sp vs H Q E) : Dfn P w K mg base CX k x ps sp' := by
  obtain ⟨f, fd, F, a, b, c⟩ := D.ex
  exact ⟨f, fd, F.imp h, a, b, c⟩
end
section
variable {X : Cx} {CX : CXT} {k : Nat} {x : Str} {ps : List Str} {sp : Sp} {E : XK} {t : TA} {e : Expr} {es : List Expr} {p pos : Pos}
theorem pe_dcall (D : Dfn X.prog X.w X.K X.mg X.base CX k x ps sp) (hr : Room k X.A) (hg : Gl X x) (hx : Passes CX X E) (ha : PA X (e :: es) t) (hdb : (x == ("__debug__" : Str)) = false := by decide)
    (he : starEach (e :: es) X.env = (false, eval e X.env) :: starEach es X.env := by rfl) (hpl : (backTo pos (starEach es X.env)).any (·.1) = false := by rfl) : PE X (.Call (.Name x p) (e :: es) [] pos) (tCall sp [] E t) := by
  obtain ⟨f, fd, F, hm, hk, hb⟩ := D.ex
  exact pe_call F hr hg hm hk hb .nil hx ha hdb he hpl
theorem pe_dcall0 (D : Dfn X.prog X.w X.K X.mg X.base CX k x ps sp) (hr : Room k X.A) (hg : Gl X x) (hx : Passes CX X E) (hdb : (x == ("__debug__" : Str)) = false := by decide) : PE X (.Call (.Name x p) [] [] pos) (tCall sp [] E tNil) := by
  obtain ⟨f, fd, F, hm, hk, hb⟩ := D.ex
  exact pe_call0 F hr hg hm hk hb .nil hx hdb
end
/-! ### own errors, objects, methods by their names -/
/-- an own error class without an __init__, over ValueError -/
structure Exn (K : PySem.W.Frag) (mg : Str → Option Value) (x : Str) (C : Addr) : Prop where
  gC : mg x = some (.ref C)
  kC : PySem.W.keepIn K (.ref C) = true
  xI : PySem.W.excIn K C [.type "ValueError", .type "Exception", .type "BaseException", .type "object"] "ValueError.__new__" = true
  bE : PySem.W.subIn K (.ref C) (.type "BaseException") = some true
  tE : PySem.W.typeIn K (.ref C) = some (.type "type")
  eE : PySem.W.exmOne K (.ref C) (.ref C) = some true
section
variable {X : Cx} {C : Addr} {x : Str} {p pos : Pos}
/-- X() of such a class -/
theorem pmk_x (N : Exn X.K X.mg x C) (hg : Gl X x) (hdb : (x == ("__debug__" : Str)) = false := by decide) : PMk X (.Call (.Name x p) [] [] pos) (fun _ H Q => Q (.ref C) none H) := fun pins s σ H Q I h => by
  refine wpAny_Call_Name_kw (ld_glob I hg N.gC ?_ hdb)
  refine PySem.W.callWith_K0 (first := []) I.kIn N.kC ?_
  obtain ⟨m1, m2, m3, m4, m5, m6, m7, m8, m9, m10, m11, r0, r1, r2, r3, r4, mN, hC, hN, hi, tl⟩ := exc_obj I.kIn N.xI
  exact wpAny_call_exc_subT PySem.F.excBase_ValueError tl hC hN hi (fun _ _ made => mk_of I made (raises_own N.bE N.tE) h (I.hok.gone made.new)) (Nat.zero_le _)
end
section
variable {P : Program} {w : World} {K : PySem.W.Frag} {mg : Str → Option Value} {base : Heap}
/-- a method of the class at C -/
structure Mth (P : Program) (w : World) (K : PySem.W.Frag) (mg : Str → Option Value) (base : Heap) (CX : CXT) (k : Nat) (C : Addr) (m : Str) (ps : List Str) (sp : Sp) : Prop where
  ex : ∃ f fd, FnOk P w K mg base CX k f fd ps sp ∧ Meth K C m f ∧ Binds K fd ps [] ∧ Cls K C
/-- the making of its instances -/
structure Mkr (P : Program) (w : World) (K : PySem.W.Frag) (mg : Str → Option Value) (base : Heap) (CX : CXT) (k : Nat) (x : Str) (C : Addr) (ps : List Str) (sp : Sp) : Prop where
  ex : ∃ f fd, Mk K C f ∧ FnOk P w K mg base CX k f fd ps sp ∧ Binds K fd ps [] ∧ mg x = some (.ref C)
end
section
variable {X : Cx} {CX : CXT} {k : Nat} {C : Addr} {m x : Str} {ps : List Str} {sp : Sp} {E : XK} {t : TA} {ta : TE} {e o : Expr} {es : List Expr} {p pos apos : Pos}
theorem pe_dmeth {pl : Sem Bool} (he : PE X o ta) (D : Mth X.prog X.w X.K X.mg X.base CX k C m ps sp) (hr : Room k X.A) (hx : Passes CX X E) (ha : PA X (e :: es) t)
    (hst : starEach (e :: es) X.env = (false, eval e X.env) :: starEach es X.env := by rfl) (hpl : (backTo pos (starEach es X.env)).any (·.1) = false := by rfl)
    (ht : eval (.Call (.Attribute o m apos) (e :: es) [] pos) X.env = (do
      let ov ← eval o X.env
      standAt apos.atName
      let (f, first) ← holding [ov] (getMethod ov m pl)
      callWith pos f first (backTo pos (starEach (e :: es) X.env)) (backToKw pos (keywordEach [] X.env))) := by rfl) :
    PE X (.Call (.Attribute o m apos) (e :: es) [] pos) (tMeth C m sp [] E ta t) := by
  obtain ⟨f, fd, F, hm, hb, c⟩ := D.ex
  exact pe_meth (pl := pl) he c hm F hr hb .nil hx ha hst hpl ht
theorem pe_dmeth0 {pl : Sem Bool} (he : PE X o ta) (D : Mth X.prog X.w X.K X.mg X.base CX k C m ps sp) (hr : Room k X.A) (hx : Passes CX X E)
    (ht : eval (.Call (.Attribute o m apos) [] [] pos) X.env = (do
      let ov ← eval o X.env
      standAt apos.atName
      let (f, first) ← holding [ov] (getMethod ov m pl)
      callWith pos f first (backTo pos (starEach [] X.env)) (backToKw pos (keywordEach [] X.env))) := by rfl) :
    PE X (.Call (.Attribute o m apos) [] [] pos) (tMeth C m sp [] E ta tNil) := by
  obtain ⟨f, fd, F, hm, hb, c⟩ := D.ex
  exact pe_meth0 (pl := pl) he c hm F hr hb .nil hx ht
theorem pe_dmake (D : Mkr X.prog X.w X.K X.mg X.base CX k x C ps sp) (hr : Room (k + 1) X.A) (hg : Gl X x) (hx : Passes CX X E) (ha : PA X (e :: es) t) (hdb : (x == ("__debug__" : Str)) = false := by decide)
    (he : starEach (e :: es) X.env = (false, eval e X.env) :: starEach es X.env := by rfl) (hpl : (backTo pos (starEach es X.env)).any (·.1) = false := by rfl) : PE X (.Call (.Name x p) (e :: es) [] pos) (tMake C sp [] E t) := by
  obtain ⟨f, fd, M, F, hb, hm⟩ := D.ex
  exact pe_make M F hr hg hm hb .nil hx ha hdb he hpl
/-- out of a try's body: what is wished at all slots -/
abbrev EA (W : WX) : XK := fun cls d H => ∀ σ, W cls d σ H
theorem passT {W : WX} (tk : Takes X W) : Passes (L2.CX X.prog X.w) X (EA W) := passes_call tk fun _ _ σ _ h => h σ
end
/-! ### heaps -/
/-- all but a is kept -/
def Chg (a : Addr) (H H' : Hp) : Prop := ∀ b o, b ≠ a → H b = some o → H' b = some o
/-- tuples never change -/
def TS (H H' : Hp) : Prop := ∀ b xs, H b = some (.tup xs) → H' b = some (.tup xs)
theorem TS.refl (H : Hp) : TS H H := fun _ _ h => h
theorem TS.trans {H H1 H2 : Hp} (a : TS H H1) (b : TS H1 H2) : TS H H2 := fun c xs h => b c xs (a c xs h)
theorem Same.ts {H H' : Hp} (s : Same H H') : TS H H' := fun b xs h => s b _ h
theorem Chg.refl (a : Addr) (H : Hp) : Chg a H H := fun _ _ _ h => h
theorem Chg.trans {a : Addr} {H H1 H2 : Hp} (x : Chg a H H1) (y : Chg a H1 H2) : Chg a H H2 := fun b o n h => y b o n (x b o n h)
theorem Same.chg {a : Addr} {H H' : Hp} (s : Same H H') : Chg a H H' := fun b o _ h => s b o h
theorem Same.new {H : Hp} {p : Addr} {o : HO} (h : H p = none) : Same H (upd H p o) := fun b u e => by
  rw [upd_ne (ne_of_none e h)]
  exact e
theorem Chg.upd {a : Addr} {H : Hp} {o : HO} : Chg a H (upd H a o) := fun b u n e => by
  rw [upd_ne n]
  exact e
theorem Chg.ts {a : Addr} {H H' : Hp} {xs : List V} (c : Chg a H H') (h : H a = some (.lst xs)) : TS H H' := fun b ys e => c b _ (ne_of e h (by intro z; cases z)) e
/-- a new object may change at will -/
theorem Same.mut {H H' : Hp} {p : Addr} {o : HO} (s : Same H H') (h : H p = none) : Same H (L2.upd H' p o) := fun b u e => by
  rw [upd_ne (ne_of_none e h)]
  exact s b u e
theorem Chg.mut {a : Addr} {H H' : Hp} {p : Addr} {o : HO} (s : Chg a H H') (h : H p = none) : Chg a H (L2.upd H' p o) := fun b u n e => by
  rw [upd_ne (ne_of_none e h)]
  exact s b u n e
/-- a word that the steps do not look into -/
@[irreducible] def Hide (p : Prop) : Prop := p
theorem hide {p : Prop} (h : p) : Hide p := by unfold Hide; exact h
theorem Hide.out {p : Prop} (h : Hide p) : p := by unfold Hide at h; exact h
/-! ### small lemmas of readings -/
theorem iteD {c : Prop} [Decidable c] {A B : Prop} (h1 : c → A) (h2 : ¬ c → B) : if decide c = true then A else B := by
  by_cases h : c
  · rw [if_pos (decide_eq_true h)]; exact h1 h
  · rw [if_neg (by rw [decide_eq_false h]; decide)]; exact h2 h
theorem iteDn {c : Prop} [Decidable c] {A B : Prop} (h1 : ¬ c → A) (h2 : c → B) : if (!decide c) = true then A else B := by
  by_cases h : c
  · rw [if_neg (by rw [decide_eq_true h]; decide)]; exact h2 h
  · rw [if_pos (by rw [decide_eq_false h]; rfl)]; exact h1 h
theorem iteB {b : Bool} {A B : Prop} (h1 : b = true → A) (h2 : b = false → B) : if b = true then A else B := by
  cases b
  · rw [if_neg Bool.false_ne_true]; exact h2 rfl
  · rw [if_pos rfl]; exact h1 rfl
theorem at0 {a : V} {l : List V} : atI (a :: l) 0 = some a := by
  rw [show (0 : Int) = ((0 : Nat) : Int) from rfl]; exact atI_nat (by rfl)
theorem atC {xs : List V} {i : Int} {v : V} (j : Nat) (e : i = (j : Int)) (h : xs[j]? = some v) : atI xs i = some v := by rw [e]; exact atI_nat h
theorem ixC {n : Nat} {i : Int} (j : Nat) (e : i = (j : Int)) (h : j < n) : ixN n i = some j := by
  subst e
  unfold ixN
  rw [if_pos (by omega), if_pos (by omega)]
  simp
theorem szl {n : Nat} (h : Nat.ble n 100 = true) : n ≤ sizeLine := Nat.le_trans (Nat.le_of_ble_eq_true h) (by decide)
theorem szn {n : Nat} (h : n ≤ 100000) : n ≤ sizeLine := Nat.le_trans h (by decide)
theorem szt {n : Nat} (h : n < 100000) : n < sizeLine := Nat.lt_of_lt_of_le h (by decide)
/-! ### data over the heap -/
mutual
inductive Dt (H : Hp) : V → PyData → Prop
  | non : Dt H .non .none
  | bl (b : Bool) : Dt H (.bl b) (.bool b)
  | int (i : Int) : Dt H (.int i) (.int i)
  | str (x : Str) : Dt H (.str x) (.str x)
  | lst {a : Addr} {xs : List V} {ds : List PyData} : H a = some (.lst xs) → DtAll H xs ds → Dt H (.ref a) (.list ds)
  | tup {a : Addr} {xs : List V} {ds : List PyData} : H a = some (.tup xs) → DtAll H xs ds → Dt H (.ref a) (.tuple ds)
inductive DtAll (H : Hp) : List V → List PyData → Prop
  | nil : DtAll H [] []
  | cons {v : V} {vs : List V} {d : PyData} {ds : List PyData} : Dt H v d → DtAll H vs ds → DtAll H (v :: vs) (d :: ds)
end
mutual
def tonly : PyData → Bool
  | .list _ => false
  | .dict _ => false
  | .tuple xs => tonlyAll xs
  | _ => true
def tonlyAll : List PyData → Bool
  | [] => true
  | x :: xs => tonly x && tonlyAll xs
end
mutual
theorem Dt.same {H H' : Hp} (s : Same H H') : ∀ {d : PyData} {v : V}, Dt H v d → Dt H' v d
  | .none, _, h => by cases h; exact .non
  | .bool b, _, h => by cases h; exact .bl b
  | .int i, _, h => by cases h; exact .int i
  | .str x, _, h => by cases h; exact .str x
  | .list ds, _, h => by
    cases h with
    | lst ha hs => exact .lst (s _ _ ha) (DtAll.same s hs)
  | .tuple ds, _, h => by
    cases h with
    | tup ha hs => exact .tup (s _ _ ha) (DtAll.same s hs)
  | .dict _, _, h => by cases h
theorem DtAll.same {H H' : Hp} (s : Same H H') : ∀ {ds : List PyData} {vs : List V}, DtAll H vs ds → DtAll H' vs ds
  | [], _, h => by cases h; exact .nil
  | d :: ds, _, h => by
    cases h with
    | cons h1 h2 => exact .cons (Dt.same s h1) (DtAll.same s h2)
end
mutual
theorem Dt.ts {H H' : Hp} (s : TS H H') : ∀ {d : PyData} {v : V}, tonly d = true → Dt H v d → Dt H' v d
  | .none, _, _, h => by cases h; exact .non
  | .bool b, _, _, h => by cases h; exact .bl b
  | .int i, _, _, h => by cases h; exact .int i
  | .str x, _, _, h => by cases h; exact .str x
  | .list ds, _, t, h => by unfold tonly at t; cases t
  | .tuple ds, _, t, h => by
    unfold tonly at t
    cases h with
    | tup ha hs => exact .tup (s _ _ ha) (DtAll.ts s t hs)
  | .dict _, _, _, h => by cases h
theorem DtAll.ts {H H' : Hp} (s : TS H H') : ∀ {ds : List PyData} {vs : List V}, tonlyAll ds = true → DtAll H vs ds → DtAll H' vs ds
  | [], _, _, h => by cases h; exact .nil
  | d :: ds, _, t, h => by
    unfold tonlyAll at t
    rw [Bool.and_eq_true] at t
    cases h with
    | cons h1 h2 => exact .cons (Dt.ts s t.1 h1) (DtAll.ts s t.2 h2)
end
mutual
theorem Dt.dp {K : PySem.W.Frag} {H : Hp} : ∀ {d : PyData} {v : V}, Dt H v d → Dp K H v d
  | .none, _, h => by cases h; exact .non
  | .bool b, _, h => by cases h; exact .bl b
  | .int i, _, h => by cases h; exact .int i
  | .str x, _, h => by cases h; exact .str x
  | .list ds, _, h => by
    cases h with
    | lst ha hs => exact .lst (SqL.of ha) (DtAll.dp hs)
  | .tuple ds, _, h => by
    cases h with
    | tup ha hs => exact .tup (SqT.of ha) (DtAll.dp hs)
  | .dict _, _, h => by cases h
theorem DtAll.dp {K : PySem.W.Frag} {H : Hp} : ∀ {ds : List PyData} {vs : List V}, DtAll H vs ds → DpAll K H vs ds
  | [], _, h => by cases h; exact .nil
  | d :: ds, _, h => by
    cases h with
    | cons h1 h2 => exact .cons (Dt.dp h1) (DtAll.dp h2)
end
theorem DtAll.len {H : Hp} : ∀ {ds : List PyData} {vs : List V}, DtAll H vs ds → vs.length = ds.length
  | [], _, h => by cases h; rfl
  | d :: ds, _, h => by
    cases h with
    | cons h1 h2 => rw [List.length_cons, List.length_cons, DtAll.len h2]
theorem DtAll.get {H : Hp} : ∀ {ds : List PyData} {vs : List V} {i : Nat} {d : PyData}, DtAll H vs ds → ds[i]? = some d → ∃ v, vs[i]? = some v ∧ Dt H v d
  | [], _, i, d, h, e => by simp at e
  | d :: ds, _, 0, d', h, e => by
    cases h with
    | cons h1 h2 => simp at e; subst e; exact ⟨_, rfl, h1⟩
  | d :: ds, _, i + 1, d', h, e => by
    cases h with
    | cons h1 h2 =>
      obtain ⟨v, a, b⟩ := DtAll.get (i := i) h2 (by simpa using e)
      exact ⟨v, by simpa using a, b⟩
theorem DtAll.getV {H : Hp} : ∀ {ds : List PyData} {vs : List V} {i : Nat} {v : V}, DtAll H vs ds → vs[i]? = some v → ∃ d, ds[i]? = some d ∧ Dt H v d
  | [], _, i, d, h, e => by cases h; simp at e
  | d :: ds, _, 0, d', h, e => by
    cases h with
    | cons h1 h2 => simp at e; subst e; exact ⟨_, rfl, h1⟩
  | d :: ds, _, i + 1, d', h, e => by
    cases h with
    | cons h1 h2 =>
      obtain ⟨v, a, b⟩ := DtAll.getV (i := i) h2 (by simpa using e)
      exact ⟨v, by simpa using a, b⟩
theorem DtAll.append {H : Hp} : ∀ {ds es : List PyData} {vs us : List V}, DtAll H vs ds → DtAll H us es → DtAll H (vs ++ us) (ds ++ es)
  | [], _, _, _, h, h' => by cases h; exact h'
  | d :: ds, _, _, _, h, h' => by
    cases h with
    | cons h1 h2 => exact .cons h1 (DtAll.append h2 h')
/-! ### data that == may look at -/
theorem lay_all : ∀ {ds : List PyData}, (∀ d ∈ ds, d.canLay0 = true) → PyData.canLayAll0 ds = true
  | [], _ => by rw [PyData.canLayAll0]
  | d :: ds, h => by
    rw [PyData.canLayAll0, h d List.mem_cons_self, lay_all fun e he => h e (List.mem_cons_of_mem _ he)]; rfl
theorem dep_all {n : Nat} : ∀ {ds : List PyData}, (∀ d ∈ ds, d.depth ≤ n) → PyData.depthAll ds ≤ n
  | [], _ => by rw [PyData.depthAll]; exact Nat.zero_le _
  | d :: ds, h => by
    rw [PyData.depthAll]
    exact Nat.max_le.mpr ⟨h d List.mem_cons_self, dep_all fun e he => h e (List.mem_cons_of_mem _ he)⟩
/-- shaped, of so little depth -/
def Sh (n : Nat) (d : PyData) : Prop := d.canLay0 = true ∧ d.depth ≤ n
theorem Sh.int (n : Nat) (i : Int) : Sh n (.int i) := ⟨by rw [PyData.canLay0], by rw [PyData.depth]; exact Nat.zero_le _⟩
theorem Sh.bool (n : Nat) (i : Bool) : Sh n (.bool i) := ⟨by rw [PyData.canLay0], by rw [PyData.depth]; exact Nat.zero_le _⟩
theorem Sh.none (n : Nat) : Sh n .none := ⟨by rw [PyData.canLay0], by rw [PyData.depth]; exact Nat.zero_le _⟩
theorem Sh.tup {n : Nat} {ds : List PyData} (h : ∀ d ∈ ds, Sh n d) : Sh (n + 1) (.tuple ds) := ⟨by rw [PyData.canLay0]; exact lay_all fun d hd => (h d hd).1, by rw [PyData.depth]; exact Nat.succ_le_succ (dep_all fun d hd => (h d hd).2)⟩
theorem Sh.lst {n : Nat} {ds : List PyData} (h : ∀ d ∈ ds, Sh n d) : Sh (n + 1) (.list ds) := ⟨by rw [PyData.canLay0]; exact lay_all fun d hd => (h d hd).1, by rw [PyData.depth]; exact Nat.succ_le_succ (dep_all fun d hd => (h d hd).2)⟩
theorem Sh.ok {n : Nat} {d : PyData} (h : Sh n d) (hn : n ≤ 64 := by decide) : SeqAt.shaped d = true := by
  unfold SeqAt.shaped
  rw [h.1, decide_eq_true (Nat.le_trans h.2 hn)]; rfl
def tyName : PyData → String
  | .none => "NoneType"
  | .bool _ => "bool"
  | .int _ => "int"
  | .str _ => "str"
  | .list _ => "list"
  | .tuple _ => "tuple"
  | .dict _ => "dict"
theorem Dt.ty {K : PySem.W.Frag} {H : Hp} : ∀ {d : PyData} {v : V}, Dt H v d → TyX K H v (.type (tyName d))
  | .none, _, h => by cases h; exact .base .non
  | .bool b, _, h => by cases h; exact .base (.bl b)
  | .int i, _, h => by cases h; exact .base (.int i)
  | .str x, _, h => by cases h; exact .base (.str x)
  | .list ds, _, h => by
    cases h with
    | lst ha hs => exact .base (.lst ha)
  | .tuple ds, _, h => by
    cases h with
    | tup ha hs => exact .base (.tup ha)
  | .dict _, _, h => by cases h
def isNoneD : PyData → Bool
  | .none => true
  | _ => false
theorem Dt.isNon {H : Hp} {d : PyData} {v : V} (h : Dt H v d) : decide (v = V.non) = isNoneD d := by
  cases h <;> rfl
def isIntD : PyData → Bool
  | .int _ => true
  | .bool _ => true
  | _ => false
def isBoolD : PyData → Bool
  | .bool _ => true
  | _ => false
def isTupD : PyData → Bool
  | .tuple _ => true
  | _ => false
def isListD : PyData → Bool
  | .list _ => true
  | _ => false
theorem kitInt : ∀ d : PyData, kitB (tyName d) "int" = some (isIntD d)
  | .none => (by decide +kernel : kitB "NoneType" "int" = some false)
  | .bool _ => (by decide +kernel : kitB "bool" "int" = some true)
  | .int _ => (by decide +kernel : kitB "int" "int" = some true)
  | .str _ => (by decide +kernel : kitB "str" "int" = some false)
  | .list _ => (by decide +kernel : kitB "list" "int" = some false)
  | .tuple _ => (by decide +kernel : kitB "tuple" "int" = some false)
  | .dict _ => (by decide +kernel : kitB "dict" "int" = some false)
theorem kitBool : ∀ d : PyData, kitB (tyName d) "bool" = some (isBoolD d)
  | .none => (by decide +kernel : kitB "NoneType" "bool" = some false)
  | .bool _ => (by decide +kernel : kitB "bool" "bool" = some true)
  | .int _ => (by decide +kernel : kitB "int" "bool" = some false)
  | .str _ => (by decide +kernel : kitB "str" "bool" = some false)
  | .list _ => (by decide +kernel : kitB "list" "bool" = some false)
  | .tuple _ => (by decide +kernel : kitB "tuple" "bool" = some false)
  | .dict _ => (by decide +kernel : kitB "dict" "bool" = some false)
theorem kitTup : ∀ d : PyData, kitB (tyName d) "tuple" = some (isTupD d)
  | .none => (by decide +kernel : kitB "NoneType" "tuple" = some false)
  | .bool _ => (by decide +kernel : kitB "bool" "tuple" = some false)
  | .int _ => (by decide +kernel : kitB "int" "tuple" = some false)
  | .str _ => (by decide +kernel : kitB "str" "tuple" = some false)
  | .list _ => (by decide +kernel : kitB "list" "tuple" = some false)
  | .tuple _ => (by decide +kernel : kitB "tuple" "tuple" = some true)
  | .dict _ => (by decide +kernel : kitB "dict" "tuple" = some false)
theorem kitList : ∀ d : PyData, kitB (tyName d) "list" = some (isListD d)
  | .none => (by decide +kernel : kitB "NoneType" "list" = some false)
  | .bool _ => (by decide +kernel : kitB "bool" "list" = some false)
  | .int _ => (by decide +kernel : kitB "int" "list" = some false)
  | .str _ => (by decide +kernel : kitB "str" "list" = some false)
  | .list _ => (by decide +kernel : kitB "list" "list" = some true)
  | .tuple _ => (by decide +kernel : kitB "tuple" "list" = some false)
  | .dict _ => (by decide +kernel : kitB "dict" "list" = some false)
theorem r_isi {K : PySem.W.Frag} {H : Hp} {v : V} {d : PyData} {T : String} {b : Bool} {Q : VK} (h : Dt H v d) (e : kitB (tyName d) T = some b) (k : Q (.bl b) H) : rIsi K [v, .ty T] H Q :=
  ⟨_, _, _, _, _, rfl, .ty _, h.ty, kit_ty e, k⟩
/-- lo ≤ i ≤ hi, of a whole number -/
def isI (d : PyData) (lo hi : Int) : Bool := match d with
  | .int i => decide (lo ≤ i) && decide (i ≤ hi)
  | _ => false
def geI (d : PyData) (lo : Int) : Bool := match d with
  | .int i => decide (lo ≤ i)
  | _ => false
def spGe : Sp := fun vs H Q _ => ∃ v d lo, vs = [v, .int lo] ∧ Dt H v d ∧ Q (.bl (geI d lo)) H
def spBtw : Sp := fun vs H Q _ => ∃ v d lo hi, vs = [v, .int lo, .int hi] ∧ Dt H v d ∧ Q (.bl (isI d lo hi)) H
def spIdx : Sp := fun vs H Q _ => ∃ v d n, vs = [v, .int n] ∧ Dt H v d ∧ Q (.bl (isI d 0 (n - 1))) H
def spWord : Sp := fun vs H Q _ => ∃ v d, vs = [v] ∧ Dt H v d ∧ Q (.bl (isI d 0 4294967295)) H
theorem Dt.new {H : Hp} {p : Addr} {xs : List V} {ds : List PyData} (h : DtAll H xs ds) (hp : H p = none) : Dt (upd H p (.tup xs)) (.ref p) (.tuple ds) := .tup upd_same (h.same (Same.new hp))
/-- t + u of data -/
theorem r_catD {K : PySem.W.Frag} {H : Hp} {v u : V} {ds es : List PyData} {Q : VK} (h1 : Dt H v (.tuple ds)) (h2 : Dt H u (.tuple es)) (hz : ds.length + es.length ≤ 100000) (k : ∀ v' H', Same H H' → Dt H' v' (.tuple (ds ++ es)) → Q v' H') : rCatA K v u H Q := by
  cases h1 with
  | @tup a xs _ ha hs =>
    cases h2 with
    | @tup b ys _ hb ht =>
      refine ⟨a, b, xs, ys, rfl, rfl, SqT.of ha, SqT.of hb, szn (by rw [hs.len, ht.len]; exact hz), fun e => ?_, fun _ e => ?_, fun _ _ p hp => ?_⟩
      · subst e
        have : ds = [] := List.length_eq_zero_iff.mp (by rw [← hs.len]; rfl)
        subst this
        exact k _ _ (Same.refl H) (.tup hb ht)
      · subst e
        have : es = [] := List.length_eq_zero_iff.mp (by rw [← ht.len]; rfl)
        subst this
        rw [List.append_nil] at k
        exact k _ _ (Same.refl H) (.tup ha hs)
      · exact k _ _ (Same.new hp) (Dt.new (hs.append ht) hp)
/-! ### comprehensions whose elements change nothing that stood -/
theorem take_snoc {α : Type} {l : List α} {i : Nat} {y : α} (h : l[i]? = some y) : l.take i ++ [y] = l.take (i + 1) := by
  rw [List.take_add_one, h]; rfl
section
variable {K : PySem.W.Frag} {g : TG} {te : TE} {vs : List Nat} {σ : L2.St} {H : Hp} {D : Addr} {Qd : Hp → Prop}
/-- over a tuple: ys are the elements -/
theorem lcT {a : Addr} {xs : List V} (ys : List V) (hl : ys.length = xs.length) (hz : xs.length < 100000) (hx : H a = some (.tup xs)) (hD : H D = none)
    (step : ∀ (j : Nat) (x y : V) (H1 : Hp) (Q' : VK), xs[j]? = some x → ys[j]? = some y → Same H H1 → (∀ H2, Same H1 H2 → Q' y H2) → g x (wipe σ vs) H1 fun σ2 H2 => wipe σ2 vs = wipe σ vs ∧ te σ2 H2 Q')
    (k : ∀ H1, Same H H1 → H1 D = some (.lst ys) → Qd H1) :
    ∃ W : Nat → Nat → Hp → Prop, (∃ m, W 0 m (upd H D (.lst []))) ∧ ∀ i m H, W i m H →
      ((Itt K a).stop i H ∧ Qd H) ∨ ((Itt K a).go i H ∧ ∃ Nx : Hp → Prop, (∀ H', Nx H' → ∃ m', m' < m ∧ W (i + 1) m' H') ∧ ∀ x H', (Itt K a).yld i H x H' → g x (wipe σ vs) H' fun σ2 H2 => wipe σ2 vs = wipe σ vs ∧ tYes σ2 H2 fun b H3 =>
        if b = true then te σ2 H3 fun y H4 => ∃ acc, H4 D = some (.lst acc) ∧ acc.length < sizeLine ∧ Nx (upd H4 D (.lst (acc ++ [y]))) else Nx H3) := by
  refine lc_tup (K := K) (xs := xs) (fun i H1 => Same H H1 ∧ H1 D = some (.lst (ys.take i))) ⟨Same.new hD, upd_same⟩ (fun i H1 _ h => SqT.of (h.1 _ _ hx)) ?_ ?_
  · rintro i x H1 hi ⟨s1, d1⟩
    have hil : i < xs.length := (List.getElem?_eq_some_iff.mp hi).1
    have hy : ys[i]? = some ys[i] := List.getElem?_eq_getElem (by omega)
    refine step i x _ H1 _ hi hy s1 fun H2 s2 => ?_
    refine ⟨_, s2 _ _ d1, ?_, Same.mut (s1.trans s2) hD, ?_⟩
    · rw [List.length_take]
      exact Nat.lt_of_lt_of_le (Nat.lt_of_le_of_lt (Nat.min_le_right _ _) (by omega : ys.length < 100000)) (by decide)
    · rw [take_snoc hy]; exact upd_same
  · rintro H1 ⟨s1, d1⟩
    rw [List.take_of_length_le (by omega)] at d1
    exact k H1 s1 d1
/-- over a list: ys are the elements -/
theorem lcL {a : Addr} {xs : List V} (ys : List V) (hl : ys.length = xs.length) (hz : xs.length < 100000) (hx : H a = some (.lst xs)) (hD : H D = none)
    (step : ∀ (j : Nat) (x y : V) (H1 : Hp) (Q' : VK), xs[j]? = some x → ys[j]? = some y → Same H H1 → (∀ H2, Same H1 H2 → Q' y H2) → g x (wipe σ vs) H1 fun σ2 H2 => wipe σ2 vs = wipe σ vs ∧ te σ2 H2 Q')
    (k : ∀ H1, Same H H1 → H1 D = some (.lst ys) → Qd H1) :
    ∃ W : Nat → Nat → Hp → Prop, (∃ m, W 0 m (upd H D (.lst []))) ∧ ∀ i m H, W i m H →
      ((Itl K a).stop i H ∧ Qd H) ∨ ((Itl K a).go i H ∧ ∃ Nx : Hp → Prop, (∀ H', Nx H' → ∃ m', m' < m ∧ W (i + 1) m' H') ∧ ∀ x H', (Itl K a).yld i H x H' → g x (wipe σ vs) H' fun σ2 H2 => wipe σ2 vs = wipe σ vs ∧ tYes σ2 H2 fun b H3 =>
        if b = true then te σ2 H3 fun y H4 => ∃ acc, H4 D = some (.lst acc) ∧ acc.length < sizeLine ∧ Nx (upd H4 D (.lst (acc ++ [y]))) else Nx H3) := by
  refine lc_list (K := K) (xs := xs) (fun i H1 => Same H H1 ∧ H1 D = some (.lst (ys.take i))) ⟨Same.new hD, upd_same⟩ (fun i H1 _ h => SqL.of (h.1 _ _ hx)) ?_ ?_
  · rintro i x H1 hi ⟨s1, d1⟩
    have hil : i < xs.length := (List.getElem?_eq_some_iff.mp hi).1
    have hy : ys[i]? = some ys[i] := List.getElem?_eq_getElem (by omega)
    refine step i x _ H1 _ hi hy s1 fun H2 s2 => ?_
    refine ⟨_, s2 _ _ d1, ?_, Same.mut (s1.trans s2) hD, ?_⟩
    · rw [List.length_take]
      exact Nat.lt_of_lt_of_le (Nat.lt_of_le_of_lt (Nat.min_le_right _ _) (by omega : ys.length < 100000)) (by decide)
    · rw [take_snoc hy]; exact upd_same
  · rintro H1 ⟨s1, d1⟩
    rw [List.take_of_length_le (by omega)] at d1
    exact k H1 s1 d1
theorem lcR {lo : Int} {n : Nat} (ys : List V) (hl : ys.length = n) (hz : n < 100000) (hD : H D = none)
    (step : ∀ (j : Nat) (y : V) (H1 : Hp) (Q' : VK), ys[j]? = some y → Same H H1 → (∀ H2, Same H1 H2 → Q' y H2) → g (.int (lo + j)) (wipe σ vs) H1 fun σ2 H2 => wipe σ2 vs = wipe σ vs ∧ te σ2 H2 Q')
    (k : ∀ H1, Same H H1 → H1 D = some (.lst ys) → Qd H1) :
    ∃ W : Nat → Nat → Hp → Prop, (∃ m, W 0 m (upd H D (.lst []))) ∧ ∀ i m H, W i m H →
      ((Itr lo n).stop i H ∧ Qd H) ∨ ((Itr lo n).go i H ∧ ∃ Nx : Hp → Prop, (∀ H', Nx H' → ∃ m', m' < m ∧ W (i + 1) m' H') ∧ ∀ x H', (Itr lo n).yld i H x H' → g x (wipe σ vs) H' fun σ2 H2 => wipe σ2 vs = wipe σ vs ∧ tYes σ2 H2 fun b H3 =>
        if b = true then te σ2 H3 fun y H4 => ∃ acc, H4 D = some (.lst acc) ∧ acc.length < sizeLine ∧ Nx (upd H4 D (.lst (acc ++ [y]))) else Nx H3) := by
  refine lc_range (fun i H1 => Same H H1 ∧ H1 D = some (.lst (ys.take i))) ⟨Same.new hD, upd_same⟩ ?_ ?_
  · rintro i H1 hi ⟨s1, d1⟩
    have hy : ys[i]? = some ys[i] := List.getElem?_eq_getElem (by omega)
    refine step i _ H1 _ hy s1 fun H2 s2 => ?_
    refine ⟨_, s2 _ _ d1, ?_, Same.mut (s1.trans s2) hD, ?_⟩
    · rw [List.length_take]
      exact Nat.lt_of_lt_of_le (Nat.lt_of_le_of_lt (Nat.min_le_right _ _) (by omega : ys.length < 100000)) (by decide)
    · rw [take_snoc hy]; exact upd_same
  · rintro H1 ⟨s1, d1⟩
    rw [List.take_of_length_le (by omega)] at d1
    exact k H1 s1 d1
end
end My

namespace My
open PySem L2 PySem.Spec PyProof.Rows
section
variable {prog : Program} {w : World} {A : Around} {E : Value → Shared → Prop} {s : Shared}
theorem filter_take {α : Type} (f : Nat → Bool) (a : Nat) : ∀ (xs : List α) (k : Nat), (∀ j, k ≤ j → j < k + xs.length → f j = decide (a ≤ j)) → (xs.zipIdx k).filterMap (fun p => if f p.2 then none else some p.1) = xs.take (a - k)
  | [], k, _ => by simp
  | x :: xs, k, h => by
    rw [List.zipIdx_cons, List.filterMap_cons]
    have h0 := h k (Nat.le_refl _) (by simp)
    have ih := filter_take f a xs (k + 1) fun j h1 h2 => h j (by omega) (by simp; omega)
    by_cases q : a ≤ k
    · rw [show (a - k) = 0 by omega, List.take_zero]
      rw [show a - (k + 1) = 0 by omega, List.take_zero] at ih
      rw [h0, decide_eq_true q, if_pos rfl]
      exact ih
    · rw [h0, decide_eq_false q, if_neg Bool.false_ne_true]
      rw [show a - k = (a - (k + 1)) + 1 by omega, List.take_succ_cons]
      show x :: _ = _
      rw [ih]
theorem bounds_del {a n : Nat} : sliceBounds (some (a : Int)) none none n = (((min a n : Nat) : Int), (n : Int), 1) := by
  have h := slice_bounds (some (a : Int)) none n
  obtain ⟨h1, h2, h3⟩ := h
  rw [HT.sIx_nat] at h1
  rw [HT.sIx_none] at h2
  exact Prod.ext h1 (Prod.ext h2 h3)
theorem delItem_from {l sl : Addr} {items : List Value} {n : Nat} {vl : Value} {a : Nat} {Q : Unit → Shared → Prop}
    (e : s.heap.get? l = some { cls := .type "list", data := .seq items.toArray n }) (hs : s.heap.IsSliceOf sl vl .none .none) (pl : IsPart vl (some (a : Int)))
    (hsz : items.length ≤ sizeLine) (h : ∀ f : Array Value → Array Value, f items.toArray = (items.take a).toArray → Q () { s with heap := s.heap.update l (Obj.mapSeq f) }) :
    wpAny (model prog w) A (delItem (.ref l) (.ref sl)) Q E s := by
  have hl : s.heap.IsList l items.toArray := PySem.IsL.isList e
  obtain ⟨os, hos, hcs, hds⟩ := id hs
  have hTs : s.TypeIs (.ref sl) "slice" := ⟨os, hos, hcs⟩
  have hstep : ¬ ((rawPart none == rawInt 0) = true) := Bool.false_ne_true
  refine wpAny_delItem_slot hl.typeIs (by decide) PySem.F.slot_list_delitem (wpAny_call_entry PySem.F.slot_list_delitem hl.typeIs PySem.F.entry_list_delitem ?_ (PySem.F.args_list_delitem_2 _ _))
  show wpAny _ _ (Builtin.List.listSubscript? (.ref sl) >>= _) _ _ s
  refine wpAny_bind ?_
  unfold Builtin.List.listSubscript?
  refine wpAny_bind (wpAny_specialOf hTs slice_no_index ?_)
  simp only [Option.isNone_none, if_true]
  refine wpAny_pure ?_
  show wpAny _ _ (typeOf (.ref sl) >>= _) _ _ s
  refine wpAny_bind (wpAny_typeOf hTs ?_)
  refine PySem.W.KFB.if_not (by decide) ?_
  rw [listSliceParts_eq]
  refine wpAny_bind (wpAny_bind (wpAny_field hos hds (x := .none) rfl (wpAny_bind (wpAny_listPart .none ?_))))
  rw [if_neg hstep]
  refine wpAny_bind (wpAny_field hos hds (x := vl) rfl (wpAny_bind (wpAny_listPart pl ?_)))
  refine wpAny_bind (wpAny_field hos hds (x := .none) rfl (wpAny_bind (wpAny_listPart .none (wpAny_pure ?_))))
  refine wpAny_bind (listItems_at e rfl ?_)
  refine wpAny_bind (wpAny_of_eq ((sliceIndices_raw (some (a : Int)) none none items.toArray.size (by simp)).trans (congrArg (pure : Int × Int × Int → Sem (Int × Int × Int)) bounds_del)) ?_)
  refine wpAny_bind (wpAny_rule ?_)
  have hf : ((items.toArray.toList.zipIdx).filterMap fun p => if (decide (((min a items.toArray.size : Nat) : Int) ≤ (p.2 : Int)) && decide ((p.2 : Int) < ((items.toArray.size : Nat) : Int)) && (((p.2 : Int) - ((min a items.toArray.size : Nat) : Int)) % 1 == 0)) = true then none else some p.1) = items.take a := by
    have := filter_take (fun k => (decide (((min a items.toArray.size : Nat) : Int) ≤ (k : Int)) && decide ((k : Int) < ((items.toArray.size : Nat) : Int)) && (((k : Int) - ((min a items.toArray.size : Nat) : Int)) % 1 == 0))) a items 0 fun j h1 h2 => ?_
    · simpa using this
    · have e1 : (((j : Int) - ((min a items.toArray.size : Nat) : Int)) % 1 == 0) = true := by simp [Int.emod_one]
      have hj : j < items.length := by simpa using h2
      rw [e1, Bool.and_true, decide_eq_true (show (j : Int) < ((items.toArray.size : Nat) : Int) by simp; exact hj), Bool.and_true]
      apply decide_eq_decide.mpr
      simp only [List.size_toArray]
      omega
  refine wpAny_bind (listUpdate_at e rfl ?_ (by rw [List.size_toArray]; exact hsz) ?_)
  · refine wpAny_bind (wpAny_letGo ?_)
    refine wpAny_pure ⟨_, rfl, h _ ?_⟩
    exact congrArg List.toArray hf
  · refine Nat.le_trans (Nat.le_of_eq (congrArg Array.size (congrArg List.toArray hf))) ?_
    rw [List.size_toArray, List.length_take]
    omega
end
section
variable {X : Cx} {pos : Pos}
/-- del xs[a:] of a list, a no less than 0 -/
def tDelF (to tl : L2.TE) : L2.TS := fun D σ H => to σ H fun x H1 => tl σ H1 fun y H2 => ∃ (l : Addr) (xs : List V) (a : Int), x = .ref l ∧ y = .int a ∧ 0 ≤ a ∧ H2 l = some (.lst xs) ∧ D.nx σ (upd H2 l (.lst (xs.take a.toNat)))
theorem ps_delF {o lo : Expr} {to tl : L2.TE} {tpos p2 : Pos} (ho : PE X o to) (hl : PE X lo tl) : PS X (.Delete [.Subscript o (.Slice (some lo) none none p2) tpos] pos) (tDelF to tl) := by
  refine ⟨fun pins s σ H D I h => ?_⟩
  refine wpAny_Delete (wpAny_deleteEach_cons (wpAny_delete_Subscript (thn (ho.run pins s σ H _ I h) fun u s1 ⟨x, H1, I1, rx, q1⟩ => ?_)))
  refine wpAny_Slice ?_
  rw [evalPart_some]
  refine thn (hl.run pins s1 σ H1 _ I1 q1) fun vl s2 ⟨y, H2, I2, ry, q2⟩ => ?_
  rw [evalPart_none]
  refine wpAny_pure ?_
  refine wpAny_pure ?_
  obtain ⟨l, xs, a, ex, ey, a0, hH, q⟩ := q2
  subst ex
  subst ey
  cases (show u = Value.ref l from rx)
  obtain ⟨t, rfl⟩ := (show ∃ t, vl = Value.int a t from ry)
  obtain ⟨an, rfl⟩ := Int.eq_ofNat_of_zero_le a0
  have I4 : Inv X pins σ H2 { s2 with heap := s2.heap.push { cls := .type "slice", data := .fields #[.int an t, .none, .none] } } := I2.kept (t' := s2.toks) fun b ob q => Heap.get?_push_of_some _ q
  obtain ⟨z, its, n, r, hle, e⟩ := I4.lstM hH
  refine delItem_from (items := its) (a := an) e (Heap.IsSliceOf.new ..) (.int _ _) (by omega) fun f hf => ?_
  refine wpAny_deleteEach_nil ⟨σ, _, ?_, q⟩
  refine I4.lset (its' := its.take an) (t' := s2.toks) hH e hf ?_ ?_
  · exact r.take _
  · rw [List.length_take]; omega
end
section
variable {prog : Program} {w : World} {A : Around} {E : Value → Shared → Prop} {s : Shared}
theorem bounds_two {a c n : Nat} : sliceBounds (some (a : Int)) (some (c : Int)) none n = (((min a n : Nat) : Int), ((min c n : Nat) : Int), 1) := by
  obtain ⟨h1, h2, h3⟩ := slice_bounds (some (a : Int)) (some (c : Int)) n
  rw [HT.sIx_nat] at h1 h2
  exact Prod.ext h1 (Prod.ext h2 h3)
/-- xs[a:c] = ys of another list, a within xs, c anywhere behind -/
theorem setItem_two {l b sl : Addr} {items new : List Value} {n n2 : Nat} {vl vu : Value} {a c : Nat} {Q : Unit → Shared → Prop}
    (e : s.heap.get? l = some { cls := .type "list", data := .seq items.toArray n }) (e2 : s.heap.get? b = some { cls := .type "list", data := .seq new.toArray n2 }) (hne : l ≠ b)
    (hs : s.heap.IsSliceOf sl vl vu .none) (pl : IsPart vl (some (a : Int))) (pu : IsPart vu (some (c : Int))) (hac : a ≤ c) (ha : a ≤ items.length)
    (hsz : items.length + new.length ≤ sizeLine) (h : ∀ f : Array Value → Array Value, f items.toArray = (items.take a ++ new ++ items.drop c).toArray → Q () { s with heap := s.heap.update l (Obj.mapSeq f) }) :
    wpAny (model prog w) A (setItem (.ref l) (.ref sl) (.ref b)) Q E s := by
  have hl : s.heap.IsList l items.toArray := PySem.IsL.isList e
  have hb : s.heap.IsList b new.toArray := PySem.IsL.isList e2
  obtain ⟨os, hos, hcs, hds⟩ := id hs
  have hTs : s.TypeIs (.ref sl) "slice" := ⟨os, hos, hcs⟩
  have hstep : ¬ ((rawPart none == rawInt 0) = true) := Bool.false_ne_true
  have hsame : Builtin.List.listSameRef (.ref l) (.ref b) = false := by
    unfold Builtin.List.listSameRef
    exact beq_eq_false_iff_ne.mpr hne
  have hmin : min a items.toArray.size = a := by rw [List.size_toArray]; omega
  have hf : items.toArray.extract 0 (((min a items.toArray.size : Nat) : Int)).toNat ++ new.toArray ++ items.toArray.extract (max ((min a items.toArray.size : Nat) : Int) ((min c items.toArray.size : Nat) : Int)).toNat items.toArray.size = (items.take a ++ new ++ items.drop c).toArray := by
    have e1 : (max ((min a items.toArray.size : Nat) : Int) ((min c items.toArray.size : Nat) : Int)).toNat = min c items.length := by rw [hmin, List.size_toArray]; omega
    rw [e1, hmin, Int.toNat_natCast, splice_eq]
    congr 2
    rcases Nat.le_total c items.length with q | q
    · rw [Nat.min_eq_left q]
    · rw [Nat.min_eq_right q, List.drop_length, List.drop_eq_nil_of_le q]
  unfold setItem
  refine wpAny_holding ?_
  refine wpAny_bind (wpAny_sequenceKey hl.typeIs (by decide) ?_)
  refine wpAny_bind (wpAny_callSpecial?_slot (name := Str.ofString "__setitem__") hl.typeIs PySem.F.slot_list_setitem
    (wpAny_call_entry PySem.F.slot_list_setitem hl.typeIs PySem.F.entry_list_setitem ?_ (PySem.F.args_list_setitem_3 _ _ _)))
  show wpAny _ _ (Builtin.List.listSubscript? (.ref sl) >>= _) _ _ s
  refine wpAny_bind ?_
  unfold Builtin.List.listSubscript?
  refine wpAny_bind (wpAny_specialOf hTs slice_no_index ?_)
  simp only [Option.isNone_none, if_true]
  refine wpAny_pure ?_
  show wpAny _ _ (typeOf (.ref sl) >>= _) _ _ s
  refine wpAny_bind (wpAny_typeOf hTs ?_)
  refine PySem.W.KFB.if_not (by decide) ?_
  rw [listSliceParts_eq]
  refine wpAny_bind (wpAny_bind (wpAny_field hos hds (x := .none) rfl (wpAny_bind (wpAny_listPart .none ?_))))
  rw [if_neg hstep]
  refine wpAny_bind (wpAny_field hos hds (x := vl) rfl (wpAny_bind (wpAny_listPart pl ?_)))
  refine wpAny_bind (wpAny_field hos hds (x := vu) rfl (wpAny_bind (wpAny_listPart pu (wpAny_pure ?_))))
  refine PySem.W.KFB.if_not hsame ?_
  refine wpAny_bind (m := Builtin.List.listAllItems (.ref b) "must assign iterable to extended slice") ?_
  unfold Builtin.List.listAllItems
  refine wpAny_bind (wpAny_typeOf hb.typeIs ?_)
  refine PySem.W.KFB.if_so (by decide) ?_
  refine listItems_at e2 rfl ?_
  refine wpAny_bind (listItems_at e rfl ?_)
  refine wpAny_bind (wpAny_of_eq ((sliceIndices_raw (some (a : Int)) (some (c : Int)) none items.toArray.size (by simp)).trans (congrArg (pure : Int × Int × Int → Sem (Int × Int × Int)) bounds_two)) ?_)
  refine PySem.W.KFB.if_so (by rfl) ?_
  refine wpAny_bind (wpAny_rule ?_)
  refine PySem.W.KFB.if_not (notLongL (by rw [List.size_toArray, List.size_toArray]; exact hsz)) ?_
  refine wpAny_bind (listUpdate_at e rfl ?_ (by rw [List.size_toArray]; omega) ?_)
  · refine wpAny_bind (wpAny_letGo ?_)
    refine wpAny_pure ⟨_, rfl, wpAny_pure (h _ hf)⟩
  · refine Nat.le_trans (Nat.le_of_eq (congrArg Array.size hf)) ?_
    rw [List.size_toArray, List.length_append, List.length_append, List.length_take, List.length_drop]
    omega
end
section
variable {X : Cx} {pos : Pos}
/-- o[a:c] = a list -/
def gSetSl (to tl th : L2.TE) : L2.TG := fun v σ H Q => to σ H fun o H1 => tl σ H1 fun x H2 => th σ H2 fun y H3 => ∃ (l b : Addr) (xs ys : List V) (a c : Int), o = .ref l ∧ v = .ref b ∧ x = .int a ∧ y = .int c ∧ l ≠ b ∧ 0 ≤ a ∧ a ≤ c ∧ a ≤ xs.length ∧ H3 l = some (.lst xs) ∧ H3 b = some (.lst ys) ∧ xs.length + ys.length ≤ sizeLine ∧
  Q σ (upd H3 l (.lst (xs.take a.toNat ++ ys ++ xs.drop c.toNat)))
theorem pg_setSl {o lo hi : Expr} {to tl th : L2.TE} {p2 : Pos} (ho : PE X o to) (hl : PE X lo tl) (hh : PE X hi th)
    (ha : ∀ v, assign (.Subscript o (.Slice (some lo) (some hi) none p2) pos) X.env v = (do
      let ov ← holding [v] (eval o X.env)
      let iv ← holding [v, ov] (eval (.Slice (some lo) (some hi) none p2) X.env)
      standAt pos
      holding [v, ov, iv] (setItem ov iv v)
      release [iv, v, ov] []) := by intro _; rfl) : PG X (.Subscript o (.Slice (some lo) (some hi) none p2) pos) (gSetSl to tl th) := by
  refine ⟨fun pins s σ H v u Q I r h => ?_⟩
  rw [ha]
  refine wpAny_bind (wpAny_holding (thn (ho.run pins s σ H _ I h) fun ov s1 ⟨x, H1, I1, r1, q1⟩ => ?_))
  refine wpAny_bind (wpAny_holding (wpAny_Slice ?_))
  rw [evalPart_some]
  refine thn (hl.run pins s1 σ H1 _ I1 q1) fun vl s2 ⟨y, H2, I2, r2, q2⟩ => ?_
  rw [evalPart_some]
  refine thn (hh.run pins s2 σ H2 _ I2 q2) fun vu s3 ⟨z, H3, I3, r3, q3⟩ => ?_
  rw [evalPart_none]
  refine wpAny_pure ?_
  obtain ⟨l, b, xs, ys, a, c, ex, ev, ey, ez, hne, a0, hac, hax, hH, hB, hz, q⟩ := q3
  subst ex; subst ev; subst ey; subst ez
  cases (show ov = Value.ref l from r1)
  cases (show u = Value.ref b from r)
  obtain ⟨t1, rfl⟩ := (show ∃ t, vl = Value.int a t from r2)
  obtain ⟨t2, rfl⟩ := (show ∃ t, vu = Value.int c t from r3)
  obtain ⟨an, rfl⟩ := Int.eq_ofNat_of_zero_le a0
  obtain ⟨cn, rfl⟩ := Int.eq_ofNat_of_zero_le (Int.le_trans a0 hac)
  have I4 : Inv X pins σ H3 { s3 with heap := s3.heap.push { cls := .type "slice", data := .fields #[.int an t1, .int cn t2, .none] } } := I3.kept (t' := s3.toks) fun b ob q => Heap.get?_push_of_some _ q
  obtain ⟨zl, its, n, rl, hle, e⟩ := I4.lstM hH
  obtain ⟨zb, its2, n2, rb, hlb, e2⟩ := I4.lstM hB
  refine wpAny_bind (wpAny_standAt (wpAny_bind (wpAny_holding ?_)))
  refine setItem_two (items := its) (new := its2) (a := an) (c := cn) e e2 hne (Heap.IsSliceOf.new ..) (.int _ _) (.int _ _) (by omega) (by omega) (by omega) fun f hf => ?_
  refine wpAny_release ⟨σ, _, ?_, q⟩
  refine I4.lset (its' := its.take an ++ its2 ++ its.drop cn) (t' := s3.toks) hH e hf ?_ ?_
  · exact Vals.append (Vals.append (rl.take _) rb) (rl.drop _)
  · simp only [Int.toNat_natCast, List.length_append, List.length_take, List.length_drop]
    omega
end
end My

namespace My
open PySem L2 PySem.Spec PyProof.Rows
section
variable {X : Cx} {pos : Pos}
/-- {k: v}, k a tuple -/
def tDisp1T (tk tv : L2.TE) : L2.TE := fun σ H Q => ∀ p, H p = none → tPairs [(tk, tv)] σ (upd H p (.dT [])) fun ps H2 => ∃ b ks y, ps = [(.ref b, y)] ∧ H2 p = some (.dT []) ∧ H2 b = some (.tup (ks.map kV)) ∧ Q (.ref p) (upd H2 p (.dT [(ks, y)]))
theorem pe_disp1T {k v : Expr} {tk tv : L2.TE} (hu : X.A.units + 1 < cLine) (hk : PE X k tk) (hv : PE X v tv) : PE X (.Dict [some k] [v] pos) (tDisp1T tk tv) := by
  refine ⟨fun pins s σ H Q I q => ?_⟩
  have hn := I.hok.fresh (Nat.le_refl s.heap.objs.size)
  have I1 := I.laid (a := s.heap.objs.size) (o := .dT []) (h' := s.heap.push { cls := .type "dict", data := .dict #[] }) (t' := s.toks) (fun _ _ q => Heap.get?_push_of_some _ q) (Nat.le_refl _) (dt_empty s.heap I.big)
  refine wpAny_Dict_any (by rfl) (by rfl) (by intro z; cases z) (show (1 : Nat) ≤ 15 by decide) (thn ((pps_cons hk hv pps_nil).run pins _ σ _ _ I1 (q _ hn)) fun ws s2 ⟨ps, H2, I2, rel, b, ks, y, ep, e0, eb, hq⟩ => ?_)
  subst ep
  cases rel with
  | @cons p1 p2 l1 l2 r0 rn =>
    cases rn
    obtain ⟨kv, yv⟩ := p2
    obtain ⟨rk, ry⟩ := r0
    cases (show kv = Value.ref b from rk)
    obtain ⟨z, hd, xs, rx, dd⟩ := dt_of I2.hok e0
    cases rx
    unfold storeAll
    have hroom : (tupleKind (mixKind X.prog X.w)).room X.A := Nat.lt_of_le_of_lt (Nat.le_succ _) hu
    refine wpAny_storeAllH hroom _ [(ks, b, yv)] [] s2 _ ⟨rfl, rfl, key_of I2.hok eb, trivial⟩ dd (show 0 + 1 ≤ sizeLine by decide) fun h' tk dd' hs => ?_
    obtain ⟨q0, es, ep, hq0, h2, h3, h4, _, h5⟩ := dd'
    refine ⟨.ref s.heap.objs.size, _, ?_, rfl, hq⟩
    refine d_write I2 (by rw [e0]; exact True.intro) hs ⟨q0, hq0⟩ ⟨show 1 ≤ sizeLine by decide, hd, [(ks, b, yv)], .cons ⟨rfl, ?_, ry⟩ .nil, q0, es, ep, hq0, h2, h3, h4, h5⟩
    rw [upd_ne (ne_of eb e0 (fun z => nomatch z))]
    exact eb
end
end My

namespace My
open PySem L2
/-! ### a dict of the module, read by get -/
def KGet (K : PySem.W.Frag) (w : World) (a : Addr) (z : Str) (r : Option V) : Prop :=
  ∃ es n, K.lookup a = some ⟨.type "dict", none, .dict es n, #[]⟩ ∧ PySem.W.KeysLit w.params es.toList ∧ (a == sysModules) = false ∧ ((∃ u v, PySem.W.nsIn K a z = some (some u) ∧ RelV v u ∧ r = some v) ∨ (PySem.W.nsIn K a z = some none ∧ r = none))
def tKGet (K : PySem.W.Frag) (w : World) (A : Addr) (ty : TE) : TE := fun σ H Q => ty σ H fun y H2 => ∃ z r, y = V.str z ∧ KGet K w A z r ∧ Q (r.getD .non) H2
open PySem.Spec PyProof.Rows in
theorem pe_kget {X : Cx} {e : Expr} {apos cpos : Pos} {A : Addr} {ty : TE} {x : Str} {opos : Pos} (K : PySem.W.Frag) (w : World) (hg : Gl X x) (hx : X.mg x = some (.ref A)) (hA : ∃ es n, K.lookup A = some ⟨.type "dict", none, .dict es n, #[]⟩) (he : PE X e ty) (m : M1 X (.Name x opos) "get" apos e cpos) (hd : (x == ("__debug__" : Str)) = false := by decide) (hK : X.K = K := by rfl) (hw : X.w = w := by rfl) :
    PE X (.Call (.Attribute (.Name x opos) "get" apos) [e] [] cpos) (tKGet K w A ty) := by
  subst hK hw
  refine ⟨fun pins s σ H Q I h => ?_⟩
  refine wpAny_Call_method m.base m.few m.line PySem.F.plainAttrs_dict PySem.F.slot_dict_get PySem.F.type_dict_get (thn ((pe_glob (v := .ref A) (pos := opos) hg hx rfl hd).run pins s σ H (fun y H1 => y = .ref A ∧ H1 = H) I ⟨rfl, rfl⟩) fun u s1 ⟨y, H1, I1, ry, q1⟩ => ?_)
  obtain ⟨rfl, rfl⟩ := q1
  obtain rfl : u = Value.ref A := ry
  obtain ⟨es, n, hl⟩ := hA
  have at1 := I1.kIn _ _ hl
  refine ⟨⟨_, at1, rfl⟩, fun b q => by cases q; exact ⟨_, at1, rfl⟩, ?_⟩
  rw [m.trees]
  refine Calls.callWith_builtin rfl (Calls.evalArgs_plain (Calls.spliced_cons (thn (he.run pins s1 σ H1 _ I1 h) fun iv s2 ⟨y, H2, I2, ry, q2⟩ => Calls.spliced_nil ?_)))
  obtain ⟨z, r, rfl, ⟨es', n', hl', lit, low, hr⟩, q⟩ := q2
  obtain ⟨t, rfl⟩ := ry
  have mp := PySem.W.mapOf_K (prog := X.prog) (w := X.w) I2.kIn hl' lit
  refine call_meetsIn PySem.F.slot_dict_get mp.typeIs PySem.F.entry_dict_get (PySem.F.args_dict_get_2 _ _) (meets_dict_get (strKind X.prog X.w) A (strKind_is X.prog X.w z t) low) ⟨_, mp, ?_⟩
  rcases hr with ⟨u, v, e1, rv, rfl⟩ | ⟨e1, rfl⟩
  · exact ⟨v, H2, I2.tok _, by rw [PySem.W.find_K hl' e1]; exact rv, q⟩
  · exact ⟨.non, H2, I2.tok _, by rw [PySem.W.find_K hl' e1]; rfl, q⟩
/-! ### a call of a name that holds one of some defs -/
theorem pe_orT {X : Cx} {e : Expr} {t u : TE} (h1 : PE X e t) (h2 : PE X e u) : PE X e (fun σ H Q => t σ H Q ∨ u σ H Q) := ⟨fun pins s σ H Q I h => by
  rcases h with h | h
  · exact h1.run pins s σ H Q I h
  · exact h2.run pins s σ H Q I h⟩
def tCallD (mg : Str → Option Value) (i : Nat) (x' : Str) (sp : Sp) (E : XK) (t : TA) : TE := fun σ H Q => (∃ f, mg x' = some (.ref f) ∧ σ[i]? = some (some (.ref f))) ∧ t σ H fun vs H1 => sp vs H1 Q E
theorem pe_callD {X : Cx} {CX : CXT} {k i : Nat} {x x' : Str} {ps : List Str} {sp : Sp} {E : XK} {t : TA} {e : Expr} {es : List Expr} {p pos : Pos} (D : Dfn X.prog X.w X.K X.mg X.base CX k x' ps sp) (hr : Room k X.A) (hx : Passes CX X E) (hN : X.N[i]? = some x) (hv : Vis X.env.scope x) (ha : PA X (e :: es) t)
    (hd : (x == ("__debug__" : Str)) = false := by decide) (hcd : (x == ("__classdict__" : Str)) = false := by decide)
    (he : starEach (e :: es) X.env = (false, eval e X.env) :: starEach es X.env := by rfl) (hpl : (backTo pos (starEach es X.env)).any (·.1) = false := by rfl) : PE X (.Call (.Name x p) (e :: es) [] pos) (tCallD X.mg i x' sp E t) := by
  obtain ⟨f, fd, F, a, b, c⟩ := D.ex
  refine ⟨fun pins s σ H Q I h => ?_⟩
  obtain ⟨⟨f', a', hs⟩, h⟩ := h
  rw [a] at a'
  cases a'
  have R := F.raw (dvs := []) c .nil
  have R' : FnR X.prog X.w X.K X.mg X.base CX k f sp := R.imp fun vs H Q E h => by rw [List.append_nil]; exact h
  exact (ItX.pe_callV R' hr b hx hN hv ha hd hcd he hpl).run pins s σ H Q I ⟨hs, h⟩
end My

namespace PySem
open Sem (wp)
section
variable {prog : Program} {w : World} {K : Type} [DecidableEq K] {knd : HeapKind prog w K} {A : Around} {E : Value → Shared → Prop} {s : Shared}
theorem my_call_dictH (st : knd.Stays) {o : Addr} {more : List (K × Addr × Value)} {Q : Value → Shared → Prop} (hu : knd.room A.in1.in1) (hoS : (o == sysModules) = false) (ho : s.heap.DictOfH knd o more) (hap : (more.map fun x => knd.hash x.1).Nodup) (hsz : more.length ≤ sizeLine)
    (h : ∀ h', h'.DictOfH knd s.heap.objs.size (storedAllH [] more) → Heap.SameBut s.heap.objs.size (s.heap.push { cls := .type "dict", data := .dict #[] }) h' → Q (.ref s.heap.objs.size) { s with heap := h' }) :
    wpAny (model prog w) A (call (.type "dict") [.ref o]) Q E s := by
  refine callType_codes (Q₁ := fun obj s₁ => obj = .ref s.heap.objs.size ∧ s₁ = { s with heap := s.heap.push { cls := .type "dict", data := .dict #[] } }) F.kt_called_dict (F.kt_typeCall_dict_1 _) F.entry_dict_init (kt_code_dict_new _ ⟨rfl, rfl⟩) ?_
  rintro obj s₁ ⟨rfl, rfl⟩
  have hnew : (s.heap.push { cls := .type "dict", data := .dict #[] }).DictOfH knd s.heap.objs.size [] := Heap.DictOfH.new s.heap
  have ho' : (s.heap.push { cls := .type "dict", data := .dict #[] }).DictOfH knd o more := by
    obtain ⟨ob, es, ep, h1, h2, h3, h4, h5, h6⟩ := ho
    exact ⟨ob, es, ep, Heap.get?_push_of_some _ h1, h2, h3, h4, fun x hx => st.stays (fun b o _ _ e _ => Heap.get?_push_of_some _ e) (h5 x hx), h6⟩
  have hdo : s.heap.objs.size ≠ o := by
    obtain ⟨_, _, _, hg, _⟩ := ho
    exact fun e => absurd (Heap.lt_size hg) (by rw [e]; exact Nat.lt_irrefl _)
  refine ⟨hnew.typeIs, F.args_dict_init_2 _ _, ?_⟩
  unfold Builtin.«dict.__init__»
  refine wpAny_bind ?_
  unfold Builtin.Dict.selfAndRest
  refine wpAny_bind (wpAny_notOrdered_dict hnew.typeIs ?_)
  show wpAny _ _ (pure (s.heap.objs.size, [Value.ref o])) _ _ _
  refine wpAny_pure ?_
  show wpAny _ _ (Builtin.Dict.updateFrom "dict.__init__" s.heap.objs.size (.ref o) [] .none) _ _ _
  refine updateFrom_dictH (A := A.in1) (knd := knd) .none hu hdo hoS hnew ho' (.inr ⟨keyed_apart (s := { s with heap := s.heap.push { cls := .type "dict", data := .dict #[] } }) st ho', hap⟩) (by simpa using hsz) fun h' hd' _ hs' => ?_
  exact ⟨rfl, h h' hd' hs'⟩
end
end PySem
namespace My
open PySem L2 PySem.Spec PyProof.Rows
/-- dict(d), the keys tuples that hash apart -/
def rDictT (w : World) (P : Program) : List V → Hp → VK → Prop := fun xs H Q => ∃ (a : Addr) (kvs : List (List L2.Key × V)), xs = [.ref a] ∧ H a = some (.dT kvs) ∧ (kvs.map fun kv => (tupleKind (mixKind P w)).hash kv.1).Nodup ∧ ∀ p, H p = none → Q (.ref p) (upd H p (.dT kvs))
theorem kt_map {H : Hp} {α : Type} (g : List L2.Key → α) : ∀ {kvs : List (List L2.Key × V)} {xs : List (List L2.Key × Addr × Value)}, KT H kvs xs → kvs.map (fun kv => g kv.1) = xs.map fun x => g x.1
  | _, _, .nil => rfl
  | _, _, .cons h t => by rw [List.map_cons, List.map_cons, h.1, kt_map g t]
theorem stored_new {K : Type} [DecidableEq K] : ∀ (more acc : List (K × Addr × Value)), ((acc ++ more).map (·.1)).Nodup → storedAllH acc more = acc ++ more
  | [], acc, _ => by simp [storedAllH]
  | (k, a, v) :: r, acc, h => by
    have hn : ¬ (atKey acc k).isSome = true := fun z => by
      obtain ⟨p, hp⟩ := Option.isSome_iff_exists.mp z
      unfold atKey at hp
      obtain ⟨q, hq, _⟩ := Option.map_eq_some_iff.mp hp
      have h1 := List.mem_of_find?_eq_some hq
      have h2 : q.1 = k := by simpa using List.find?_some hq
      rw [List.map_append, List.map_cons] at h
      exact (List.pairwise_append.mp h).2.2 q.1 (List.mem_map.mpr ⟨q, h1, rfl⟩) k List.mem_cons_self h2
    show storedAllH (storedH acc k a v) r = _
    unfold storedH
    rw [if_neg hn, stored_new r _ (by rw [List.append_assoc]; exact h), List.append_assoc]; rfl
theorem units2 {k : Nat} {A : Around} (r : Room k A) : A.units + 2 < cLine := by have := r.un; omega
theorem call_dictT {X : Cx} (hu : X.A.units + 2 < cLine) : CallR X (.type "dict") (rDictT X.w X.prog) := by
  intro pins s σ H xs us Q I r h
  obtain ⟨a, kvs, e, hd, hap, q⟩ := h
  subst e
  obtain ⟨u, eu, rx⟩ := vals1 r
  subst eu
  obtain rfl : u = Value.ref a := rx
  obtain ⟨z, lo, xs, rel, dd⟩ := dt_of I.hok hd
  have hl : kvs.length = xs.length := Paired.length rel
  have hap' : (xs.map fun x => (tupleKind (mixKind X.prog X.w)).hash x.1).Nodup := by
    rw [← kt_map (fun k => (tupleKind (mixKind X.prog X.w)).hash k) rel]; exact hap
  have hn : (xs.map (·.1)).Nodup := let ⟨_, _, _, _, _, _, _, _, hn⟩ := dd; hn
  refine my_call_dictH tupleKind_stays (show (tupleKind (mixKind X.prog X.w)).room X.A.in1.in1 from hu) lo dd hap' (by rw [← hl]; exact z) fun h' hd' hs => ?_
  rw [stored_new xs [] (by simpa using hn), List.nil_append] at hd'
  have hm : (s.heap.objs.size == sysModules) = false := beq_eq_false_iff_ne.mpr (Nat.ne_of_gt I.big)
  obtain ⟨q0, es, ep, hq0, h2, h3, h4, _, h5⟩ := hd'
  have hf : H s.heap.objs.size = none := I.hok.fresh (Nat.le_refl _)
  refine ⟨.ref s.heap.objs.size, upd H s.heap.objs.size (.dT kvs), I.laid (t' := s.toks) (fun b u e => (hs.2 b (Nat.ne_of_lt (Heap.lt_size e))).trans (Heap.get?_push_of_some _ e)) (Nat.le_refl _)
    (show ObjOk X.prog X.w _ _ _ (.dT kvs) from ⟨z, hm, xs, rel.keeps fun c ys ec => Same.new hf _ _ ec, q0, es, ep, hq0, h2, h3, h4, h5⟩), rfl, q _ hf⟩
end My

namespace PySem.W
open PySem PySem.Calls PyProof.Rows PyProof.V PySem.Spec
section
variable {prog : Program} {w : World} {K : Type} [DecidableEq K] {knd : HeapKind prog w K} {A : Around} {E : Value → Shared → Prop} {s : Shared}
/-- two dicts with tuple keys that hold the same -/
theorem my_samePairsH {nm : String} {a b : Addr} {xs ys : List (K × Addr × Value)} {Q : Bool → Shared → Prop} (hu : knd.room A) (ha : (a == sysModules) = false) (hb : (b == sysModules) = false)
    (da : s.heap.DictOfH knd a xs) (db : s.heap.DictOfH knd b ys) (hl : xs.length = ys.length)
    (hits : ∀ x ∈ xs, ∃ (j : Nat) (p : Addr × Value), ys[j]? = some (x.1, p) ∧ SeqAt.EqP prog w A s x.2.2 p.2 true) (h : Q true s) :
    wpAny (model prog w) A (Builtin.Dict.samePairs nm a b) Q E s := by
  obtain ⟨oa, es, ep, hoa, _, hda, hea, hia, _⟩ := da
  obtain ⟨ob, es', ep', hob, _, hdb, heb, hib, hnb⟩ := db
  have hla : es.size = xs.length := size_of_entries hea
  have hlb : es'.size = ys.length := size_of_entries heb
  unfold Builtin.Dict.samePairs Builtin.Dict.showsAll
  rw [if_neg (show ¬ (a == sysModules) = true by rw [ha]; exact Bool.false_ne_true), if_neg (show ¬ (b == sysModules) = true by rw [hb]; exact Bool.false_ne_true)]
  refine wpAny_bind (wpAny_pure (wpAny_bind (wpAny_pure ?_)))
  refine wpAny_bind (wpAny_dictEntries hoa hda ?_)
  dsimp only
  refine wpAny_bind (wpAny_dictEntries hob hdb ?_)
  have hsz : es.size = es'.size := by rw [hla, hlb, hl]
  rw [if_neg (by rw [hsz]; simp)]
  refine wpAny_bind (wpAny_dictEpoch hoa hda ?_)
  refine wpAny_bind ?_
  rw [Std.Legacy.Range.forIn_eq_forIn_range']
  simp only [Std.Legacy.Range.size, Nat.sub_zero, Nat.add_sub_cancel, Nat.div_one]
  refine wpAny_forIn_list _
    (fun rest q s' => s' = s ∧ q = (none, ()) ∧ ∃ i, rest = List.range' i (es.size - i) ∧ i ≤ es.size)
    _ ?_ ?_ _ _ ⟨rfl, rfl, 0, by simp, Nat.zero_le _⟩
  · rintro x rest q s' ⟨rfl, rfl, i, hr, hi⟩
    have hlt : i < es.size := by
      rcases Nat.lt_or_ge i es.size with h | h
      · exact h
      · rw [Nat.sub_eq_zero_of_le h] at hr; simp at hr
    obtain ⟨rfl, hrest⟩ : x = i ∧ rest = List.range' (i + 1) (es.size - (i + 1)) := by
      have e : es.size - i = (es.size - (i + 1)) + 1 := by omega
      rw [e, List.range'_succ] at hr
      injection hr with h1 h2
      exact ⟨h1, h2⟩
    refine wpAny_bind (wpAny_dictEntries hoa hda ?_)
    rw [Array.getElem?_eq_getElem hlt]
    have hlt' : x < xs.length := by rw [← hla]; exact hlt
    have e0 : es[x] = entryOfKey knd xs[x] := by
      have := entry_at hea x
      rw [Array.getElem?_eq_getElem hlt, List.getElem?_eq_getElem hlt'] at this
      exact Option.some.inj this
    obtain ⟨j, p, hj, hq⟩ := hits xs[x] (List.getElem_mem hlt')
    show wpAny _ _ (holding [es[x].key, es[x].val] _ >>= _) _ _ _
    rw [e0]
    refine wpAny_bind (wpAny_holding (wpAny_bind (wpAny_dictFind_heap hu (hia _ (List.getElem_mem hlt')) hob hdb heb hib hnb (fun hno => absurd hj (hno j p)) fun j' p' hj' => ?_)))
    have ejj : j' = j := by
      have h1 : j' < (ys.map (·.1)).length := by rw [List.length_map]; exact (List.getElem?_eq_some_iff.mp hj').1
      refine (List.getElem?_inj h1 hnb).mp ?_
      rw [List.getElem?_map, List.getElem?_map, hj, hj']
      rfl
    subst ejj
    have f0 : es'[j']? = some (entryOfKey knd (xs[x].1, p)) := by rw [entry_at heb j', hj]; rfl
    refine wpAny_bind (wpAny_dictEntries hob hdb ?_)
    rw [f0]
    refine wpAny_holding (hq _ _ ?_)
    show wpAny _ _ (if (!true) = true then _ else _) _ _ _
    rw [if_neg (by decide)]
    refine wpAny_bind (wpAny_dictEpoch hoa hda ?_)
    rw [if_neg (by simp)]
    exact wpAny_pure ⟨rfl, rfl, x + 1, hrest, hlt⟩
  · rintro q s' ⟨rfl, rfl, i, hr, hi⟩
    exact wpAny_pure h
theorem my_rcP_ne {a b : Addr} {xs ys : List (K × Addr × Value)} (ha : (a == sysModules) = false) (hb : (b == sysModules) = false)
    (da : s.heap.DictOfH knd a xs) (db : s.heap.DictOfH knd b ys) (hu : A.units < cLine) (hr : knd.room A.in1) (hl : xs.length = ys.length)
    (hits : ∀ x ∈ xs, ∃ (j : Nat) (p : Addr × Value), ys[j]? = some (x.1, p) ∧ SeqAt.EqP prog w A.in1 s x.2.2 p.2 true) (E Q : Value → Shared → Prop) (h : Q (.bool false) s) : wpAny (model prog w) A (richCompare .NotEq (.ref a) (.ref b)) Q E s := by
  refine wpAny_richCompare_same_room (op := .NotEq) da.typeIs db.typeIs PySem.F.slot_dict_ne (wpAny_call_entry PySem.F.slot_dict_ne da.typeIs PySem.F.entry_dict_ne ?_ (PySem.F.args_dict_ne_2 _ _)) hu
  show wpAny _ _ (Builtin.Dict.dictSlotArgs "__ne__" ⟨[.ref a, .ref b], []⟩ >>= _) _ _ s
  refine wpAny_bind ?_
  unfold Builtin.Dict.dictSlotArgs
  refine wpAny_bind (wpAny_notOrdered_dict da.typeIs ?_)
  show wpAny _ _ (pure (Value.ref a, Value.ref b)) _ _ s
  refine wpAny_pure ?_
  refine wpAny_bind (wpAny_isInstance (T := "dict") db.typeIs PySem.F.sub_dict_dict ?_)
  simp only [Bool.not_true, Bool.false_eq_true, if_false]
  refine wpAny_bind (wpAny_pure (wpAny_bind (wpAny_pure ?_)))
  refine wpAny_bind (my_samePairsH hr ha hb da db hl hits ?_)
  refine wpAny_pure ⟨_, rfl, ?_, ?_⟩
  · exact fun x => nomatch x
  · exact h
end
end PySem.W

namespace My
open PySem L2
/-- the same data -/
def LfV (K : PySem.W.Frag) (H : Hp) (x y : V) : Prop := ∃ d, Dp K H x d ∧ Dp K H y d ∧ SeqAt.shaped d = true
section
variable {X : Cx} {pins : List (Addr × Obj)} {σ : L2.St} {H : Hp} {s : Shared}
theorem lf_run (I : Inv X pins σ H s) {A : Around} (hu : A.units + 64 < cLine) {x y : V} {v u : Value} (h : LfV X.K H x y) (rx : RelV x v) (ry : RelV y u) : SeqAt.EqP X.prog X.w A s v u true := by
  obtain ⟨d, h1, h2, hs⟩ := h
  obtain ⟨as, r1⟩ := Dp.reads I d x v h1 rx
  obtain ⟨bs, r2⟩ := Dp.reads I d y u h2 ry
  have z := SeqAt.eqAt_reads d d A s v u as bs r1 r2 (SeqAt.canLay_of_shaped hs) (SeqAt.canLay_of_shaped hs) (SeqAt.room_of_shaped hs hu)
  rw [SeqAt.eqv_refl _ (SeqAt.canLay_of_shaped hs)] at z
  exact z.eqP
end
/-- d != e, both with tuple keys, the same in both -/
def rNeDT (K : PySem.W.Frag) : R2 := fun x y H Q => ∃ (a b : Addr) (ks ls : List (List L2.Key × V)), x = .ref a ∧ y = .ref b ∧ H a = some (.dT ks) ∧ H b = some (.dT ls) ∧ ks.length = ls.length ∧ (∀ p ∈ ks, ∃ (j : Nat) (v2 : V), ls[j]? = some (p.1, v2) ∧ LfV K H p.2 v2) ∧ Q (.bl false) H
theorem kt_at {H : Hp} : ∀ {kvs : List (List L2.Key × V)} {xs : List (List L2.Key × Addr × Value)}, KT H kvs xs → ∀ (j : Nat), (∀ x, xs[j]? = some x → ∃ v, kvs[j]? = some (x.1, v) ∧ RelV v x.2.2) ∧ (∀ k v, kvs[j]? = some (k, v) → ∃ p, xs[j]? = some (k, p) ∧ RelV v p.2)
  | _, _, .nil, j => ⟨fun x h => by simp at h, fun k v h => by simp at h⟩
  | _, _, .cons (a := p) (b := q) h t, 0 => ⟨fun x e => by
      cases e
      exact ⟨p.2, by rw [← h.1]; rfl, h.2.2⟩, fun k v e => by
      cases e
      obtain ⟨q1, q2⟩ := q
      obtain rfl := h.1
      exact ⟨q2, rfl, h.2.2⟩⟩
  | _, _, .cons h t, j + 1 => ⟨fun x e => by simpa using (kt_at t j).1 x (by simpa using e), fun k v e => by simpa using (kt_at t j).2 k v (by simpa using e)⟩
open PySem.Spec PyProof.Rows in
theorem op_neDT {X : Cx} (K : PySem.W.Frag) (hu : X.A.units + 71 < cLine) (hK : X.K = K := by rfl) : OpR X (compareOp .NotEq) (rNeDT K) := by
  subst hK
  intro pins s σ H x y v u Q I rx ry h
  obtain ⟨a, b, ks, ls, rfl, rfl, ea, eb, hlen, hp, q⟩ := h
  obtain rfl : v = Value.ref a := rx
  obtain rfl : u = Value.ref b := ry
  obtain ⟨za, la, xa, ra, da⟩ := dt_of I.hok ea
  obtain ⟨zb, lb', xb, rb, db⟩ := dt_of I.hok eb
  have hl : xa.length = xb.length := by rw [← Paired.length ra, ← Paired.length rb]; exact hlen
  show wpAny _ _ (richCompare .NotEq (.ref a) (.ref b)) _ _ _
  refine PySem.W.my_rcP_ne (knd := tupleKind (mixKind X.prog X.w)) la lb' da db (by omega) (show X.A.units + 1 < cLine by omega) hl (fun z hz => ?_) _ _ ⟨.bl _, H, I, rfl, q⟩
  obtain ⟨i, hi⟩ := List.getElem?_of_mem hz
  obtain ⟨v1, hv1, r1⟩ := (kt_at ra i).1 z hi
  obtain ⟨j, v2, hj, hf⟩ := hp _ (List.mem_of_getElem? hv1)
  obtain ⟨p, hp1, r2⟩ := (kt_at rb j).2 _ _ hj
  exact ⟨j, p, hp1, lf_run I (show X.A.units + 1 + 64 < cLine by omega) hf r1 r2⟩
theorem units71 {k : Nat} {A : Around} (r : Room k A) : A.units + 71 < cLine := by have := r.un; omega
end My

/-! d.pop(k), k a tuple that is there -/
namespace My
section
open PySem PySem.W PySem.Calls PyProof.Rows PyProof.V PySem.Spec DT
section
variable {prog : Program} {w : World} {K : Type} [DecidableEq K] {knd : HeapKind prog w K}
theorem my_meetsPop1 {d b : Addr} {k : K} (hd : (d == sysModules) = false) :
    MeetsIn prog w (Builtin.«dict.pop» ⟨[.ref d, .ref b], []⟩) (fun A R s => ∃ xs p, knd.room A.in1 ∧ knd.is s.heap k b ∧ s.heap.DictOfH knd d xs ∧ xs.length ≤ sizeLine ∧ atKey xs k = some p ∧
      ∀ h' tk, h'.DictOfH knd d (DT.dropH xs k) → Heap.SameBut d s.heap h' → R (.ok (.ret p.2)) { s with heap := h', toks := tk }) :=
  .of_wp fun A R s ⟨xs, p, hu, hkey, hm, hsz, hat, hsome⟩ => by
    obtain ⟨o, es, ep, ho, hc, hdat, he, his, hn⟩ := id hm
    have hes : es.size = xs.length := size_of_entries he
    have hpart : (keyPart (Value.ref b)).isSome = false := rfl
    unfold Builtin.«dict.pop»
    refine wpAny_bind ?_
    unfold Builtin.Dict.keyAndDefault
    refine wpAny_bind (wpAny_notOrdered_dict hm.typeIs ?_)
    show wpAny _ _ (pure (d, Value.ref b, none)) _ _ s
    refine wpAny_pure ?_
    simp only [hpart, Bool.false_eq_true, if_false]
    refine wpAny_bind (wpAny_dictEntries ho hdat (wpAny_bind (wpAny_pure ?_)))
    cases hem : es.isEmpty with
    | true =>
      have h0 : xs = [] := by
        have z : es.size = 0 := by simpa using hem
        exact List.length_eq_zero_iff.mp (by omega)
      rw [h0] at hat
      cases hat
    | false =>
      simp only [Bool.false_eq_true, if_false]
      refine wpAny_bind (DT.takeH hu hkey hm hsz (fun hno => ?_) fun p' e hp hev h' hm' hs' => ?_)
      · rw [hat] at hno; cases hno
      · rw [hat] at hp
        cases hp
        simp only [Option.isNone_some, Bool.false_eq_true, if_false]
        exact wpAny_bind (wpAny_letGo (wpAny_pure ⟨e.val, rfl, by rw [hev]; exact hsome h' _ hm' hs'⟩))
end
end
end My
namespace My
open PySem L2
def rPopT1 : V → List V → Hp → VK → Prop := fun x xs H Q => ∃ (a : Addr) (kvs : List (List L2.Key × V)) (k : List L2.Key) (b : Addr) (v : V), x = .ref a ∧ xs = [.ref b] ∧ H a = some (.dT kvs) ∧ H b = some (.tup (k.map kV)) ∧ valV kvs k = some v ∧ Q v (upd H a (.dT (dropK kvs k)))
open PySem.Spec PyProof.Rows in
theorem mt_popT1 {X : Cx} (hu : X.A.units + 1 < cLine) : MtR X "dict.pop" rPopT1 := by
  intro pins s σ H x xs v us Q I rx rxs h
  obtain ⟨a, kvs, k, b, v0, rfl, rfl, ha, hb, ev, q⟩ := h
  cases rx
  obtain ⟨u1, rfl, r1⟩ := rxs.one
  cases r1
  obtain ⟨z, hd, xs', rel, dd⟩ := dt_of I.hok ha
  have hz : xs'.length ≤ sizeLine := by rw [← Paired.length rel]; exact z
  have r := rel.val k
  rw [ev] at r
  cases hp : atKey xs' k with
  | none => rw [hp] at r; exact (show False from r).elim
  | some p =>
    rw [hp] at r
    have rv : RelV v0 p.2 := r
    refine call_meetsIn PySem.F.slot_dict_pop dd.typeIs PySem.F.entry_dict_pop (PySem.F.args_dict_pop_2 _ _) (my_meetsPop1 (knd := tupleKind (mixKind X.prog X.w)) (k := k) hd)
      ⟨xs', p, tupleKind_room_in1 hu, key_of I.hok hb, dd, hz, hp, fun h' tk dd' hs => ?_⟩
    obtain ⟨o, es, ep, hq, h2, h3, h4, _, h5⟩ := dd'
    have I2 : Inv X pins σ (upd H a (.dT (dropK kvs k))) { s with heap := h', toks := tk } :=
      d_write I (by rw [ha]; exact True.intro) hs ⟨o, hq⟩ ⟨Nat.le_trans (dropK_le kvs k) z, hd, _, (L2.DX.KT_drop k rel).keeps (fun c ys ec => (by rw [upd_ne (ne_of ec ha (fun z => nomatch z))]; exact ec)), o, es, ep, hq, h2, h3, h4, h5⟩
    show EP X pins σ Q p.2 _
    exact ⟨v0, _, I2, rv, q⟩
end My

namespace My
open PySem L2 PySem.Spec PyProof.Rows
/-- sorted(d, reverse=True), the keys ints, any number of them -/
def rSortedDR : List V → List V → Hp → VK → Prop := fun xs zs H Q => ∃ (a : Addr) (kvs : List (L2.Key × V)) (ks : List Int), xs = [.ref a] ∧ zs = [.bl true] ∧ Rd H a (.dK kvs) ∧ kvs.map (·.1) = ks.map Sum.inl ∧
  ∀ (ys : List Int) (p : Addr), ys.Perm ks → ys.Pairwise (· ≥ ·) → H p = none → Q (.ref p) (upd H p (.lst (ys.map V.int)))
theorem cr_sortedDR {X : Cx} (hc : X.calm = true) : CallRK X (.builtin "sorted") [Str.ofString "reverse"] rSortedDR := by
  intro pins s σ H xs zs us ws Q I r rz h
  obtain ⟨a, kvs, ks, rfl, rfl, hd, hks, q⟩ := h
  obtain rfl := Vals.ref1 r
  obtain ⟨w1, rfl, e1⟩ := vals1 rz
  obtain rfl : w1 = Value.bool true := e1
  obtain ⟨z, lo, vs, rel, dd⟩ := dk_rd I.hok hd
  obtain ⟨ep, hat⟩ := dd.dictAt
  have ek : vs.map (·.1) = ks.map Sum.inl := rel.keys.symm.trans hks
  have el : vs.length = ks.length := by simpa using congrArg List.length ek
  have ez : vs.length ≤ sizeLine := by rw [← rel.length]; exact z
  refine call_function_entry_kw kind_sorted plain_sorted entry_sorted (args_sorted_rev _ _) ?_
  unfold Builtin.«sorted»
  refine wpAny_bind (m := checkCount "sorted" 1 1 _) (wpAny_pure ?_)
  refine wpAny_bind (PySem.W.kdu_collect (A := X.A.in1) (PySem.W.kdl_dict (knd := mixKind X.prog X.w) (kvs := vs) (ep := ep) lo) (I.ok.hd hc) hat ez fun h' tk acc hk hacc => ?_)
  have al : acc.toList.length = ks.length := by rw [Array.length_toList, hacc.1, el]
  have hI : IntsAre acc.toList ks := ints_each al fun j v e => by
    obtain ⟨k, x, e1, e2⟩ := hacc.2 j v (by rw [← Array.getElem?_toList]; exact e)
    have e3 : (ks.map (Sum.inl : Int → L2.Key))[j]? = some k := by rw [← ek, List.getElem?_map, e1]; rfl
    rw [List.getElem?_map] at e3
    cases e4 : ks[j]? with
    | none => rw [e4] at e3; cases e3
    | some y =>
      rw [e4] at e3
      cases e3
      rcases keyIs_shape (show keyIs (Sum.inl y) v = true from e2) with ⟨i, t, q1, q2⟩ | ⟨i, t, q1, q2⟩
      · cases q1; exact ⟨y, t, rfl, q2⟩
      · cases q1
  have I1 : Inv X pins σ H { s with heap := h', toks := tk } := I.kept hk
  have az : acc.toList.length ≤ sizeLine := by rw [al, ← el]; exact ez
  refine wpAny_bind (wpAny_newList ?_ az)
  have hoL : (h'.push (seqObj "list" acc.toList.toArray 0)).get? h'.objs.size = some (seqObj "list" acc.toList.toArray 0) := Heap.get?_push_size _ rfl
  show wpAny _ _ _ _ _ { s with heap := h'.push (seqObj "list" acc.toList.toArray 0), toks := tk }
  refine wpAny_bind (wpAny_holding (wpAny_call_entry_kw slot_list_sort ⟨_, hoL, rfl⟩ entry_list_sort ?_ (args_list_sort_rev _ _)))
  refine SrtR.list_sort_ordR (b := true) SrtO.swo_int (s := { s with heap := h'.push (seqObj "list" acc.toList.toArray 0), toks := tk }) hoL az (fun h2 => SrtO.ints_sortable hI h2) fun out h1 h2 => ⟨_, rfl, ?_⟩
  obtain ⟨ns', k1, k2, k3⟩ := SrtR.ints_outR (b := true) hI h1 h2
  obtain ⟨e', he'⟩ := PyProof.Rows.sortedHeap_at (vs := acc.toList) (out := out.toArray.reverse) hoL
  have hlen : (ns'.map V.int).length ≤ sizeLine := by
    rw [List.length_map, k2.length_eq, ← al]; exact az
  refine wpAny_pure ⟨_, rfl, .ref h'.objs.size, upd H h'.objs.size (.lst (ns'.map V.int)), I1.laid (t' := tk) (fun b u e => ?_) (Nat.le_refl _)
    (show ObjOk X.prog X.w _ _ _ (.lst (ns'.map V.int)) from ⟨hlen, out.toArray.reverse.toList, e', vals_of_ints k1, by rw [Array.toArray_toList]; exact he'⟩), rfl, q _ _ k2 k3 (I1.hok.fresh (Nat.le_refl _))⟩
  have hb : b < h'.objs.size := Heap.lt_size e
  rw [PyProof.Rows.sortedHeap_old (Nat.ne_of_lt hb) (by rw [size_push']; exact Nat.lt_succ_of_lt hb)]
  exact Heap.get?_push_of_some _ e
end My

namespace PySem.W
open PySem PySem.Calls PyProof.Rows PyProof.V PySem.Spec
section
variable {prog : Program} {w : World} {K : Type} [DecidableEq K] {knd : KeyKind prog w K} {A : Around} {s : Shared}
theorem my_rcP_neD {a b : Addr} {ka kb : List (K × Value)} {r : Bool} (ha : (a == sysModules) = false) (hb : (b == sysModules) = false)
    (da : s.heap.DictOf knd a ka) (db : s.heap.DictOf knd b kb) (hu : A.units < cLine) (hits : ka.length = kb.length → KeqHitsP prog w A.in1 s kb ka r) (E Q : Value → Shared → Prop) (h : Q (.bool (!(ka.length == kb.length && r))) s) : wpAny (model prog w) A (richCompare .NotEq (.ref a) (.ref b)) Q E s := by
  refine wpAny_richCompare_same_room (op := .NotEq) da.typeIs db.typeIs PySem.F.slot_dict_ne (wpAny_call_entry PySem.F.slot_dict_ne da.typeIs PySem.F.entry_dict_ne ?_ (PySem.F.args_dict_ne_2 _ _)) hu
  show wpAny _ _ (Builtin.Dict.dictSlotArgs "__ne__" ⟨[.ref a, .ref b], []⟩ >>= _) _ _ s
  refine wpAny_bind ?_
  unfold Builtin.Dict.dictSlotArgs
  refine wpAny_bind (wpAny_notOrdered_dict da.typeIs ?_)
  show wpAny _ _ (pure (Value.ref a, Value.ref b)) _ _ s
  refine wpAny_pure ?_
  refine wpAny_bind (wpAny_isInstance (T := "dict") db.typeIs PySem.F.sub_dict_dict ?_)
  simp only [Bool.not_true, Bool.false_eq_true, if_false]
  refine wpAny_bind (wpAny_pure (wpAny_bind (wpAny_pure ?_)))
  refine wpAny_bind (samePairsP ha hb da db hits ?_)
  refine wpAny_pure ⟨_, rfl, ?_, ?_⟩
  · exact fun x => nomatch x
  · simpa using h
end
end PySem.W
namespace My
open PySem L2 PySem.Spec PyProof.Rows
/-- d != e, two dicts that are equal, their values too, of any depth -/
def rNeV (K : PySem.W.Frag) : R2 := fun x y H Q => ∃ (a b : Addr) (n : Nat) (ks ls : List (L2.Key × V)), x = .ref a ∧ y = .ref b ∧ n ≤ 60 ∧ H a = some (.dK ks) ∧ H b = some (.dK ls) ∧ ks.length = ls.length ∧ (∀ p ∈ ks, ∃ u, valV ls p.1 = some u ∧ EqV K H n p.2 u) ∧ Q (.bl false) H
theorem op_neV {X : Cx} (K : PySem.W.Frag) (hu : X.A.units + 65 < cLine) (hK : X.K = K := by rfl) : OpR X (compareOp .NotEq) (rNeV K) := by
  subst hK
  intro pins s σ H x y v u Q I rx ry h
  obtain ⟨a, b, n, ks, ls, rfl, rfl, hn, ea, eb, hlen, hp, q⟩ := h
  obtain rfl : v = Value.ref a := rx
  obtain rfl : u = Value.ref b := ry
  obtain ⟨_, ya, va, ra, da⟩ := (show ObjOk X.prog X.w H s.heap a (.dK ks) from I.hok a _ ea)
  obtain ⟨_, yb, vb, rb, db⟩ := (show ObjOk X.prog X.w H s.heap b (.dK ls) from I.hok b _ eb)
  have hl : va.length = vb.length := by rw [← ra.length, ← rb.length]; exact hlen
  exact PySem.W.my_rcP_neD (knd := mixKind X.prog X.w) (r := true) ya yb da db (show X.A.units < cLine by omega) (fun _ => hits_run (eqV_run I n X.A.in1 (by show X.A.units + 1 + n < cLine; omega)) rb ra hp) _ _ (fin_bl I q (by simp [hl]))
theorem units65 {k : Nat} {A : Around} (r : Room k A) : A.units + 65 < cLine := by have := r.un; omega
end My

namespace My
open PySem L2
/-! ### sorted of int tuples that ascend already -/
def lexL : List Int → List Int → Bool
  | [], [] => false
  | [], _ :: _ => true
  | _ :: _, [] => false
  | x :: xs, y :: ys => if x = y then lexL xs ys else decide (x < y)
theorem lexL_irr : ∀ xs : List Int, lexL xs xs = false
  | [] => rfl
  | x :: xs => by unfold lexL; rw [if_pos rfl]; exact lexL_irr xs
theorem lexL_asym : ∀ xs ys : List Int, lexL xs ys = true → lexL ys xs = false
  | [], [], _ => rfl
  | [], _ :: _, _ => rfl
  | _ :: _, [], h => by cases h
  | x :: xs, y :: ys, h => by
    unfold lexL at h ⊢
    by_cases e : x = y
    · rw [if_pos e] at h
      rw [if_pos e.symm]
      exact lexL_asym xs ys h
    · rw [if_neg e] at h
      rw [if_neg (fun z => e z.symm)]
      have := of_decide_eq_true h
      exact decide_eq_false (by omega)
theorem lexL_tri : ∀ xs ys : List Int, lexL xs ys = false → lexL ys xs = false → xs = ys
  | [], [], _, _ => rfl
  | [], _ :: _, h, _ => by cases h
  | _ :: _, [], _, h => by cases h
  | x :: xs, y :: ys, h, h' => by
    unfold lexL at h h'
    by_cases e : x = y
    · rw [if_pos e] at h
      rw [if_pos e.symm] at h'
      rw [e, lexL_tri xs ys h h']
    · rw [if_neg e] at h
      rw [if_neg (fun z => e z.symm)] at h'
      have a := of_decide_eq_false h
      have b := of_decide_eq_false h'
      omega
theorem lexL_trans : ∀ xs ys zs : List Int, lexL xs ys = true → lexL ys zs = true → lexL xs zs = true
  | [], [], _, h, _ => by cases h
  | [], _ :: _, [], _, h => by cases h
  | [], _ :: _, _ :: _, _, _ => rfl
  | _ :: _, [], _, h, _ => by cases h
  | _ :: _, _ :: _, [], _, h => by cases h
  | x :: xs, y :: ys, z :: zs, h, h' => by
    unfold lexL at h h' ⊢
    by_cases e : x = y
    · rw [if_pos e] at h
      by_cases e2 : y = z
      · rw [if_pos e2] at h'
        rw [if_pos (e.trans e2)]
        exact lexL_trans xs ys zs h h'
      · rw [if_neg e2] at h'
        rw [if_neg (by rw [e]; exact e2), e]
        exact h'
    · rw [if_neg e] at h
      have a := of_decide_eq_true h
      by_cases e2 : y = z
      · rw [if_neg (by rw [← e2]; exact e), ← e2]
        exact h
      · rw [if_neg e2] at h'
        have b := of_decide_eq_true h'
        rw [if_neg (by omega)]
        exact decide_eq_true (by omega)
theorem lexL_le {xs ys zs : List Int} (h1 : lexL ys xs = false) (h2 : lexL zs ys = false) : lexL zs xs = false := by
  cases e : lexL zs xs with
  | false => rfl
  | true =>
    cases e2 : lexL ys zs with
    | true => rw [lexL_trans ys zs xs e2 e] at h1; cases h1
    | false =>
      have := lexL_tri ys zs e2 h2
      subst this
      rw [e] at h1; cases h1
section
open PySem.Spec PyProof.Rows SrtO Srt
def IsTI (h : Heap) (v : Value) (ns : List Int) : Prop := ∃ a o items n, v = .ref a ∧ h.get? a = some o ∧ o.cls = .type "tuple" ∧ o.data = .seq items n ∧ IntsAre items.toList ns
def keyOf (h : Heap) : Value → List Int
  | .ref a => match h.get? a with
    | some o => match o.data with
      | .seq items _ => items.toList.map iv
      | _ => []
    | none => []
  | _ => []
theorem ints_iv : ∀ {us : List Value} {ns : List Int}, IntsAre us ns → us.map iv = ns
  | _, _, .nil => rfl
  | _, _, .cons n t r => by rw [List.map_cons, ints_iv r]; rfl
theorem IsTI.key {h : Heap} {v : Value} {ns : List Int} (p : IsTI h v ns) : keyOf h v = ns := by
  obtain ⟨a, o, items, n, rfl, ho, _, hd, hi⟩ := p
  unfold keyOf
  dsimp only
  rw [ho]
  dsimp only
  rw [hd]
  exact ints_iv hi
theorem IsTI.keeps {h h' : Heap} {v : Value} {ns : List Int} (p : IsTI h v ns) (kk : ∀ b o, h.get? b = some o → o.cls = .type "tuple" → h'.get? b = some o) : IsTI h' v ns := by
  obtain ⟨a, o, items, n, e, ho, hc, hd, hi⟩ := p
  exact ⟨a, o, items, n, e, kk a o ho hc, hc, hd, hi⟩
section
variable {prog : Program} {w : World} {A : Around} {s : Shared} {E : Value → Shared → Prop}
theorem oneLt_any (c : Bool) {Q : Bool → Shared → Prop} {p q : Int} {t u : Tok} (h : Q (decide (p < q)) s) : wpAny (model prog w) A (oneLt' c (.int p t) (.int q u)) Q E s := by
  cases c with
  | true => exact oneLt_int h
  | false => exact PySem.W.kat_one _ _ (PyProof.Rows.lt_int (Q := PySem.W.BoolBack Q) h)
theorem lexl_run {Q : Bool → Shared → Prop} : ∀ {xs ys : List Value} {ms ns : List Int} (i : Nat) {fin : Bool}, IntsAre xs ms → IntsAre ys ns → fin = decide (xs.length < ys.length) → Q (lexL ms ns) s → PySem.W.KatLex prog w A true fin Q (xs.zip ys) i s
  | [], [], _, _, i, fin, hx, hy, hf, h => by
    cases hx; cases hy
    exact PySem.W.kat_nil (by rw [hf]; exact h)
  | [], _ :: _, _, _, i, fin, hx, hy, hf, h => by
    cases hx
    cases hy
    exact PySem.W.kat_nil (by rw [hf]; exact h)
  | _ :: _, [], _, _, i, fin, hx, hy, hf, h => by
    cases hx
    cases hy
    exact PySem.W.kat_nil (by rw [hf]; exact h)
  | _ :: xs, _ :: ys, _, _, i, fin, hx, hy, hf, h => by
    cases hx with
    | @cons m t _ ms hx =>
    cases hy with
    | @cons n u _ ns hy =>
    refine PySem.W.kat_cons (SeqAt.EqAt.int_int m t n u prog w _ _ ?_)
    refine PySem.W.kat_go (fun e1 => ?_) (fun e1 => ?_)
    · have e : m = n := by simpa using e1
      refine PySem.W.kat_yes (lexl_run (i + 1) hx hy (by rw [hf]; simp) ?_)
      unfold lexL at h
      rw [if_pos e] at h
      exact h
    · have e : ¬ m = n := by simpa using e1
      refine PySem.W.kat_no (oneLt_any _ ?_)
      unfold lexL at h
      rw [if_neg e] at h
      exact h
theorem ti_cmp {vs : List Value} {k : Value → List Int} (hp : ∀ v ∈ vs, IsTI s.heap v (k v)) : Cmp prog w A s (tuples' true) (fun p => p.1 ∈ vs) (lt2 fun v u => lexL (k v) (k u)) := by
  intro p q hm hm'
  have h1 := hp _ hm
  have h2 := hp _ hm'
  show wpAny (model prog w) A (keyLt' (tuples' true) p.1 q.1) (fun r s' => s' = s ∧ r = lexL (k p.1) (k q.1)) (fun _ _ => False) s
  generalize k p.1 = x at h1 ⊢
  generalize k q.1 = y at h2 ⊢
  obtain ⟨a, o, it, n, e, ho, hc, hd, hi⟩ := h1
  obtain ⟨a', o', it', n', e', ho', hc', hd', hi'⟩ := h2
  rw [e, e']
  refine PySem.W.kat_lt ho hd ho' hd' ?_
  exact lexl_run 0 hi hi' (by simp) ⟨rfl, rfl⟩
theorem firsts_ti {h : Heap} {k : Value → List Int} : ∀ {vs : List Value}, (∀ v ∈ vs, IsTI h v (k v) ∧ k v ≠ []) → ∃ fs : List Value, PySem.W.KatTups h vs fs ∧ fs.length = vs.length ∧ ∀ f ∈ fs, ∃ x t, f = Value.int x t
  | [], _ => ⟨[], PySem.W.KatTups.nil, rfl, fun _ hm => by simp at hm⟩
  | v :: vs, hp => by
    obtain ⟨fs, h1, h2, h3⟩ := firsts_ti (vs := vs) fun v' hm => hp v' (List.mem_cons_of_mem _ hm)
    obtain ⟨⟨a, o, it, n, e, ho, hc, hd, hi⟩, hne⟩ := hp v (List.mem_cons_self ..)
    generalize k v = ns at hi hne
    obtain ⟨its⟩ := it
    cases hi with
    | nil => exact absurd rfl hne
    | @cons m t us ms hi =>
      refine ⟨.int m t :: fs, ?_, by rw [List.length_cons, List.length_cons, h2], fun f hm => ?_⟩
      · rw [e]
        exact PySem.W.KatTups.cons ho hc hd (by simp) h1
      · rcases List.mem_cons.mp hm with rfl | hm
        · exact ⟨_, t, rfl⟩
        · exact h3 f hm
theorem ti_sortable {a : Addr} {vs : List Value} {k : Value → List Int} (h0 : 0 < vs.length) (hp : ∀ v ∈ vs, IsTI s.heap v (k v) ∧ k v ≠ []) (ha : ∀ o, s.heap.get? a = some o → o.cls ≠ .type "tuple") : SortableO prog w A s a vs fun v u => lexL (k v) (k u) := by
  intro h' keep
  have hp' : ∀ v ∈ vs, IsTI h' v (k v) ∧ k v ≠ [] := fun v hm => ⟨(hp v hm).1.keeps fun b o e c => keep b o (fun z => by subst z; exact ha o e c) e, (hp v hm).2⟩
  obtain ⟨fs, h1, h2, h3⟩ := firsts_ti hp'
  refine ⟨tuples' true, fun Q E hq => ?_, ti_cmp fun v hm => (hp' v hm).1⟩
  refine PySem.W.kat_kind (T := .type "int") h1 (by omega) (fun f hm => ?_) (by rfl) ?_
  · obtain ⟨x, t, rfl⟩ := h3 f hm
    exact PySem.W.Looks.now
  · have e : (Value.type "int" != Value.type "tuple") = true := by first | decide +kernel | rfl | decide
    rw [e]
    exact hq
theorem swo_lexL (k : Value → List Int) : Swo fun v u => lexL (k v) (k u) := ⟨fun x y h => lexL_asym _ _ h, fun x y z h1 h2 => lexL_le h1 h2⟩
theorem sorted_tiO {l : Addr} {vs : List Value} {k : Value → List Int} {Q : Value → Shared → Prop} (hl : s.heap.IsList l vs.toArray) (hz : vs.length ≤ sizeLine) (hp : ∀ v ∈ vs, IsTI s.heap v (k v) ∧ k v ≠ []) (hs : vs.Pairwise fun v u => lexL (k v) (k u) = true)
    (h : ∀ (h' : Heap) (d : Addr), (∀ b o, s.heap.get? b = some o → h'.get? b = some o) → s.heap.objs.size ≤ d → (∃ n, h'.get? d = some (seqObj "list" vs.toArray n)) → Q (.ref d) { s with heap := h' }) :
    wpAny (model prog w) A (call (.builtin "sorted") [.ref l]) Q E s := by
  refine sorted_ord (swo_lexL k) hl hz (fun h2' h₁ a ha kk => ?_) fun out hso hb => ?_
  · refine ti_sortable (s := { s with heap := h₁ }) (by omega) (fun v hm => ⟨(hp v hm).1.keeps fun b o e _ => (kk b o e).2, (hp v hm).2⟩) fun o e => ?_
    have e' : some o = some (seqObj "list" vs.toArray 0) := e.symm.trans ha
    cases e'
    intro c
    exact absurd (Value.type.inj c) (by decide)
  · have eo : out = vs := by
      refine List.Perm.eq_of_pairwise (le := fun v u => lexL (k u) (k v) = false) (fun a b ha hb' h1 h2 => ?_) hso (hs.imp fun {a b} e => lexL_asym _ _ e) hb.perm
      have ek : k a = k b := lexL_tri _ _ h2 h1
      have ha' := hb.perm.subset ha
      obtain ⟨i, hi, rfl⟩ := List.getElem_of_mem ha'
      obtain ⟨j, hj, rfl⟩ := List.getElem_of_mem hb'
      have pw := List.pairwise_iff_getElem.mp hs
      rcases Nat.lt_trichotomy i j with q | q | q
      · have := pw i j hi hj q
        rw [ek, lexL_irr] at this; cases this
      · subst q; rfl
      · have := pw j i hj hi q
        rw [ek, lexL_irr] at this; cases this
    subst eo
    exact h _ _ (fun b o e => sortedAll_old e) (Nat.le_succ _) (sortedAll_at s.heap out out.toArray)
end
def rSortedTA (K : PySem.W.Frag) : List V → Hp → VK → Prop := fun vs H Q => ∃ (a : Addr) (xs : List V) (ps : List (List Int)), vs = [V.ref a] ∧ SqL K H a xs ∧ Paired (fun x p => ∃ t, x = V.ref t ∧ H t = some (.tup (p.map V.int))) xs ps ∧ (∀ p ∈ ps, p ≠ []) ∧ ps.Pairwise (fun p q => lexL p q = true) ∧
  ∀ p, H p = none → Q (.ref p) (upd H p (.lst xs))
theorem vals_ti {X : Cx} {pins : List (Addr × Obj)} {σ : L2.St} {H : Hp} {s : Shared} (I : Inv X pins σ H s) : ∀ {xs : List V} {ps : List (List Int)} {its : List Value}, Paired (fun x p => ∃ t, x = V.ref t ∧ H t = some (.tup (p.map V.int))) xs ps → Vals xs its → Paired (fun v p => IsTI s.heap v p) its ps
  | _, _, _, .nil, h => by cases h; exact .nil
  | _, _, _, .cons h t, r => by
    cases r with
    | cons r1 r2 =>
      refine .cons ?_ (vals_ti I t r2)
      obtain ⟨t, rfl, ht⟩ := h
      obtain ⟨its2, rr, ⟨o, ho, hc, n, hd⟩, _⟩ := I.tuple (SqT.of (K := X.K) ht)
      cases r1
      exact ⟨t, o, its2.toArray, n, rfl, ho, hc, hd, by simpa using rr.ints⟩
theorem paired_key {h : Heap} : ∀ {its : List Value} {ps : List (List Int)}, Paired (fun v p => IsTI h v p) its ps → its.map (keyOf h) = ps ∧ ∀ v ∈ its, IsTI h v (keyOf h v) ∧ keyOf h v ∈ ps
  | _, _, .nil => ⟨rfl, fun v hv => by cases hv⟩
  | _, _, .cons h t => by
    obtain ⟨e1, e2⟩ := paired_key t
    have ek := h.key
    refine ⟨by rw [List.map_cons, e1, ek], fun v hv => ?_⟩
    rcases List.mem_cons.mp hv with rfl | hv
    · rw [ek]; exact ⟨h, List.mem_cons_self⟩
    · exact ⟨(e2 v hv).1, List.mem_cons_of_mem _ (e2 v hv).2⟩
theorem cr_sortedTA {X : Cx} (K : PySem.W.Frag) (hK : X.K = K := by rfl) : CallR X (.builtin "sorted") (rSortedTA K) := by
  subst hK
  intro pins s σ H vs us Q I r h
  obtain ⟨a, xs, ps, rfl, hs, hpp, hne, hpw, q⟩ := h
  obtain ⟨its, rv, hl, hz⟩ := I.list hs
  obtain ⟨u, rfl, ru⟩ := vals1 r
  obtain rfl : u = Value.ref a := ru
  obtain ⟨e1, e2⟩ := paired_key (vals_ti I hpp rv)
  refine sorted_tiO (k := keyOf s.heap) hl.isList (by rw [← rv.length]; exact hz) (fun v hv => ⟨(e2 v hv).1, hne _ (e2 v hv).2⟩) (by rw [← e1] at hpw; exact List.pairwise_map.mp hpw) fun h' d kp hd hn => ?_
  obtain ⟨n, hn⟩ := hn
  exact ⟨.ref d, upd H d (.lst xs), I.laid (t' := s.toks) kp hd (show ObjOk X.prog X.w _ _ _ (.lst xs) from ⟨by exact hz, its, n, rv, hn⟩), rfl, q _ (I.hok.fresh hd)⟩
end
end My

namespace My
open PySem L2 PySem.Spec PyProof.Rows
/-! ### t * k, k at most 1 -/
theorem tuple_mul0 (l : Addr) (items : Array Value) (n : Nat) (dd : Option Addr) (sl : Array (Option Value)) (x : Int) (u : Tok) (c0 : (decide (x < -(2 ^ 63)) || decide (x ≥ 2 ^ 63)) = false) (c1 : (items.isEmpty || x == 1) = false) (c2 : (decide (x ≤ 0) || items.isEmpty) = true) :
    Meets (Builtin.«tuple.__mul__» ⟨[.ref l, .int x u], []⟩) (fun _ R s => s.heap.get? l = some { cls := .type "tuple", dict := dd, data := .seq items n, slots := sl } ∧
      R (.ok (.ret (Value.ref s.heap.objs.size))) { s with heap := s.heap.push { cls := Value.type "tuple", data := Data.seq #[] }, toks := s.toks }) :=
  .of_wp fun prog w A R s h => by
    obtain ⟨hp, g, d, tk, os⟩ := s
    obtain ⟨hl, h⟩ := h
    have f1 := AutoSeq1.idx_int
    wp_walk using wpAny_loadPart' hl
    repeat (first
      | (refine wpAny_ite_false (decide_eq_false (by rw [c0]; exact Bool.false_ne_true)) ?_; wp_walk using wpAny_loadPart' hl)
      | (refine wpAny_ite_false (decide_eq_false (by rw [c1]; exact Bool.false_ne_true)) ?_; wp_walk using wpAny_loadPart' hl)
      | (refine wpAny_ite_true (decide_eq_true c2) ?_; wp_walk using wpAny_loadPart' hl))
    exact ⟨_, rfl, h⟩
theorem tuple_mul1 (l : Addr) (items : Array Value) (n : Nat) (dd : Option Addr) (sl : Array (Option Value)) (u : Tok) :
    Meets (Builtin.«tuple.__mul__» ⟨[.ref l, .int 1 u], []⟩) (fun _ R s => s.heap.get? l = some { cls := .type "tuple", dict := dd, data := .seq items n, slots := sl } ∧
      R (.ok (.ret (Value.ref l))) s) :=
  .of_wp fun prog w A R s h => by
    obtain ⟨hp, g, d, tk, os⟩ := s
    obtain ⟨hl, h⟩ := h
    have f1 := AutoSeq1.idx_int
    have c1 : (items.isEmpty || ((1 : Int) == 1)) = true := by simp
    wp_walk using wpAny_loadPart' hl
    repeat (first
      | (refine wpAny_ite_true (decide_eq_true c1) ?_; wp_walk using wpAny_loadPart' hl))
    exact ⟨_, rfl, h⟩
def rRepS (K : PySem.W.Frag) : R2 := fun x y H Q => ∃ l k xs, x = .ref l ∧ y = .int k ∧ SqT K H l xs ∧ xs ≠ [] ∧ -1000 ≤ k ∧ k ≤ 1000 ∧ xs.length ≤ 1000 ∧ (k = 1 → Q (.ref l) H) ∧ (k ≤ 0 → ∀ p, H p = none → Q (.ref p) (upd H p (.tup []))) ∧ (2 ≤ k → ∀ p, H p = none → Q (.ref p) (upd H p (.tup (List.replicate k.toNat xs).flatten)))
theorem op_repS {X : Cx} (K : PySem.W.Frag) (hK : X.K = K := by rfl) : OpR X (binaryOp .Mult) (rRepS K) := by
  subst hK
  intro pins s σ H x y v u Q I rx ry h
  obtain ⟨l, k, xs, rfl, rfl, hT, hne, hm, h1, hz, q1, q0, q2⟩ := h
  by_cases k2 : 2 ≤ k
  · exact op_repT pins s σ H _ _ v u Q I rx ry ⟨l, k, xs, rfl, rfl, hT, hne, k2, h1, hz, q2 k2⟩
  cases rx
  obtain ⟨t, rfl⟩ := ry
  obtain ⟨its, r, ⟨⟨cls, dd, data, sl⟩, ho, hc, n, hd⟩, hs⟩ := I.tuple hT
  simp only at hc hd
  subst hc hd
  have hle : its.length = xs.length := r.length.symm
  have hn : its ≠ [] := fun e => hne (by
    rw [e] at hle
    exact List.eq_nil_of_length_eq_zero hle.symm)
  have hi : its.toArray.isEmpty = false := by
    cases its with
    | nil => exact absurd rfl hn
    | cons a b => rfl
  by_cases k1 : k = 1
  · subst k1
    refine wpAny_binaryOp_repeat_ref (T := "tuple") (U := "int") (by decide) ⟨_, ho, rfl⟩ (fun s' => typeIs_int s' 1 t) noFill_tuple_mul F.fills_int_mul F.slot_int_rmul repeat_tuple F.slot_int_index.lookup
      (call_meets F.slot_int_rmul (typeIs_int s 1 t) F.entry_int_rmul (F.args_int_rmul_2 _ _) (int_rmul_tuple 1 t l its.toArray n dd sl)
        ⟨ho, rfl, ⟨_, ho, rfl⟩, call_meets F.slot_tuple_mul ⟨_, ho, rfl⟩ F.entry_tuple_mul (F.args_tuple_mul_2 _ _) (tuple_mul1 l its.toArray n dd sl t) ⟨ho, ?_⟩⟩)
    exact ⟨.ref l, H, I, rfl, q1 rfl⟩
  · have c0 : (decide (k < -(2 ^ 63)) || decide (k ≥ 2 ^ 63)) = false := by
      rw [decide_eq_false (by omega), decide_eq_false (by omega)] <;> rfl
    have c1 : (its.toArray.isEmpty || k == 1) = false := by
      rw [hi, Bool.false_or]
      exact beq_eq_false_iff_ne.mpr k1
    have c2 : (decide (k ≤ 0) || its.toArray.isEmpty) = true := by
      rw [decide_eq_true (show k ≤ 0 by omega)]; rfl
    refine wpAny_binaryOp_repeat_ref (T := "tuple") (U := "int") (by decide) ⟨_, ho, rfl⟩ (fun s' => typeIs_int s' k t) noFill_tuple_mul F.fills_int_mul F.slot_int_rmul repeat_tuple F.slot_int_index.lookup
      (call_meets F.slot_int_rmul (typeIs_int s k t) F.entry_int_rmul (F.args_int_rmul_2 _ _) (int_rmul_tuple k t l its.toArray n dd sl)
        ⟨ho, rfl, ⟨_, ho, rfl⟩, call_meets F.slot_tuple_mul ⟨_, ho, rfl⟩ F.entry_tuple_mul (F.args_tuple_mul_2 _ _) (tuple_mul0 l its.toArray n dd sl k t c0 c1 c2) ⟨ho, ?_⟩⟩)
    refine ⟨.ref s.heap.objs.size, _, I.laid (t' := s.toks) (o := .tup []) (fun b ob q => Heap.get?_push_of_some _ q) (Nat.le_refl _) ?_, rfl, q0 (by omega) _ (I.hok.fresh (Nat.le_refl _))⟩
    exact ⟨Nat.zero_le _, [], .nil, IsTup.new _ _⟩
end My

namespace My
open PySem L2
def topS (i : Nat) : Stmt := PySem.Challenge.pw_steadhold_k05_streams.main.body.getD i (.Pass ⟨0, 0, 0, 0⟩)
structure Txt (K : PySem.W.Frag) (mg : Str → Option Value) (w : World) (A_PARTS : Addr) : Prop where
  b_abs : mg "abs" = none
  b_all : mg "all" = none
  b_bool : mg "bool" = none
  b_int : mg "int" = none
  b_isinstance : mg "isinstance" = none
  b_len : mg "len" = none
  b_list : mg "list" = none
  b_range : mg "range" = none
  b_sorted : mg "sorted" = none
  b_str : mg "str" = none
  b_sum : mg "sum" = none
  b_tuple : mg "tuple" = none
  c_MOST_WORDS : ∃ t, mg "MOST_WORDS" = some (.int 48 t)
  c_TOP : ∃ t, mg "TOP" = some (.int 4294967295 t)
  c__DROP : ∃ t, mg "_DROP" = some (.int 5 t)
  c__MAKE_DIRECTORY : ∃ t, mg "_MAKE_DIRECTORY" = some (.int 1 t)
  c__MAKE_FILE : ∃ t, mg "_MAKE_FILE" = some (.int 2 t)
  c__PUT : ∃ t, mg "_PUT" = some (.int 3 t)
  c__SHRINK : ∃ t, mg "_SHRINK" = some (.int 4 t)
  c__SIZE : ∃ t, mg "_SIZE" = some (.int 7 t)
  c__PARTS : mg "_PARTS" = some (.ref A_PARTS)
  k__PARTS : ∃ es n, K.lookup A_PARTS = some ⟨.type "dict", none, .dict es n, #[]⟩
  g_make : ∃ f, mg "_is_one_kind" = some (.ref f) ∧ KGet K w A_PARTS "make" (some (.ref f))
  g_put : ∃ f, mg "_are_place_and_words" = some (.ref f) ∧ KGet K w A_PARTS "put" (some (.ref f))
  g_get : ∃ f, mg "_are_two_numbers" = some (.ref f) ∧ KGet K w A_PARTS "get" (some (.ref f))
  g_size : ∃ f, mg "_are_none" = some (.ref f) ∧ KGet K w A_PARTS "size" (some (.ref f))
  g_shrink : ∃ f, mg "_is_one_number" = some (.ref f) ∧ KGet K w A_PARTS "shrink" (some (.ref f))
  g_drop : ∃ f, mg "_are_none" = some (.ref f) ∧ KGet K w A_PARTS "drop" (some (.ref f))
  g_list : ∃ f, mg "_are_none" = some (.ref f) ∧ KGet K w A_PARTS "list" (some (.ref f))
  g_sync : KGet K w A_PARTS "sync" none
end My

namespace My
open PySem L2
local macro_rules | `(tactic| walk_at "ne") => `(tactic| first | assumption | exact Ne.symm (by assumption) | exact ne_of_none (by assumption) (by assumption) | exact Ne.symm (ne_of_none (by assumption) (by assumption)))
local macro_rules | `(tactic| walk_at "hp") => `(tactic| first | assumption | with_reducible exact upd_same | (with_reducible refine Eq.trans (upd_ne ?_) ?_; rotate_left; walk_at "hp"; walk_at "ne"))
local macro_rules | `(tactic| walk_at "cnd") => `(tactic| first | omega | (show (0 : Int) < _; omega) | exact ⟨by omega, by omega⟩ | exact Or.inl ⟨by omega, by omega⟩ | exact Or.inr ⟨by omega, by omega⟩ | exact ⟨by omega, by omega, by decide⟩ | exact ⟨by omega, by omega, by omega⟩)
local macro_rules | `(tactic| walk_at "at") => `(tactic| first | exact atC 0 rfl rfl | exact atC 1 rfl rfl | exact atC 2 rfl rfl | exact atC 3 rfl rfl | exact atC 4 rfl rfl | exact atC 5 rfl rfl | exact atC 6 rfl rfl | exact atC 7 rfl rfl)
local macro_rules | `(tactic| walk_at "ix") => `(tactic| first | exact ixC 0 rfl (Nat.le_of_ble_eq_true rfl) | exact ixC 1 rfl (Nat.le_of_ble_eq_true rfl) | exact ixC 2 rfl (Nat.le_of_ble_eq_true rfl) | exact ixC 3 rfl (Nat.le_of_ble_eq_true rfl) | exact ixC 4 rfl (Nat.le_of_ble_eq_true rfl) | exact ixC 5 rfl (Nat.le_of_ble_eq_true rfl))
local macro_rules | `(tactic| walk_at "st") => `(tactic| first
  | refine ⟨_, rfl, ?_⟩
  | refine ⟨_, _, rfl, rfl, (by walk_at "cnd" : (_ : Prop)), ?_⟩
  | refine ⟨_, _, rfl, rfl, ?_⟩
  | refine ⟨rfl, ?_⟩
  | refine Or.inl ⟨_, rfl, ?_⟩
  | refine ⟨_, _, _, _, rfl, rfl, by exact SqL.of (by walk_at "hp"), by walk_at "at", ?_⟩
  | refine ⟨_, _, _, _, rfl, rfl, by exact SqT.of (by walk_at "hp"), by walk_at "at", ?_⟩
  | refine ⟨_, _, _, _, rfl, rfl, by walk_at "hp", by walk_at "ix", ?_⟩
  | refine ⟨_, _, rfl, Or.inl (by exact SqL.of (by walk_at "hp")), ?_⟩
  | refine ⟨_, _, rfl, Or.inr (by exact SqT.of (by walk_at "hp")), ?_⟩)
local macro_rules | `(tactic| walk_at "so") => `(tactic| first
  | refine ⟨_, _, _, _, _, rfl, by walk_at "hp", by assumption, by assumption, rfl, ?_⟩
  | refine ⟨_, _, _, _, rfl, by walk_at "hp", by assumption, by assumption, Nat.le_of_ble_eq_true rfl, ?_⟩
  | refine ⟨_, _, _, rfl, by walk_at "hp", rfl, ?_⟩
  | walk_at "st")
local macro_rules | `(tactic| walk_at "ro") => `(tactic| repeat walk_at "so")
local macro_rules | `(tactic| walk_at "run") => `(tactic| repeat walk_at "st")

/-! the tape -/
def Tape (H : Hp) (a s : Addr) : Prop := ∃ (ns : List Int) (i r z : Int), H a = some (.lst [.ref s, .int i, .int r, .int z]) ∧ H s = some (.lst (ns.map V.int)) ∧ 0 ≤ i ∧ 0 ≤ r ∧ 0 ≤ z ∧ z < 2147483647
def spNext : Sp := fun vs H Q _ => ∃ (a t : Addr) (many : Int), vs = [.ref a, .int many] ∧ 0 < many ∧ many < 1000000 ∧ Tape H a t ∧ ∀ v H', 0 ≤ v → v < many → Tape H' a t → Chg a H H' → Q (.int v) H'
theorem Tape.lst {H : Hp} {a t : Addr} (h : Tape H a t) : ∃ xs, H a = some (.lst xs) := by
  obtain ⟨ns, i, r, z, ha, _⟩ := h
  exact ⟨_, ha⟩
theorem Tape.at {H : Hp} {a t p : Addr} (h : Tape H a t) (hp : H p = none) : p ≠ a := by
  obtain ⟨ns, i, r, z, ha, _⟩ := h
  exact (ne_of_none ha hp).symm
theorem Tape.at2 {H : Hp} {a t p : Addr} (h : Tape H a t) (hp : H p = none) : p ≠ t := by
  obtain ⟨ns, i, r, z, ha, hs, _⟩ := h
  exact (ne_of_none hs hp).symm
theorem Tape.same {H H' : Hp} {a t : Addr} (h : Tape H a t) (s : Same H H') : Tape H' a t := by
  obtain ⟨ns, i, r, z, ha, hs, q⟩ := h
  exact ⟨ns, i, r, z, s _ _ ha, s _ _ hs, q⟩
theorem Tape.upd {H : Hp} {a t W : Addr} {o : HO} (h : Tape H a t) (n1 : W ≠ a) (n2 : W ≠ t) : Tape (L2.upd H W o) a t := by
  obtain ⟨ns, i, r, z, ha, hs, q⟩ := h
  exact ⟨ns, i, r, z, by rw [upd_ne n1.symm]; exact ha, by rw [upd_ne n2.symm]; exact hs, q⟩
theorem Tape.ts {H H' : Hp} {a t : Addr} (h : Tape H a t) (c : Chg a H H') : TS H H' := by
  obtain ⟨xs, e⟩ := h.lst
  exact c.ts e
section
variable {P : Program} {w : World} {K : PySem.W.Frag} {mg : Str → Option Value} {base : Heap} {A_PARTS : Addr}
abbrev s_law_next : Stmt := topS 43
abbrev ns_law_next : List Str := ["tape", "many", "rest", "cell"]
theorem sc_law_next : FnScope ns_law_next ["tape", "many"] (defScope s_law_next) := ⟨rfl, rfl, rfl, by decide +kernel, rfl, by decide +kernel, by decide +kernel⟩

theorem ok_law_next {f : Addr} {fd : FuncData} (F : Fun K "_law_next" "_law_next" s_law_next f fd) (T : Txt K mg  w A_PARTS) : FnOk P w K mg base CX0 1 f fd ["tape", "many"] spNext := by
  refine F.ok sc_law_next (fun vs H Q E h => ?_) (fun cdv A outer s H vs Q E hr h => ?_)
  · obtain ⟨a, s, many, rfl, _⟩ := h
    rfl
  · obtain ⟨a, s, many, rfl, m0, m1, ⟨ns, i, r, z, ha, hs, i0, r0, z0, z1⟩, k⟩ := h
    have nsa : s ≠ a := ne_of hs ha (by intro q; cases ns <;> cases q)
    refine ⟨_, (pss_cons (ps_set (i := 2) sc_law_next.nd rfl (Or.inl rfl) (pe_ix (kIxL K) (pv 0) pe_int (fun _ _ => rfl)))
  (C8.pss_cut (ps_if (pt_cmpR op_eq (pv 2) pe_int (nomark _)) (pss_cons (ps_set (i := 3) sc_law_next.nd rfl (Or.inl rfl) pe_int)
  (C8.pss_cut (ps_if (pt_cmpR op_lt (pe_ix (kIxL K) (pv 0) pe_int (fun _ _ => rfl)) (pe_callB (kLen K) (by rfl) T.b_len (by decide +kernel) (pa_cons (pe_ix (kIxL K) (pv 0) pe_int (fun _ _ => rfl)) pa_nil)) (nomark _)) (pss_cons (ps_set (i := 3) sc_law_next.nd rfl (Or.inl rfl) (pe_callB call_abs (by rfl) T.b_abs (by decide +kernel) (pa_cons (pe_callTy call_int1 (by rfl) T.b_int (by decide +kernel) (pa_cons (pe_ix (kIxL K) (pe_ix (kIxL K) (pv 0) pe_int (fun _ _ => rfl)) (pe_ix (kIxL K) (pv 0) pe_int (fun _ _ => rfl)) (fun _ _ => rfl)) pa_nil)) pa_nil)))
  (pss_one (ps_asg (pe_op op_add (pe_ix (kIxL K) (pv 0) pe_int (fun _ _ => rfl)) pe_int) (pg_sub (pv 0) pe_int set_list)))) pss_nil)
  (pss_cons (ps_set (i := 2) sc_law_next.nd rfl (Or.inl rfl) (pv 3))
  (pss_one (ps_if (pt_cmpR op_lt (pv 3) (pe_op op_pow pe_int pe_int) (nomark _)) (pss_cons (ps_asg (pe_op op_mod (pe_callTy call_int1 (by rfl) T.b_int (by decide +kernel) (pa_cons (pe_op op_add (pe_op op_add (pe_op op_mul (pe_ix (kIxL K) (pv 0) pe_int (fun _ _ => rfl)) pe_int) (pe_op op_mul (pv 3) pe_int)) pe_int) pa_nil)) pe_int) (pg_sub (pv 0) pe_int set_list))
  (pss_one (ps_ret (pe_op op_mod (pe_op op_mod (pe_callTy call_int1 (by rfl) T.b_int (by decide +kernel) (pa_cons (pe_op op_mul (pe_op op_fdiv (pe_ix (kIxL K) (pv 0) pe_int (fun _ _ => rfl)) pe_int) pe_int) pa_nil)) pe_int) (pv 1))))) pss_nil))))) pss_nil)
  (pss_cons (ps_asg (pe_op op_fdiv (pv 2) (pv 1)) (pg_sub (pv 0) pe_int set_list))
  (pss_one (ps_ret (pe_op op_mod (pe_callTy call_int1 (by rfl) T.b_int (by decide +kernel) (pa_cons (pv 2) pa_nil)) (pv 1))))))), ?_⟩
    -- rest = tape[2]; if rest == 0
    walk_at "run"
    refine ⟨fun σ H1 => ∃ i' r' v, σ = [some (.ref a), some (.int many), some (.int r'), v] ∧ 0 ≤ r' ∧ 0 ≤ i' ∧ H1 a = some (.lst [.ref s, .int i', .int r, .int z]) ∧ H1 s = some (.lst (ns.map V.int)) ∧ Chg a H H1, ?_, ?_⟩
    · walk_at "run"
      refine iteD (fun h1 => ?_) (fun h1 => ?_)
      · -- cell = 0; if tape[1] < len(tape[0])
        walk_at "run"
        refine ⟨fun σ H1 => ∃ cell i', σ = [some (.ref a), some (.int many), some (.int r), some (.int cell)] ∧ 0 ≤ cell ∧ 0 ≤ i' ∧ H1 a = some (.lst [.ref s, .int i', .int r, .int z]) ∧ H1 s = some (.lst (ns.map V.int)) ∧ Chg a H H1, ?_, ?_⟩
        · walk_at "run"
          refine iteD (fun h2 => ?_) (fun h2 => ?_)
          · have hi : i.toNat < ns.length := by simpa using (show i.toNat < (ns.map V.int).length by omega)
            walk_at "run"
            refine ⟨_, _, _, _, rfl, rfl, SqL.of hs, atC i.toNat (by omega) (by rw [List.getElem?_map, List.getElem?_eq_getElem hi]; rfl), ?_⟩
            walk_at "run"
            exact ⟨_, i + 1, rfl, by split <;> omega, by omega, upd_same, by rw [upd_ne nsa]; exact hs, Chg.upd⟩
          · exact ⟨0, i, rfl, by omega, i0, ha, hs, Chg.refl _ _⟩
        · rintro σ H1 ⟨cell, i', rfl, c0, i0', ha1, hs1, ch⟩
          walk_at "run"
          refine iteD (fun h3 => ?_) (fun h3 => ?_)
          · walk_at "run"
            exact k _ _ (Int.emod_nonneg _ (by omega)) (Int.emod_lt_of_pos _ m0) ⟨ns, i', r, _, upd_same, by rw [upd_ne nsa]; exact hs1, i0', r0, Int.emod_nonneg _ (by decide), Int.emod_lt_of_pos _ (by decide)⟩ (ch.trans Chg.upd)
          · exact ⟨i', cell, _, rfl, c0, i0', ha1, hs1, ch⟩
      · exact ⟨i, r, _, rfl, r0, i0, ha, hs, Chg.refl _ _⟩
    · rintro σ H1 ⟨i', r', v, rfl, c0, i0', ha1, hs1, ch⟩
      walk_at "run"
      exact k _ _ (Int.emod_nonneg _ (by omega)) (Int.emod_lt_of_pos _ m0) ⟨ns, i', r' / many, z, upd_same, by rw [upd_ne nsa]; exact hs1, i0', Int.ediv_nonneg c0 (by omega), z0, z1⟩ (ch.trans Chg.upd)
end

end My

namespace My
open PySem L2
local macro_rules | `(tactic| walk_at "ne") => `(tactic| first | assumption | exact Ne.symm (by assumption) | exact ne_of_none (by assumption) (by assumption) | exact Ne.symm (ne_of_none (by assumption) (by assumption)))
local macro_rules | `(tactic| walk_at "hp") => `(tactic| first | assumption | with_reducible exact upd_same | (with_reducible refine Eq.trans (upd_ne ?_) ?_; rotate_left; walk_at "hp"; walk_at "ne"))
local macro_rules | `(tactic| walk_at "cnd") => `(tactic| first | omega | (show (0 : Int) < _; omega) | exact ⟨by omega, by omega⟩ | exact Or.inl ⟨by omega, by omega⟩ | exact Or.inr ⟨by omega, by omega⟩ | exact ⟨by omega, by omega, by decide⟩ | exact ⟨by omega, by omega, by omega⟩)
local macro_rules | `(tactic| walk_at "at") => `(tactic| first | exact atC 0 rfl rfl | exact atC 1 rfl rfl | exact atC 2 rfl rfl | exact atC 3 rfl rfl | exact atC 4 rfl rfl | exact atC 5 rfl rfl | exact atC 6 rfl rfl | exact atC 7 rfl rfl)
local macro_rules | `(tactic| walk_at "ix") => `(tactic| first | exact ixC 0 rfl (Nat.le_of_ble_eq_true rfl) | exact ixC 1 rfl (Nat.le_of_ble_eq_true rfl) | exact ixC 2 rfl (Nat.le_of_ble_eq_true rfl) | exact ixC 3 rfl (Nat.le_of_ble_eq_true rfl) | exact ixC 4 rfl (Nat.le_of_ble_eq_true rfl) | exact ixC 5 rfl (Nat.le_of_ble_eq_true rfl))
local macro_rules | `(tactic| walk_at "st") => `(tactic| first
  | refine ⟨_, rfl, ?_⟩
  | refine ⟨_, _, rfl, rfl, (by walk_at "cnd" : (_ : Prop)), ?_⟩
  | refine ⟨_, _, rfl, rfl, ?_⟩
  | refine ⟨rfl, ?_⟩
  | refine Or.inl ⟨_, rfl, ?_⟩
  | refine ⟨_, _, _, _, rfl, rfl, by exact SqL.of (by walk_at "hp"), by walk_at "at", ?_⟩
  | refine ⟨_, _, _, _, rfl, rfl, by exact SqT.of (by walk_at "hp"), by walk_at "at", ?_⟩
  | refine ⟨_, _, _, _, rfl, rfl, by walk_at "hp", by walk_at "ix", ?_⟩
  | refine ⟨_, _, rfl, Or.inl (by exact SqL.of (by walk_at "hp")), ?_⟩
  | refine ⟨_, _, rfl, Or.inr (by exact SqT.of (by walk_at "hp")), ?_⟩)
local macro_rules | `(tactic| walk_at "so") => `(tactic| first
  | refine ⟨_, _, _, _, _, rfl, by walk_at "hp", by assumption, by assumption, rfl, ?_⟩
  | refine ⟨_, _, _, _, rfl, by walk_at "hp", by assumption, by assumption, Nat.le_of_ble_eq_true rfl, ?_⟩
  | refine ⟨_, _, _, rfl, by walk_at "hp", rfl, ?_⟩
  | walk_at "st")
local macro_rules | `(tactic| walk_at "ro") => `(tactic| repeat walk_at "so")
local macro_rules | `(tactic| walk_at "run") => `(tactic| repeat walk_at "st")

section
variable {P : Program} {w : World} {K : PySem.W.Frag} {mg : Str → Option Value} {base : Heap} {A_PARTS : Addr}
abbrev s_is_at_least : Stmt := topS 1
abbrev ns_is_at_least : List Str := ["value", "least"]
theorem sc_is_at_least : FnScope ns_is_at_least ["value", "least"] (defScope s_is_at_least) := ⟨rfl, rfl, rfl, by decide +kernel, rfl, by decide +kernel, by decide +kernel⟩

theorem ok_is_at_least {f : Addr} {fd : FuncData} (F : Fun K "is_at_least" "is_at_least" s_is_at_least f fd) (T : Txt K mg  w A_PARTS) : FnOk P w K mg base CX0 1 f fd ["value", "least"] spGe := by
  refine F.ok sc_is_at_least (fun vs H Q E h => ?_) (fun cdv A outer s H vs Q E hr h => ?_)
  · obtain ⟨v, d, lo, rfl, _⟩ := h
    rfl
  · obtain ⟨v, d, lo, rfl, hd, k⟩ := h
    refine ⟨_, (pss_one (ps_ret (pe_and (pe_callB (kIsi K) (by rfl) T.b_isinstance (by decide +kernel) (pa_cons (pv 0) (pa_cons (pe_bltn (v := .ty "int") (by rfl) T.b_int (by decide +kernel) rfl) pa_nil))) (pe_and (pe_not (pe_callB (kIsi K) (by rfl) T.b_isinstance (by decide +kernel) (pa_cons (pv 0) (pa_cons (pe_bltn (v := .ty "bool") (by rfl) T.b_bool (by decide +kernel) rfl) pa_nil)))) (pe_one (pe_cmpR op_ge (pv 0) (pv 1) (nomark _))))))), ?_⟩
    refine ⟨_, rfl, _, _, _, _, _, rfl, .ty _, hd.ty, kit_ty (kitInt d), _, rfl, ?_⟩
    cases hd with
    | int i =>
      refine iteT ⟨_, rfl, _, _, _, _, _, rfl, .ty _, (Dt.int i).ty, kit_ty (kitBool (.int i)), _, rfl, _, rfl, iteT ?_⟩
      walk_at "run"
      exact k
    | bl b => exact iteT ⟨_, rfl, _, _, _, _, _, rfl, .ty _, (Dt.bl b).ty, kit_ty (kitBool (.bool b)), _, rfl, _, rfl, iteF k⟩
    | non => exact iteF k
    | str x => exact iteF k
    | lst a b => exact iteF k
    | tup a b => exact iteF k
abbrev s_is_between : Stmt := topS 2
abbrev ns_is_between : List Str := ["value", "least", "most"]
theorem sc_is_between : FnScope ns_is_between ["value", "least", "most"] (defScope s_is_between) := ⟨rfl, rfl, rfl, by decide +kernel, rfl, by decide +kernel, by decide +kernel⟩

theorem ok_is_between {f : Addr} {fd : FuncData} (F : Fun K "is_between" "is_between" s_is_between f fd) (T : Txt K mg  w A_PARTS) (D_is_at_least : Dfn P w K mg base CX0 1 "is_at_least" ["value", "least"] spGe) : FnOk P w K mg base CX0 2 f fd ["value", "least", "most"] spBtw := by
  refine F.ok sc_is_between (fun vs H Q E h => ?_) (fun cdv A outer s H vs Q E hr h => ?_)
  · obtain ⟨v, d, lo, hi, rfl, _⟩ := h
    rfl
  · obtain ⟨v, d, lo, hi, rfl, hd, k⟩ := h
    refine ⟨_, (pss_one (ps_ret (pe_and (pe_dcall D_is_at_least (hr.mono (by decide)) (by rfl) pass0 (pa_cons (pv 0) (pa_cons (pv 1) pa_nil))) (pe_one (pe_cmpR op_le (pv 0) (pv 2) (nomark _)))))), ?_⟩
    refine ⟨_, rfl, _, rfl, _, d, _, rfl, hd, _, rfl, iteB (fun e => ?_) (fun e => ?_)⟩
    · cases hd with
      | int i =>
        walk_at "run"
        have e' : decide (lo ≤ i) = true := e
        have k' : Q (.bl (decide (lo ≤ i) && decide (i ≤ hi))) H := k
        rw [e', Bool.true_and] at k'
        exact k'
      | bl b => cases e
      | non => cases e
      | str x => cases e
      | lst a b => cases e
      | tup a b => cases e
    · have e2 : isI d lo hi = false := by
        cases d with
        | int i =>
          have e' : decide (lo ≤ i) = false := e
          show (decide (lo ≤ i) && decide (i ≤ hi)) = false
          rw [e', Bool.false_and]
        | _ => rfl
      rw [e2] at k
      exact k
end
section
variable {P : Program} {w : World} {K : PySem.W.Frag} {mg : Str → Option Value} {base : Heap} {A_PARTS : Addr}
abbrev s_is_word : Stmt := topS 5
abbrev ns_is_word : List Str := ["value"]
theorem sc_is_word : FnScope ns_is_word ["value"] (defScope s_is_word) := ⟨rfl, rfl, rfl, by decide +kernel, rfl, by decide +kernel, by decide +kernel⟩

theorem ok_is_word {f : Addr} {fd : FuncData} (F : Fun K "is_word" "is_word" s_is_word f fd) (T : Txt K mg  w A_PARTS) (D_is_between : Dfn P w K mg base CX0 2 "is_between" ["value", "least", "most"] spBtw) : FnOk P w K mg base CX0 3 f fd ["value"] spWord := by
  refine F.ok sc_is_word (fun vs H Q E h => ?_) (fun cdv A outer s H vs Q E hr h => ?_)
  · obtain ⟨v, d, rfl, _⟩ := h
    rfl
  · obtain ⟨v, d, rfl, hd, k⟩ := h
    refine ⟨_, (pss_one (ps_ret (pe_dcall D_is_between (hr.mono (by decide)) (by rfl) pass0 (pa_cons (pv 0) (pa_cons pe_int (pa_cons (pe_gint (by rfl) T.c_TOP) pa_nil)))))), ?_⟩
    walk_at "run"
    exact ⟨_, d, _, _, rfl, hd, k⟩
end
end My

namespace My
open PySem L2
local macro_rules | `(tactic| walk_at "ne") => `(tactic| first | assumption | exact Ne.symm (by assumption) | exact ne_of_none (by assumption) (by assumption) | exact Ne.symm (ne_of_none (by assumption) (by assumption)))
local macro_rules | `(tactic| walk_at "hp") => `(tactic| first | assumption | with_reducible exact upd_same | (with_reducible refine Eq.trans (upd_ne ?_) ?_; rotate_left; walk_at "hp"; walk_at "ne"))
local macro_rules | `(tactic| walk_at "cnd") => `(tactic| first | omega | (show (0 : Int) < _; omega) | exact ⟨by omega, by omega⟩ | exact Or.inl ⟨by omega, by omega⟩ | exact Or.inr ⟨by omega, by omega⟩ | exact ⟨by omega, by omega, by decide⟩ | exact ⟨by omega, by omega, by omega⟩)
local macro_rules | `(tactic| walk_at "at") => `(tactic| first | exact atC 0 rfl rfl | exact atC 1 rfl rfl | exact atC 2 rfl rfl | exact atC 3 rfl rfl | exact atC 4 rfl rfl | exact atC 5 rfl rfl | exact atC 6 rfl rfl | exact atC 7 rfl rfl)
local macro_rules | `(tactic| walk_at "ix") => `(tactic| first | exact ixC 0 rfl (Nat.le_of_ble_eq_true rfl) | exact ixC 1 rfl (Nat.le_of_ble_eq_true rfl) | exact ixC 2 rfl (Nat.le_of_ble_eq_true rfl) | exact ixC 3 rfl (Nat.le_of_ble_eq_true rfl) | exact ixC 4 rfl (Nat.le_of_ble_eq_true rfl) | exact ixC 5 rfl (Nat.le_of_ble_eq_true rfl))
local macro_rules | `(tactic| walk_at "st") => `(tactic| first
  | refine ⟨_, rfl, ?_⟩
  | refine ⟨_, _, rfl, rfl, (by walk_at "cnd" : (_ : Prop)), ?_⟩
  | refine ⟨_, _, rfl, rfl, ?_⟩
  | refine ⟨rfl, ?_⟩
  | refine Or.inl ⟨_, rfl, ?_⟩
  | refine ⟨_, _, _, _, rfl, rfl, by exact SqL.of (by walk_at "hp"), by walk_at "at", ?_⟩
  | refine ⟨_, _, _, _, rfl, rfl, by exact SqT.of (by walk_at "hp"), by walk_at "at", ?_⟩
  | refine ⟨_, _, _, _, rfl, rfl, by walk_at "hp", by walk_at "ix", ?_⟩
  | refine ⟨_, _, rfl, Or.inl (by exact SqL.of (by walk_at "hp")), ?_⟩
  | refine ⟨_, _, rfl, Or.inr (by exact SqT.of (by walk_at "hp")), ?_⟩)
local macro_rules | `(tactic| walk_at "so") => `(tactic| first
  | refine ⟨_, _, _, _, _, rfl, by walk_at "hp", by assumption, by assumption, rfl, ?_⟩
  | refine ⟨_, _, _, _, rfl, by walk_at "hp", by assumption, by assumption, Nat.le_of_ble_eq_true rfl, ?_⟩
  | refine ⟨_, _, _, rfl, by walk_at "hp", rfl, ?_⟩
  | walk_at "st")
local macro_rules | `(tactic| walk_at "ro") => `(tactic| repeat walk_at "so")
local macro_rules | `(tactic| walk_at "run") => `(tactic| repeat walk_at "st")

/-! ### requests as data -/
def isNm (d : PyData) : Bool := isI d 1 4294967295
def isPath : PyData → Bool
  | .tuple xs => xs.all isNm
  | _ => false
def isNum (d : PyData) : Bool := isI d 0 48
def areW : PyData → Bool
  | .tuple xs => decide (1 ≤ xs.length ∧ xs.length ≤ 48) && xs.all fun d => isI d 0 4294967295
  | _ => false
def pNone (ds : List PyData) : Bool := decide (ds.length = 0)
def pKind : List PyData → Bool
  | [.str z] => (("dir" : Str) == z) || ((("file" : Str) == z) || false)
  | _ => false
def pNum : List PyData → Bool
  | [d] => isNum d
  | _ => false
def pTwo : List PyData → Bool
  | [d, e] => isNum d && isNum e
  | _ => false
def pPut : List PyData → Bool
  | [d, e] => isNum d && areW e
  | _ => false
def isStrD : PyData → Bool
  | .str _ => true
  | _ => false
theorem kitStr : ∀ d : PyData, kitB (tyName d) "str" = some (isStrD d)
  | .none => (by decide +kernel : kitB "NoneType" "str" = some false)
  | .bool _ => (by decide +kernel : kitB "bool" "str" = some false)
  | .int _ => (by decide +kernel : kitB "int" "str" = some false)
  | .str _ => (by decide +kernel : kitB "str" "str" = some true)
  | .list _ => (by decide +kernel : kitB "list" "str" = some false)
  | .tuple _ => (by decide +kernel : kitB "tuple" "str" = some false)
  | .dict _ => (by decide +kernel : kitB "dict" "str" = some false)
def spD (g : PyData → Bool) : Sp := fun vs H Q _ => ∃ v d, vs = [v] ∧ Dt H v d ∧ (∀ ds, d = .tuple ds → ds.length ≤ 5000) ∧ ∀ H', Same H H' → Q (.bl (g d)) H'
def spD0 (g : PyData → Bool) : Sp := fun vs H Q _ => ∃ v d, vs = [v] ∧ Dt H v d ∧ Q (.bl (g d)) H
def spParts (g : List PyData → Bool) : Sp := fun vs H Q _ => ∃ v ds, vs = [v] ∧ Dt H v (.tuple ds) ∧ ds.length ≤ 5000 ∧ (∀ d ∈ ds, ∀ es, d = .tuple es → es.length ≤ 5000) ∧ ∀ H', Same H H' → Q (.bl (g ds)) H'
theorem lenV (n m : Nat) : decide (V.int (n : Int) = V.int (m : Int)) = decide (n = m) := decide_eq_decide.mpr ⟨fun z => by injection z with z; exact Int.ofNat.inj z, fun z => by rw [z]⟩
theorem isI_int {d : PyData} {lo hi : Int} (h : isI d lo hi = true) : ∃ i, d = .int i ∧ lo ≤ i ∧ i ≤ hi := by
  cases d with
  | int i =>
    have h' : (decide (lo ≤ i) && decide (i ≤ hi)) = true := h
    rw [Bool.and_eq_true, decide_eq_true_eq, decide_eq_true_eq] at h'
    exact ⟨i, rfl, h'.1, h'.2⟩
  | _ => cases h
section
variable {P : Program} {w : World} {K : PySem.W.Frag} {mg : Str → Option Value} {base : Heap} {A_PARTS : Addr}
abbrev s_is_name : Stmt := topS 9
abbrev ns_is_name : List Str := ["value"]
theorem sc_is_name : FnScope ns_is_name ["value"] (defScope s_is_name) := ⟨rfl, rfl, rfl, by decide +kernel, rfl, by decide +kernel, by decide +kernel⟩

theorem ok_is_name {f : Addr} {fd : FuncData} (F : Fun K "is_name" "is_name" s_is_name f fd) (T : Txt K mg  w A_PARTS) (D_is_word : Dfn P w K mg base CX0 3 "is_word" ["value"] spWord) : FnOk P w K mg base CX0 4 f fd ["value"] (spD0 isNm) := by
  refine F.ok sc_is_name (fun vs H Q E h => ?_) (fun cdv A outer s H vs Q E hr h => ?_)
  · obtain ⟨v, d, rfl, _⟩ := h
    rfl
  · obtain ⟨v, d, rfl, hd, k⟩ := h
    refine ⟨_, (pss_one (ps_ret (pe_and (pe_dcall D_is_word (hr.mono (by decide)) (by rfl) pass0 (pa_cons (pv 0) pa_nil)) (pe_one (pe_cmpR op_ne (pv 0) pe_int (nomark _)))))), ?_⟩
    refine ⟨_, rfl, v, d, rfl, hd, _, rfl, iteB (fun e => ?_) (fun e => ?_)⟩
    · obtain ⟨i, rfl, h1, h2⟩ := isI_int e
      cases hd
      refine ⟨_, rfl, rfl, ?_⟩
      have : (!decide (V.int i = V.int 0)) = isNm (.int i) := by
        have e1 : decide (V.int i = V.int 0) = decide (i = 0) := decide_eq_decide.mpr ⟨fun z => by injection z, fun z => by rw [z]⟩
        show _ = (decide ((1 : Int) ≤ i) && decide (i ≤ 4294967295))
        rw [e1, decide_eq_true h2, Bool.and_true]
        by_cases z : i = 0
        · subst z; rfl
        · rw [decide_eq_false z, decide_eq_true (by omega)]; rfl
      rw [this]
      exact k
    · have : isNm d = false := by
        cases z : isNm d with
        | false => rfl
        | true =>
          obtain ⟨i, rfl, h1, h2⟩ := isI_int z
          have : isI (.int i) 0 4294967295 = true := by
            show (decide ((0 : Int) ≤ i) && decide (i ≤ 4294967295)) = true
            rw [decide_eq_true (show (0 : Int) ≤ i by omega), decide_eq_true h2]; rfl
          rw [this] at e; cases e
      rw [this] at k
      exact k
abbrev s_is_number : Stmt := topS 13
abbrev ns_is_number : List Str := ["value"]
theorem sc_is_number : FnScope ns_is_number ["value"] (defScope s_is_number) := ⟨rfl, rfl, rfl, by decide +kernel, rfl, by decide +kernel, by decide +kernel⟩

theorem ok_is_number {f : Addr} {fd : FuncData} (F : Fun K "_is_number" "_is_number" s_is_number f fd) (T : Txt K mg  w A_PARTS) (D_is_between : Dfn P w K mg base CX0 2 "is_between" ["value", "least", "most"] spBtw) : FnOk P w K mg base CX0 3 f fd ["value"] (spD0 isNum) := by
  refine F.ok sc_is_number (fun vs H Q E h => ?_) (fun cdv A outer s H vs Q E hr h => ?_)
  · obtain ⟨v, d, rfl, _⟩ := h
    rfl
  · obtain ⟨v, d, rfl, hd, k⟩ := h
    refine ⟨_, (pss_one (ps_ret (pe_dcall D_is_between (hr.mono (by decide)) (by rfl) pass0 (pa_cons (pv 0) (pa_cons pe_int (pa_cons (pe_gint (by rfl) T.c_MOST_WORDS) pa_nil)))))), ?_⟩
    walk_at "run"
    exact ⟨_, d, _, _, rfl, hd, k⟩
abbrev s_is_path : Stmt := topS 12
abbrev ns_is_path : List Str := ["value", "name"]
theorem sc_is_path : FnScope ns_is_path ["value"] (defScope s_is_path) := ⟨rfl, rfl, rfl, by decide +kernel, rfl, by decide +kernel, by decide +kernel⟩

theorem ok_is_path {f : Addr} {fd : FuncData} (F : Fun K "_is_path" "_is_path" s_is_path f fd) (T : Txt K mg  w A_PARTS) (D_is_name : Dfn P w K mg base CX0 4 "is_name" ["value"] (spD0 isNm)) : FnOk P w K mg base CX0 5 f fd ["value"] (spD isPath) := by
  refine F.ok sc_is_path (fun vs H Q E h => ?_) (fun cdv A outer s H vs Q E hr h => ?_)
  · obtain ⟨v, d, rfl, _⟩ := h
    rfl
  · obtain ⟨v, d, rfl, hd, hz, k⟩ := h
    refine ⟨_, (pss_one (ps_ret (pe_and (pe_callB (kIsi K) (by rfl) T.b_isinstance (by decide +kernel) (pa_cons (pv 0) (pa_cons (pe_bltn (v := .ty "tuple") (by rfl) T.b_tuple (by decide +kernel) rfl) pa_nil))) (pe_one (pe_callB (kAll K rfl) (by rfl) T.b_all (by decide +kernel) (pa_cons (pe_lc (own := [("name", 1)]) (by rfl) sc_is_path.nd (kpiT K (pv 0)) (blkOk_by (N := ns_is_path) (sc := defScope s_is_path) (by decide +kernel)) (fun _ _ _ _ _ => (pg_name (i := 1) sc_is_path.nd rfl (Or.inl rfl))) (fun _ _ _ _ _ => pts_nil) (fun _ _ _ _ _ => (pe_dcall D_is_name (hr.mono (by decide)) (by rfl) pass0 (pa_cons (pv 1) pa_nil)))) pa_nil)))))), ?_⟩
    refine ⟨_, rfl, _, _, _, _, _, rfl, .ty _, hd.ty, kit_ty (kitTup d), _, rfl, ?_⟩
    cases hd with
    | @tup a xs ds ha hs =>
      have hlen := hs.len
      have hz' := hz ds rfl
      refine iteT ?_
      walk_at "run"
      refine ⟨⟨_, SqT.of ha⟩, fun D hD => ?_⟩
      refine lcT (xs := xs) ((ds.map isNm).map V.bl) (by simp [hlen]) (by omega) ha hD ?_ ?_
      · intro j x y H1 Q' hx hy s1 q
        obtain ⟨d, hd1, hd2⟩ := hs.getV hx
        have ey : y = .bl (isNm d) := by
          rw [List.getElem?_map, List.getElem?_map, hd1] at hy
          exact (Option.some.inj hy).symm
        subst ey
        refine ⟨rfl, ?_⟩
        walk_at "run"
        exact ⟨_, d, rfl, hd2.same s1, q H1 (Same.refl _)⟩
      · intro H1 s1 d1
        refine ⟨_, _, rfl, SqL.of d1, ?_⟩
        have e : isPath (.tuple ds) = (ds.map isNm).all id := by
          show ds.all isNm = _
          simp
        rw [e] at k
        exact k H1 s1
    | int i => exact iteF (k H (Same.refl H))
    | bl b => exact iteF (k H (Same.refl H))
    | non => exact iteF (k H (Same.refl H))
    | str x => exact iteF (k H (Same.refl H))
    | lst a b => exact iteF (k H (Same.refl H))
abbrev s_are_words : Stmt := topS 14
abbrev ns_are_words : List Str := ["value", "word"]
theorem sc_are_words : FnScope ns_are_words ["value"] (defScope s_are_words) := ⟨rfl, rfl, rfl, by decide +kernel, rfl, by decide +kernel, by decide +kernel⟩

theorem ok_are_words {f : Addr} {fd : FuncData} (F : Fun K "_are_words" "_are_words" s_are_words f fd) (T : Txt K mg  w A_PARTS) (D_is_between : Dfn P w K mg base CX0 2 "is_between" ["value", "least", "most"] spBtw) (D_is_word : Dfn P w K mg base CX0 3 "is_word" ["value"] spWord) : FnOk P w K mg base CX0 4 f fd ["value"] (spD areW) := by
  refine F.ok sc_are_words (fun vs H Q E h => ?_) (fun cdv A outer s H vs Q E hr h => ?_)
  · obtain ⟨v, d, rfl, _⟩ := h
    rfl
  · obtain ⟨v, d, rfl, hd, hz, k⟩ := h
    refine ⟨_, (pss_cons (ps_if (PW.pt (pw_or (pt_not (pt_val (pe_callB (kIsi K) (by rfl) T.b_isinstance (by decide +kernel) (pa_cons (pv 0) (pa_cons (pe_bltn (v := .ty "tuple") (by rfl) T.b_tuple (by decide +kernel) rfl) pa_nil))))) (pw_or1 (pt_not (pt_val (pe_dcall D_is_between (hr.mono (by decide)) (by rfl) pass0 (pa_cons (pe_callB (kLen K) (by rfl) T.b_len (by decide +kernel) (pa_cons (pv 0) pa_nil)) (pa_cons pe_int (pa_cons (pe_gint (by rfl) T.c_MOST_WORDS) pa_nil))))))))) (pss_one (ps_ret pe_bl)) pss_nil)
  (pss_one (ps_ret (pe_callB (kAll K rfl) (by rfl) T.b_all (by decide +kernel) (pa_cons (pe_lc (own := [("word", 1)]) (by rfl) sc_are_words.nd (kpiT K (pv 0)) (blkOk_by (N := ns_are_words) (sc := defScope s_are_words) (by decide +kernel)) (fun _ _ _ _ _ => (pg_name (i := 1) sc_are_words.nd rfl (Or.inl rfl))) (fun _ _ _ _ _ => pts_nil) (fun _ _ _ _ _ => (pe_dcall D_is_word (hr.mono (by decide)) (by rfl) pass0 (pa_cons (pv 1) pa_nil)))) pa_nil))))), ?_⟩
    refine ⟨_, rfl, _, _, _, _, _, rfl, .ty _, hd.ty, kit_ty (kitTup d), _, rfl, ?_⟩
    cases hd with
    | @tup a xs ds ha hs =>
      have hlen := hs.len
      have hz' := hz ds rfl
      refine iteF ?_
      walk_at "run"
      refine ⟨_, .int (xs.length : Int), _, _, rfl, .int _, _, rfl, ?_⟩
      have el : isI (.int (xs.length : Int)) 1 48 = decide (1 ≤ ds.length ∧ ds.length ≤ 48) := by
        show (decide ((1 : Int) ≤ xs.length) && decide ((xs.length : Int) ≤ 48)) = _
        rw [hlen, Bool.decide_and]
        congr 1 <;> exact decide_eq_decide.mpr (by omega)
      rw [el]
      have ea : areW (.tuple ds) = (decide (1 ≤ ds.length ∧ ds.length ≤ 48) && ds.all fun d => isI d 0 4294967295) := rfl
      rw [ea] at k
      cases hc : decide (1 ≤ ds.length ∧ ds.length ≤ 48) with
      | false =>
        rw [hc] at k
        exact iteT (k H (Same.refl H))
      | true =>
        rw [hc, Bool.true_and] at k
        refine iteF ?_
        walk_at "run"
        refine ⟨⟨_, SqT.of ha⟩, fun D hD => ?_⟩
        refine lcT (xs := xs) ((ds.map fun d => isI d 0 4294967295).map V.bl) (by simp [hlen]) (by omega) ha hD ?_ ?_
        · intro j x y H1 Q' hx hy s1 q
          obtain ⟨d, hd1, hd2⟩ := hs.getV hx
          have ey : y = .bl (isI d 0 4294967295) := by
            rw [List.getElem?_map, List.getElem?_map, hd1] at hy
            exact (Option.some.inj hy).symm
          subst ey
          refine ⟨rfl, ?_⟩
          walk_at "run"
          exact ⟨_, d, rfl, hd2.same s1, q H1 (Same.refl _)⟩
        · intro H1 s1 d1
          refine ⟨_, _, rfl, SqL.of d1, ?_⟩
          have e : (ds.all fun d => isI d 0 4294967295) = (ds.map fun d => isI d 0 4294967295).all id := by simp
          rw [e] at k
          exact k H1 s1
    | int i => exact iteT (k H (Same.refl H))
    | bl b => exact iteT (k H (Same.refl H))
    | non => exact iteT (k H (Same.refl H))
    | str x => exact iteT (k H (Same.refl H))
    | lst a b => exact iteT (k H (Same.refl H))
abbrev s_are_none : Stmt := topS 15
abbrev ns_are_none : List Str := ["parts"]
theorem sc_are_none : FnScope ns_are_none ["parts"] (defScope s_are_none) := ⟨rfl, rfl, rfl, by decide +kernel, rfl, by decide +kernel, by decide +kernel⟩

theorem ok_are_none {f : Addr} {fd : FuncData} (F : Fun K "_are_none" "_are_none" s_are_none f fd) (T : Txt K mg  w A_PARTS) : FnOk P w K mg base CX0 1 f fd ["parts"] (spParts pNone) := by
  refine F.ok sc_are_none (fun vs H Q E h => ?_) (fun cdv A outer s H vs Q E hr h => ?_)
  · obtain ⟨v, ds, rfl, _⟩ := h
    rfl
  · obtain ⟨v, ds, rfl, hd, hz, _, k⟩ := h
    refine ⟨_, (pss_one (ps_ret (pe_cmpR op_eq (pe_callB (kLen K) (by rfl) T.b_len (by decide +kernel) (pa_cons (pv 0) pa_nil)) pe_int (nomark _)))), ?_⟩
    cases hd with
    | @tup a xs ds ha hs =>
      have hlen := hs.len
      walk_at "run"
      have e : decide (V.int (xs.length : Int) = V.int 0) = pNone ds := by
        rw [show (0 : Int) = ((0 : Nat) : Int) from rfl, lenV, hlen]; rfl
      show Q (.bl (decide (V.int (xs.length : Int) = V.int 0))) H
      rw [e]
      exact k H (Same.refl H)
abbrev s_is_one_number : Stmt := topS 17
abbrev ns_is_one_number : List Str := ["parts"]
theorem sc_is_one_number : FnScope ns_is_one_number ["parts"] (defScope s_is_one_number) := ⟨rfl, rfl, rfl, by decide +kernel, rfl, by decide +kernel, by decide +kernel⟩

theorem ok_is_one_number {f : Addr} {fd : FuncData} (F : Fun K "_is_one_number" "_is_one_number" s_is_one_number f fd) (T : Txt K mg  w A_PARTS) (D_is_number : Dfn P w K mg base CX0 3 "_is_number" ["value"] (spD0 isNum)) : FnOk P w K mg base CX0 4 f fd ["parts"] (spParts pNum) := by
  refine F.ok sc_is_one_number (fun vs H Q E h => ?_) (fun cdv A outer s H vs Q E hr h => ?_)
  · obtain ⟨v, ds, rfl, _⟩ := h
    rfl
  · obtain ⟨v, ds, rfl, hd, hz, _, k⟩ := h
    refine ⟨_, (pss_one (ps_ret (pe_and (pe_cmpR op_eq (pe_callB (kLen K) (by rfl) T.b_len (by decide +kernel) (pa_cons (pv 0) pa_nil)) pe_int (nomark _)) (pe_one (pe_dcall D_is_number (hr.mono (by decide)) (by rfl) pass0 (pa_cons (pe_ix (kIxT K) (pv 0) pe_int (fun _ _ => rfl)) pa_nil)))))), ?_⟩
    cases hd with
    | @tup a xs ds ha hs =>
      have hlen := hs.len
      walk_at "run"
      match ds, hs, k with
      | [], .nil, k => exact iteF (k H (Same.refl H))
      | [d], .cons h1 .nil, k =>
        refine iteT ?_
        walk_at "run"
        exact ⟨_, d, rfl, h1, k H (Same.refl H)⟩
      | d :: e :: r, .cons h1 (.cons h2 h3), k =>
        rw [show (1 : Int) = ((1 : Nat) : Int) from rfl, lenV, decide_eq_false (by simp)]
        exact iteF (k H (Same.refl H))
abbrev s_are_two_numbers : Stmt := topS 18
abbrev ns_are_two_numbers : List Str := ["parts"]
theorem sc_are_two_numbers : FnScope ns_are_two_numbers ["parts"] (defScope s_are_two_numbers) := ⟨rfl, rfl, rfl, by decide +kernel, rfl, by decide +kernel, by decide +kernel⟩

theorem ok_are_two_numbers {f : Addr} {fd : FuncData} (F : Fun K "_are_two_numbers" "_are_two_numbers" s_are_two_numbers f fd) (T : Txt K mg  w A_PARTS) (D_is_number : Dfn P w K mg base CX0 3 "_is_number" ["value"] (spD0 isNum)) : FnOk P w K mg base CX0 4 f fd ["parts"] (spParts pTwo) := by
  refine F.ok sc_are_two_numbers (fun vs H Q E h => ?_) (fun cdv A outer s H vs Q E hr h => ?_)
  · obtain ⟨v, ds, rfl, _⟩ := h
    rfl
  · obtain ⟨v, ds, rfl, hd, hz, _, k⟩ := h
    refine ⟨_, (pss_one (ps_ret (pe_and (pe_cmpR op_eq (pe_callB (kLen K) (by rfl) T.b_len (by decide +kernel) (pa_cons (pv 0) pa_nil)) pe_int (nomark _)) (pe_and (pe_dcall D_is_number (hr.mono (by decide)) (by rfl) pass0 (pa_cons (pe_ix (kIxT K) (pv 0) pe_int (fun _ _ => rfl)) pa_nil)) (pe_one (pe_dcall D_is_number (hr.mono (by decide)) (by rfl) pass0 (pa_cons (pe_ix (kIxT K) (pv 0) pe_int (fun _ _ => rfl)) pa_nil))))))), ?_⟩
    cases hd with
    | @tup a xs ds ha hs =>
      have hlen := hs.len
      walk_at "run"
      match ds, hs, k with
      | [], .nil, k => exact iteF (k H (Same.refl H))
      | [d], .cons h1 .nil, k => exact iteF (k H (Same.refl H))
      | [d, e], .cons h1 (.cons h2 .nil), k =>
        refine iteT ?_
        walk_at "run"
        refine ⟨_, d, rfl, h1, _, rfl, ?_⟩
        have k' : ∀ H', Same H H' → Q (.bl (isNum d && isNum e)) H' := k
        cases hd : isNum d with
        | false =>
          rw [hd] at k'
          exact iteF (k' H (Same.refl H))
        | true =>
          rw [hd, Bool.true_and] at k'
          refine iteT ?_
          walk_at "run"
          exact ⟨_, e, rfl, h2, k' H (Same.refl H)⟩
      | d :: e :: c :: r, .cons h1 (.cons h2 (.cons h3 h4)), k =>
        rw [show (2 : Int) = ((2 : Nat) : Int) from rfl, lenV, decide_eq_false (by simp)]
        exact iteF (k H (Same.refl H))
abbrev s_are_place_and_words : Stmt := topS 19
abbrev ns_are_place_and_words : List Str := ["parts"]
theorem sc_are_place_and_words : FnScope ns_are_place_and_words ["parts"] (defScope s_are_place_and_words) := ⟨rfl, rfl, rfl, by decide +kernel, rfl, by decide +kernel, by decide +kernel⟩

theorem ok_are_place_and_words {f : Addr} {fd : FuncData} (F : Fun K "_are_place_and_words" "_are_place_and_words" s_are_place_and_words f fd) (T : Txt K mg  w A_PARTS) (D_is_number : Dfn P w K mg base CX0 3 "_is_number" ["value"] (spD0 isNum)) (D_are_words : Dfn P w K mg base CX0 4 "_are_words" ["value"] (spD areW)) : FnOk P w K mg base CX0 5 f fd ["parts"] (spParts pPut) := by
  refine F.ok sc_are_place_and_words (fun vs H Q E h => ?_) (fun cdv A outer s H vs Q E hr h => ?_)
  · obtain ⟨v, ds, rfl, _⟩ := h
    rfl
  · obtain ⟨v, ds, rfl, hd, hz, hin, k⟩ := h
    refine ⟨_, (pss_one (ps_ret (pe_and (pe_cmpR op_eq (pe_callB (kLen K) (by rfl) T.b_len (by decide +kernel) (pa_cons (pv 0) pa_nil)) pe_int (nomark _)) (pe_and (pe_dcall D_is_number (hr.mono (by decide)) (by rfl) pass0 (pa_cons (pe_ix (kIxT K) (pv 0) pe_int (fun _ _ => rfl)) pa_nil)) (pe_one (pe_dcall D_are_words (hr.mono (by decide)) (by rfl) pass0 (pa_cons (pe_ix (kIxT K) (pv 0) pe_int (fun _ _ => rfl)) pa_nil))))))), ?_⟩
    cases hd with
    | @tup a xs ds ha hs =>
      have hlen := hs.len
      walk_at "run"
      match ds, hs, k, hin with
      | [], .nil, k, _ => exact iteF (k H (Same.refl H))
      | [d], .cons h1 .nil, k, _ => exact iteF (k H (Same.refl H))
      | [d, e], .cons h1 (.cons h2 .nil), k, hin =>
        refine iteT ?_
        walk_at "run"
        refine ⟨_, d, rfl, h1, _, rfl, ?_⟩
        have k' : ∀ H', Same H H' → Q (.bl (isNum d && areW e)) H' := k
        cases hd : isNum d with
        | false =>
          rw [hd] at k'
          exact iteF (k' H (Same.refl H))
        | true =>
          rw [hd, Bool.true_and] at k'
          refine iteT ?_
          walk_at "run"
          exact ⟨_, e, rfl, h2, hin e (by simp), k'⟩
      | d :: e :: c :: r, .cons h1 (.cons h2 (.cons h3 h4)), k, _ =>
        rw [show (2 : Int) = ((2 : Nat) : Int) from rfl, lenV, decide_eq_false (by simp)]
        exact iteF (k H (Same.refl H))
abbrev s_is_one_kind : Stmt := topS 16
abbrev ns_is_one_kind : List Str := ["parts"]
theorem sc_is_one_kind : FnScope ns_is_one_kind ["parts"] (defScope s_is_one_kind) := ⟨rfl, rfl, rfl, by decide +kernel, rfl, by decide +kernel, by decide +kernel⟩

theorem ok_is_one_kind {f : Addr} {fd : FuncData} (F : Fun K "_is_one_kind" "_is_one_kind" s_is_one_kind f fd) (T : Txt K mg  w A_PARTS) : FnOk P w K mg base CX0 1 f fd ["parts"] (spParts pKind) := by
  refine F.ok sc_is_one_kind (fun vs H Q E h => ?_) (fun cdv A outer s H vs Q E hr h => ?_)
  · obtain ⟨v, ds, rfl, _⟩ := h
    rfl
  · obtain ⟨v, ds, rfl, hd, hz, _, k⟩ := h
    refine ⟨_, (pss_one (ps_ret (pe_and (pe_cmpR op_eq (pe_callB (kLen K) (by rfl) T.b_len (by decide +kernel) (pa_cons (pv 0) pa_nil)) pe_int (nomark _)) (pe_and (pe_callB (kIsi K) (by rfl) T.b_isinstance (by decide +kernel) (pa_cons (pe_ix (kIxT K) (pv 0) pe_int (fun _ _ => rfl)) (pa_cons (pe_bltn (v := .ty "str") (by rfl) T.b_str (by decide +kernel) rfl) pa_nil))) (pe_one (pe_cmpR (kIn K) (pe_ix (kIxT K) (pv 0) pe_int (fun _ _ => rfl)) (pe_tup (pa_cons pe_str (pa_cons pe_str pa_nil))) (by rfl))))))), ?_⟩
    cases hd with
    | @tup a xs ds ha hs =>
      have hlen := hs.len
      walk_at "run"
      match ds, hs, k with
      | [], .nil, k => exact iteF (k H (Same.refl H))
      | [d], .cons h1 .nil, k =>
        refine iteT ?_
        walk_at "run"
        refine ⟨_, _, _, _, _, rfl, .ty _, h1.ty, kit_ty (kitStr d), _, rfl, ?_⟩
        cases h1 with
        | str z =>
          refine iteT ?_
          walk_at "run"
          refine ⟨szl rfl, fun q hq => ⟨q, _, rfl, .inr (SqT.of upd_same), rfl, rfl, ?_⟩⟩
          have e0 : inV (V.str z) [V.str "dir", V.str "file"] = pKind [.str z] := rfl
          show Q (.bl (inV (V.str z) [V.str "dir", V.str "file"])) _
          rw [e0]
          exact k _ (Same.new hq)
        | int i => exact iteF (k H (Same.refl H))
        | bl b => exact iteF (k H (Same.refl H))
        | non => exact iteF (k H (Same.refl H))
        | tup a b => exact iteF (k H (Same.refl H))
        | lst a b => exact iteF (k H (Same.refl H))
      | d :: e :: r, .cons h1 (.cons h2 h3), k =>
        have e0 : pKind (d :: e :: r) = false := by cases d <;> rfl
        rw [e0] at k
        rw [show (1 : Int) = ((1 : Nat) : Int) from rfl, lenV, decide_eq_false (by simp)]
        exact iteF (k H (Same.refl H))
end
end My

namespace My
open PySem L2
local macro_rules | `(tactic| walk_at "ne") => `(tactic| first | assumption | exact Ne.symm (by assumption) | exact ne_of_none (by assumption) (by assumption) | exact Ne.symm (ne_of_none (by assumption) (by assumption)))
local macro_rules | `(tactic| walk_at "hp") => `(tactic| first | assumption | with_reducible exact upd_same | (with_reducible refine Eq.trans (upd_ne ?_) ?_; rotate_left; walk_at "hp"; walk_at "ne"))
local macro_rules | `(tactic| walk_at "cnd") => `(tactic| first | omega | (show (0 : Int) < _; omega) | exact ⟨by omega, by omega⟩ | exact Or.inl ⟨by omega, by omega⟩ | exact Or.inr ⟨by omega, by omega⟩ | exact ⟨by omega, by omega, by decide⟩ | exact ⟨by omega, by omega, by omega⟩)
local macro_rules | `(tactic| walk_at "at") => `(tactic| first | exact atC 0 rfl rfl | exact atC 1 rfl rfl | exact atC 2 rfl rfl | exact atC 3 rfl rfl | exact atC 4 rfl rfl | exact atC 5 rfl rfl | exact atC 6 rfl rfl | exact atC 7 rfl rfl)
local macro_rules | `(tactic| walk_at "ix") => `(tactic| first | exact ixC 0 rfl (Nat.le_of_ble_eq_true rfl) | exact ixC 1 rfl (Nat.le_of_ble_eq_true rfl) | exact ixC 2 rfl (Nat.le_of_ble_eq_true rfl) | exact ixC 3 rfl (Nat.le_of_ble_eq_true rfl) | exact ixC 4 rfl (Nat.le_of_ble_eq_true rfl) | exact ixC 5 rfl (Nat.le_of_ble_eq_true rfl))
local macro_rules | `(tactic| walk_at "st") => `(tactic| first
  | refine ⟨_, rfl, ?_⟩
  | refine ⟨_, _, rfl, rfl, (by walk_at "cnd" : (_ : Prop)), ?_⟩
  | refine ⟨_, _, rfl, rfl, ?_⟩
  | refine ⟨rfl, ?_⟩
  | refine Or.inl ⟨_, rfl, ?_⟩
  | refine ⟨_, _, _, _, rfl, rfl, by exact SqL.of (by walk_at "hp"), by walk_at "at", ?_⟩
  | refine ⟨_, _, _, _, rfl, rfl, by exact SqT.of (by walk_at "hp"), by walk_at "at", ?_⟩
  | refine ⟨_, _, _, _, rfl, rfl, by walk_at "hp", by walk_at "ix", ?_⟩
  | refine ⟨_, _, rfl, Or.inl (by exact SqL.of (by walk_at "hp")), ?_⟩
  | refine ⟨_, _, rfl, Or.inr (by exact SqT.of (by walk_at "hp")), ?_⟩)
local macro_rules | `(tactic| walk_at "so") => `(tactic| first
  | refine ⟨_, _, _, _, _, rfl, by walk_at "hp", by assumption, by assumption, rfl, ?_⟩
  | refine ⟨_, _, _, _, rfl, by walk_at "hp", by assumption, by assumption, Nat.le_of_ble_eq_true rfl, ?_⟩
  | refine ⟨_, _, _, rfl, by walk_at "hp", rfl, ?_⟩
  | walk_at "st")
local macro_rules | `(tactic| walk_at "ro") => `(tactic| repeat walk_at "so")
local macro_rules | `(tactic| walk_at "run") => `(tactic| repeat walk_at "st")

def partsOf (z : Str) : Option (List PyData → Bool) :=
  if z = "make" then some pKind else if z = "put" then some pPut else if z = "get" then some pTwo else if z = "size" then some pNone else if z = "shrink" then some pNum else if z = "drop" then some pNone else if z = "list" then some pNone else none
def words8 : List Str := ["make", "put", "get", "size", "shrink", "drop", "list", "sync"]
def isReq : PyData → Bool
  | .tuple (.str z :: p :: ds) => match partsOf z with
    | some g => isPath p && g ds
    | none => false
  | _ => false
structure okReq (d : PyData) : Prop where
  word : ∀ z ds, d = .tuple (.str z :: ds) → z ∈ words8
  len : ∀ ds, d = .tuple ds → ds.length ≤ 5000 ∧ ∀ e ∈ ds, ∀ es, e = .tuple es → es.length ≤ 5000
def spReq : Sp := fun vs H Q _ => ∃ v d, vs = [v] ∧ Dt H v d ∧ okReq d ∧ ∀ H', Same H H' → Q (.bl (isReq d)) H'
theorem sl2 (x y : V) (r : List V) : ¬ HT.sIx (x :: y :: r).length 0 (some 2) = 0 := by
  rw [show (2 : Int) = ((2 : Nat) : Int) from rfl, HT.sIx_nat]
  simp
theorem cut2 (x y : V) (r : List V) : cutV (x :: y :: r) (some 2) none = r := by
  unfold cutV
  rw [show (2 : Int) = ((2 : Nat) : Int) from rfl, HT.sIx_nat, HT.sIx_none]
  have e : min 2 (x :: y :: r).length = 2 := by simp
  rw [e]
  show r.take _ = r
  exact List.take_of_length_le (by simp)
section
variable {P : Program} {w : World} {K : PySem.W.Frag} {mg : Str → Option Value} {base : Heap} {A_PARTS : Addr}
abbrev s_is_request : Stmt := topS 11
abbrev ns_is_request : List Str := ["value", "are_parts"]
theorem sc_is_request : FnScope ns_is_request ["value"] (defScope s_is_request) := ⟨rfl, rfl, rfl, by decide +kernel, rfl, by decide +kernel, by decide +kernel⟩

theorem ok_is_request {f : Addr} {fd : FuncData} (F : Fun K "is_request" "is_request" s_is_request f fd) (T : Txt K mg  w A_PARTS) (D_is_path : Dfn P w K mg base CX0 5 "_is_path" ["value"] (spD isPath)) (D_is_one_kind : Dfn P w K mg base CX0 1 "_is_one_kind" ["parts"] (spParts pKind)) (D_are_place_and_words : Dfn P w K mg base CX0 5 "_are_place_and_words" ["parts"] (spParts pPut))
    (D_are_two_numbers : Dfn P w K mg base CX0 4 "_are_two_numbers" ["parts"] (spParts pTwo)) (D_are_none : Dfn P w K mg base CX0 1 "_are_none" ["parts"] (spParts pNone)) (D_is_one_number : Dfn P w K mg base CX0 4 "_is_one_number" ["parts"] (spParts pNum)) : FnOk P w K mg base CX0 6 f fd ["value"] spReq := by
  refine F.ok sc_is_request (fun vs H Q E h => ?_) (fun cdv A outer s H vs Q E hr h => ?_)
  · obtain ⟨v, d, rfl, _⟩ := h
    rfl
  · obtain ⟨v, d, rfl, hd, ok, k⟩ := h
    refine ⟨_, (pss_cons (ps_if (PW.pt (pw_or (pt_not (pt_val (pe_callB (kIsi K) (by rfl) T.b_isinstance (by decide +kernel) (pa_cons (pv 0) (pa_cons (pe_bltn (v := .ty "tuple") (by rfl) T.b_tuple (by decide +kernel) rfl) pa_nil))))) (pw_or (pt_cmpR op_lt (pe_callB (kLen K) (by rfl) T.b_len (by decide +kernel) (pa_cons (pv 0) pa_nil)) pe_int (nomark _)) (pw_or1 (pt_not (pt_val (pe_callB (kIsi K) (by rfl) T.b_isinstance (by decide +kernel) (pa_cons (pe_ix (kIxT K) (pv 0) pe_int (fun _ _ => rfl)) (pa_cons (pe_bltn (v := .ty "str") (by rfl) T.b_str (by decide +kernel) rfl) pa_nil))))))))) (pss_one (ps_ret pe_bl)) pss_nil)
  (pss_cons (ps_set (i := 1) sc_is_request.nd rfl (Or.inl rfl) (pe_kget K w (by rfl) T.c__PARTS T.k__PARTS (pe_ix (kIxT K) (pv 0) pe_int (fun _ _ => rfl)) ⟨rfl, rfl, rfl, rfl⟩))
  (pss_cons (ps_if (PW.pt (pw_or (pt_cmpR op_isN (pv 1) pe_non (nomark _)) (pw_or1 (pt_not (pt_val (pe_dcall D_is_path (hr.mono (by decide)) (by rfl) pass0 (pa_cons (pe_ix (kIxT K) (pv 0) pe_int (fun _ _ => rfl)) pa_nil))))))) (pss_one (ps_ret pe_bl)) pss_nil)
  (pss_one (ps_ret (pe_orT (pe_callD (i := 1) D_is_one_kind (hr.mono (by decide)) pass0 rfl (Or.inl rfl) (pa_cons (pe_slice (kSlT K) (pv 0) (po_some pe_int) po_none) pa_nil)) (pe_orT (pe_callD (i := 1) D_are_place_and_words (hr.mono (by decide)) pass0 rfl (Or.inl rfl) (pa_cons (pe_slice (kSlT K) (pv 0) (po_some pe_int) po_none) pa_nil)) (pe_orT (pe_callD (i := 1) D_are_two_numbers (hr.mono (by decide)) pass0 rfl (Or.inl rfl) (pa_cons (pe_slice (kSlT K) (pv 0) (po_some pe_int) po_none) pa_nil)) (pe_orT (pe_callD (i := 1) D_are_none (hr.mono (by decide)) pass0 rfl (Or.inl rfl) (pa_cons (pe_slice (kSlT K) (pv 0) (po_some pe_int) po_none) pa_nil)) (pe_callD (i := 1) D_is_one_number (hr.mono (by decide)) pass0 rfl (Or.inl rfl) (pa_cons (pe_slice (kSlT K) (pv 0) (po_some pe_int) po_none) pa_nil))))))))))), ?_⟩
    refine ⟨_, rfl, _, _, _, _, _, rfl, .ty _, hd.ty, kit_ty (kitTup d), _, rfl, ?_⟩
    cases hd with
    | @tup a xs ds ha hs =>
      have hlen := hs.len
      obtain ⟨hz, hin⟩ := ok.len ds rfl
      refine iteF ?_
      match ds, hs, ok, k, hin, hz with
      | [], .nil, _, k, _, _ =>
        refine ⟨_, rfl, _, _, rfl, .inr (SqT.of ha), _, _, rfl, rfl, _, rfl, ?_⟩
        exact iteD (fun _ => iteT (k H (Same.refl H))) (fun h => absurd (by decide) h)
      | [d], .cons h1 .nil, _, k, _, _ =>
        have e0 : isReq (.tuple [d]) = false := by cases d <;> rfl
        rw [e0] at k
        refine ⟨_, rfl, _, _, rfl, .inr (SqT.of ha), _, _, rfl, rfl, _, rfl, ?_⟩
        exact iteD (fun _ => iteT (k H (Same.refl H))) (fun h => absurd (by simp) h)
      | d :: p :: r, .cons h1 (.cons h2 h3), ok, k, hin, hz =>
        refine ⟨_, rfl, _, _, rfl, .inr (SqT.of ha), _, _, rfl, rfl, _, rfl, ?_⟩
        refine iteD (fun h => absurd h (by simp; omega)) (fun _ => ?_)
        refine ⟨_, rfl, _, _, _, _, rfl, rfl, SqT.of ha, atC 0 rfl rfl, _, _, _, _, _, rfl, .ty _, h1.ty, kit_ty (kitStr d), _, rfl, ?_⟩
        cases h1 with
        | str z =>
          refine iteF ?_
          have hw := ok.word z (p :: r) rfl
          unfold words8 at hw
          simp only [List.mem_cons, List.not_mem_nil, or_false] at hw
          rcases hw with rfl | rfl | rfl | rfl | rfl | rfl | rfl | rfl
          · obtain ⟨f, hf, hk⟩ := T.g_make
            have e0 : isReq (.tuple (.str "make" :: p :: r)) = (isPath p && pKind r) := rfl
            rw [e0] at k
            refine ⟨_, rfl, _, _, _, _, rfl, rfl, SqT.of ha, atC 0 rfl rfl, "make", some (.ref f), rfl, hk, ?_⟩
            refine ⟨_, rfl, rfl, _, rfl, ?_⟩
            refine iteF ?_
            refine ⟨_, rfl, _, _, _, _, rfl, rfl, SqT.of ha, atC 1 rfl rfl, _, p, rfl, h2, fun es e => hin p (by simp) es e, fun H1 s1 => ⟨_, rfl, ?_⟩⟩
            cases hp : isPath p with
            | false =>
              rw [hp] at k
              exact iteT (k H1 s1)
            | true =>
              rw [hp, Bool.true_and] at k
              refine iteF ?_
              refine .inl (⟨⟨f, hf, rfl⟩, _, rfl, _, rfl, a, _, rfl, SqT.of (s1 _ _ ha), fun h => absurd h.1 (sl2 _ _ _), fun _ q hq => ?_⟩)
              rw [cut2]
              exact ⟨_, r, rfl, .tup upd_same (h3.same (s1.trans (Same.new hq))), by simp at hz; omega, fun d hd => hin d (by simp [hd]), fun H' s' => k H' ((s1.trans (Same.new hq)).trans s')⟩
          · obtain ⟨f, hf, hk⟩ := T.g_put
            have e0 : isReq (.tuple (.str "put" :: p :: r)) = (isPath p && pPut r) := rfl
            rw [e0] at k
            refine ⟨_, rfl, _, _, _, _, rfl, rfl, SqT.of ha, atC 0 rfl rfl, "put", some (.ref f), rfl, hk, ?_⟩
            refine ⟨_, rfl, rfl, _, rfl, ?_⟩
            refine iteF ?_
            refine ⟨_, rfl, _, _, _, _, rfl, rfl, SqT.of ha, atC 1 rfl rfl, _, p, rfl, h2, fun es e => hin p (by simp) es e, fun H1 s1 => ⟨_, rfl, ?_⟩⟩
            cases hp : isPath p with
            | false =>
              rw [hp] at k
              exact iteT (k H1 s1)
            | true =>
              rw [hp, Bool.true_and] at k
              refine iteF ?_
              refine .inr (.inl (⟨⟨f, hf, rfl⟩, _, rfl, _, rfl, a, _, rfl, SqT.of (s1 _ _ ha), fun h => absurd h.1 (sl2 _ _ _), fun _ q hq => ?_⟩))
              rw [cut2]
              exact ⟨_, r, rfl, .tup upd_same (h3.same (s1.trans (Same.new hq))), by simp at hz; omega, fun d hd => hin d (by simp [hd]), fun H' s' => k H' ((s1.trans (Same.new hq)).trans s')⟩
          · obtain ⟨f, hf, hk⟩ := T.g_get
            have e0 : isReq (.tuple (.str "get" :: p :: r)) = (isPath p && pTwo r) := rfl
            rw [e0] at k
            refine ⟨_, rfl, _, _, _, _, rfl, rfl, SqT.of ha, atC 0 rfl rfl, "get", some (.ref f), rfl, hk, ?_⟩
            refine ⟨_, rfl, rfl, _, rfl, ?_⟩
            refine iteF ?_
            refine ⟨_, rfl, _, _, _, _, rfl, rfl, SqT.of ha, atC 1 rfl rfl, _, p, rfl, h2, fun es e => hin p (by simp) es e, fun H1 s1 => ⟨_, rfl, ?_⟩⟩
            cases hp : isPath p with
            | false =>
              rw [hp] at k
              exact iteT (k H1 s1)
            | true =>
              rw [hp, Bool.true_and] at k
              refine iteF ?_
              refine .inr (.inr (.inl (⟨⟨f, hf, rfl⟩, _, rfl, _, rfl, a, _, rfl, SqT.of (s1 _ _ ha), fun h => absurd h.1 (sl2 _ _ _), fun _ q hq => ?_⟩)))
              rw [cut2]
              exact ⟨_, r, rfl, .tup upd_same (h3.same (s1.trans (Same.new hq))), by simp at hz; omega, fun d hd => hin d (by simp [hd]), fun H' s' => k H' ((s1.trans (Same.new hq)).trans s')⟩
          · obtain ⟨f, hf, hk⟩ := T.g_size
            have e0 : isReq (.tuple (.str "size" :: p :: r)) = (isPath p && pNone r) := rfl
            rw [e0] at k
            refine ⟨_, rfl, _, _, _, _, rfl, rfl, SqT.of ha, atC 0 rfl rfl, "size", some (.ref f), rfl, hk, ?_⟩
            refine ⟨_, rfl, rfl, _, rfl, ?_⟩
            refine iteF ?_
            refine ⟨_, rfl, _, _, _, _, rfl, rfl, SqT.of ha, atC 1 rfl rfl, _, p, rfl, h2, fun es e => hin p (by simp) es e, fun H1 s1 => ⟨_, rfl, ?_⟩⟩
            cases hp : isPath p with
            | false =>
              rw [hp] at k
              exact iteT (k H1 s1)
            | true =>
              rw [hp, Bool.true_and] at k
              refine iteF ?_
              refine .inr (.inr (.inr (.inl (⟨⟨f, hf, rfl⟩, _, rfl, _, rfl, a, _, rfl, SqT.of (s1 _ _ ha), fun h => absurd h.1 (sl2 _ _ _), fun _ q hq => ?_⟩))))
              rw [cut2]
              exact ⟨_, r, rfl, .tup upd_same (h3.same (s1.trans (Same.new hq))), by simp at hz; omega, fun d hd => hin d (by simp [hd]), fun H' s' => k H' ((s1.trans (Same.new hq)).trans s')⟩
          · obtain ⟨f, hf, hk⟩ := T.g_shrink
            have e0 : isReq (.tuple (.str "shrink" :: p :: r)) = (isPath p && pNum r) := rfl
            rw [e0] at k
            refine ⟨_, rfl, _, _, _, _, rfl, rfl, SqT.of ha, atC 0 rfl rfl, "shrink", some (.ref f), rfl, hk, ?_⟩
            refine ⟨_, rfl, rfl, _, rfl, ?_⟩
            refine iteF ?_
            refine ⟨_, rfl, _, _, _, _, rfl, rfl, SqT.of ha, atC 1 rfl rfl, _, p, rfl, h2, fun es e => hin p (by simp) es e, fun H1 s1 => ⟨_, rfl, ?_⟩⟩
            cases hp : isPath p with
            | false =>
              rw [hp] at k
              exact iteT (k H1 s1)
            | true =>
              rw [hp, Bool.true_and] at k
              refine iteF ?_
              refine .inr (.inr (.inr (.inr (⟨⟨f, hf, rfl⟩, _, rfl, _, rfl, a, _, rfl, SqT.of (s1 _ _ ha), fun h => absurd h.1 (sl2 _ _ _), fun _ q hq => ?_⟩))))
              rw [cut2]
              exact ⟨_, r, rfl, .tup upd_same (h3.same (s1.trans (Same.new hq))), by simp at hz; omega, fun d hd => hin d (by simp [hd]), fun H' s' => k H' ((s1.trans (Same.new hq)).trans s')⟩
          · obtain ⟨f, hf, hk⟩ := T.g_drop
            have e0 : isReq (.tuple (.str "drop" :: p :: r)) = (isPath p && pNone r) := rfl
            rw [e0] at k
            refine ⟨_, rfl, _, _, _, _, rfl, rfl, SqT.of ha, atC 0 rfl rfl, "drop", some (.ref f), rfl, hk, ?_⟩
            refine ⟨_, rfl, rfl, _, rfl, ?_⟩
            refine iteF ?_
            refine ⟨_, rfl, _, _, _, _, rfl, rfl, SqT.of ha, atC 1 rfl rfl, _, p, rfl, h2, fun es e => hin p (by simp) es e, fun H1 s1 => ⟨_, rfl, ?_⟩⟩
            cases hp : isPath p with
            | false =>
              rw [hp] at k
              exact iteT (k H1 s1)
            | true =>
              rw [hp, Bool.true_and] at k
              refine iteF ?_
              refine .inr (.inr (.inr (.inl (⟨⟨f, hf, rfl⟩, _, rfl, _, rfl, a, _, rfl, SqT.of (s1 _ _ ha), fun h => absurd h.1 (sl2 _ _ _), fun _ q hq => ?_⟩))))
              rw [cut2]
              exact ⟨_, r, rfl, .tup upd_same (h3.same (s1.trans (Same.new hq))), by simp at hz; omega, fun d hd => hin d (by simp [hd]), fun H' s' => k H' ((s1.trans (Same.new hq)).trans s')⟩
          · obtain ⟨f, hf, hk⟩ := T.g_list
            have e0 : isReq (.tuple (.str "list" :: p :: r)) = (isPath p && pNone r) := rfl
            rw [e0] at k
            refine ⟨_, rfl, _, _, _, _, rfl, rfl, SqT.of ha, atC 0 rfl rfl, "list", some (.ref f), rfl, hk, ?_⟩
            refine ⟨_, rfl, rfl, _, rfl, ?_⟩
            refine iteF ?_
            refine ⟨_, rfl, _, _, _, _, rfl, rfl, SqT.of ha, atC 1 rfl rfl, _, p, rfl, h2, fun es e => hin p (by simp) es e, fun H1 s1 => ⟨_, rfl, ?_⟩⟩
            cases hp : isPath p with
            | false =>
              rw [hp] at k
              exact iteT (k H1 s1)
            | true =>
              rw [hp, Bool.true_and] at k
              refine iteF ?_
              refine .inr (.inr (.inr (.inl (⟨⟨f, hf, rfl⟩, _, rfl, _, rfl, a, _, rfl, SqT.of (s1 _ _ ha), fun h => absurd h.1 (sl2 _ _ _), fun _ q hq => ?_⟩))))
              rw [cut2]
              exact ⟨_, r, rfl, .tup upd_same (h3.same (s1.trans (Same.new hq))), by simp at hz; omega, fun d hd => hin d (by simp [hd]), fun H' s' => k H' ((s1.trans (Same.new hq)).trans s')⟩
          · have e0 : isReq (.tuple (.str "sync" :: p :: r)) = false := rfl
            rw [e0] at k
            refine ⟨_, rfl, _, _, _, _, rfl, rfl, SqT.of ha, atC 0 rfl rfl, "sync", none, rfl, T.g_sync, ?_⟩
            refine ⟨_, rfl, rfl, _, rfl, ?_⟩
            exact iteT (iteT (k H (Same.refl H)))
        | int i => exact iteT (k H (Same.refl H))
        | bl b => exact iteT (k H (Same.refl H))
        | non => exact iteT (k H (Same.refl H))
        | tup a b => exact iteT (k H (Same.refl H))
        | lst a b => exact iteT (k H (Same.refl H))
    | int i => exact iteT (k H (Same.refl H))
    | bl b => exact iteT (k H (Same.refl H))
    | non => exact iteT (k H (Same.refl H))
    | str x => exact iteT (k H (Same.refl H))
    | lst a b => exact iteT (k H (Same.refl H))
end
end My

namespace My
open PySem L2
local macro_rules | `(tactic| walk_at "ne") => `(tactic| first | assumption | exact Ne.symm (by assumption) | exact ne_of_none (by assumption) (by assumption) | exact Ne.symm (ne_of_none (by assumption) (by assumption)))
local macro_rules | `(tactic| walk_at "hp") => `(tactic| first | assumption | with_reducible exact upd_same | (with_reducible refine Eq.trans (upd_ne ?_) ?_; rotate_left; walk_at "hp"; walk_at "ne"))
local macro_rules | `(tactic| walk_at "cnd") => `(tactic| first | omega | (show (0 : Int) < _; omega) | exact ⟨by omega, by omega⟩ | exact Or.inl ⟨by omega, by omega⟩ | exact Or.inr ⟨by omega, by omega⟩ | exact ⟨by omega, by omega, by decide⟩ | exact ⟨by omega, by omega, by omega⟩)
local macro_rules | `(tactic| walk_at "at") => `(tactic| first | exact atC 0 rfl rfl | exact atC 1 rfl rfl | exact atC 2 rfl rfl | exact atC 3 rfl rfl | exact atC 4 rfl rfl | exact atC 5 rfl rfl | exact atC 6 rfl rfl | exact atC 7 rfl rfl)
local macro_rules | `(tactic| walk_at "ix") => `(tactic| first | exact ixC 0 rfl (Nat.le_of_ble_eq_true rfl) | exact ixC 1 rfl (Nat.le_of_ble_eq_true rfl) | exact ixC 2 rfl (Nat.le_of_ble_eq_true rfl) | exact ixC 3 rfl (Nat.le_of_ble_eq_true rfl) | exact ixC 4 rfl (Nat.le_of_ble_eq_true rfl) | exact ixC 5 rfl (Nat.le_of_ble_eq_true rfl))
local macro_rules | `(tactic| walk_at "st") => `(tactic| first
  | refine ⟨_, rfl, ?_⟩
  | refine ⟨_, _, rfl, rfl, (by walk_at "cnd" : (_ : Prop)), ?_⟩
  | refine ⟨_, _, rfl, rfl, ?_⟩
  | refine ⟨rfl, ?_⟩
  | refine Or.inl ⟨_, rfl, ?_⟩
  | refine ⟨_, _, _, _, rfl, rfl, by exact SqL.of (by walk_at "hp"), by walk_at "at", ?_⟩
  | refine ⟨_, _, _, _, rfl, rfl, by exact SqT.of (by walk_at "hp"), by walk_at "at", ?_⟩
  | refine ⟨_, _, _, _, rfl, rfl, by walk_at "hp", by walk_at "ix", ?_⟩
  | refine ⟨_, _, rfl, Or.inl (by exact SqL.of (by walk_at "hp")), ?_⟩
  | refine ⟨_, _, rfl, Or.inr (by exact SqT.of (by walk_at "hp")), ?_⟩)
local macro_rules | `(tactic| walk_at "so") => `(tactic| first
  | refine ⟨_, _, _, _, _, rfl, by walk_at "hp", by assumption, by assumption, rfl, ?_⟩
  | refine ⟨_, _, _, _, rfl, by walk_at "hp", by assumption, by assumption, Nat.le_of_ble_eq_true rfl, ?_⟩
  | refine ⟨_, _, _, rfl, by walk_at "hp", rfl, ?_⟩
  | walk_at "st")
local macro_rules | `(tactic| walk_at "ro") => `(tactic| repeat walk_at "so")
local macro_rules | `(tactic| walk_at "run") => `(tactic| repeat walk_at "st")

theorem units1 {k : Nat} {A : Around} (r : Room k A) : A.units + 1 < cLine := by have := r.un; omega
theorem map_get {α β : Type} {f : α → β} {l : List α} {i : Nat} {y : β} (h : (l.map f)[i]? = some y) : ∃ x, l[i]? = some x ∧ f x = y := by
  rw [List.getElem?_map] at h
  exact Option.map_eq_some_iff.mp h
/-! ### the tree as it stands -/
inductive Part
  | dir (ns : List Int)
  | file (ws : List Int)
abbrev Fm := List Int → Option Part
structure TA where
  nd : List Int → Addr
  inn : List Int → Addr
def kN : L2.Key := Sum.inr ("names" : Str)
def kW : L2.Key := Sum.inr ("words" : Str)
theorem kWN : ¬ kW = kN := by decide +kernel
structure TR (H : Hp) (a0 : Addr) (F : Fm) (α : TA) : Prop where
  root : α.nd [] = a0
  top : ∃ ns, F [] = some (.dir ns)
  dir : ∀ p ns, F p = some (.dir ns) → H (α.nd p) = some (.dK [(kN, .ref (α.inn p))]) ∧ H (α.inn p) = some (.dK (ns.map fun n => ((Sum.inl n : L2.Key), V.ref (α.nd (p ++ [n]))))) ∧ ns.Nodup ∧ ns.length ≤ 60 ∧ ∀ n, n ∈ ns ↔ (F (p ++ [n])).isSome = true
  file : ∀ p ws, F p = some (.file ws) → H (α.nd p) = some (.dK [(kW, .ref (α.inn p))]) ∧ H (α.inn p) = some (.lst (ws.map V.int)) ∧ ws.length ≤ 48
  up : ∀ p n, (F (p ++ [n])).isSome = true → ∃ ns, F p = some (.dir ns)
  inj1 : ∀ p q, (F p).isSome = true → (F q).isSome = true → α.nd p = α.nd q → p = q
  inj2 : ∀ p q, (F p).isSome = true → (F q).isSome = true → α.inn p = α.inn q → p = q
  inj3 : ∀ p q, (F p).isSome = true → (F q).isSome = true → α.nd p ≠ α.inn q
def partV (F : Fm) (α : TA) (p : List Int) : V := if (F p).isSome = true then .ref (α.nd p) else .non
theorem pre_none {H : Hp} {a0 : Addr} {F : Fm} {α : TA} (t : TR H a0 F α) : ∀ (r p : List Int), F p = none → F (p ++ r) = none
  | [], p, h => by rw [List.append_nil]; exact h
  | n :: r, p, h => by
    rw [show p ++ n :: r = (p ++ [n]) ++ r by simp]
    refine pre_none t r _ ?_
    cases e : F (p ++ [n]) with
    | none => rfl
    | some x =>
      obtain ⟨ns, q⟩ := t.up p n (by rw [e]; rfl)
      rw [h] at q; cases q
theorem pre_file {H : Hp} {a0 : Addr} {F : Fm} {α : TA} (t : TR H a0 F α) {p : List Int} {ws : List Int} (h : F p = some (.file ws)) (n : Int) (r : List Int) : F (p ++ n :: r) = none := by
  rw [show p ++ n :: r = (p ++ [n]) ++ r by simp]
  refine pre_none t r _ ?_
  cases e : F (p ++ [n]) with
  | none => rfl
  | some x =>
    obtain ⟨ns, q⟩ := t.up p n (by rw [e]; rfl)
    rw [h] at q; cases q
theorem val_names (α : TA) (p : List Int) (n : Int) : ∀ ns : List Int, valV (ns.map fun n => ((Sum.inl n : L2.Key), V.ref (α.nd (p ++ [n])))) (Sum.inl n : L2.Key) = if n ∈ ns then some (.ref (α.nd (p ++ [n]))) else none
  | [] => rfl
  | m :: ns => by
    rw [List.map_cons]
    by_cases q : m = n
    · subst q
      rw [valV_pos rfl, if_pos List.mem_cons_self]
    · rw [valV_neg (fun z => q (Sum.inl.inj z)), val_names α p n ns]
      have : n ∈ m :: ns ↔ n ∈ ns := by
        rw [List.mem_cons]
        exact ⟨fun h => h.resolve_left fun z => q z.symm, .inr⟩
      by_cases h : n ∈ ns
      · rw [if_pos h, if_pos (this.mpr h)]
      · rw [if_neg h, if_neg (fun z => h (this.mp z))]
/-- a path as a value -/
def PathV (H : Hp) (v : V) (p : List Int) : Prop := ∃ a, v = .ref a ∧ H a = some (.tup (p.map V.int))
def spNew : Sp := fun vs H Q _ => vs = [] ∧ ∀ a d, a ≠ d → H a = none → H d = none → ∀ H', Same H H' → H' a = some (.dK [(kN, .ref d)]) → H' d = some (.dK []) → Q (.ref a) H'
def spIsDir : Sp := fun vs H Q _ => ∃ (a : Addr) (kvs : List (L2.Key × V)), vs = [.ref a] ∧ H a = some (.dK kvs) ∧ Q (.bl (valV kvs kN).isSome) H
def spAt : Sp := fun vs H Q _ => ∃ (a0 : Addr) (F : Fm) (α : TA) (v : V) (p : List Int), vs = [.ref a0, v] ∧ TR H a0 F α ∧ PathV H v p ∧ Q (partV F α p) H
section
variable {P : Program} {w : World} {K : PySem.W.Frag} {mg : Str → Option Value} {base : Heap} {A_PARTS : Addr}
abbrev s_is_directory : Stmt := topS 10
abbrev ns_is_directory : List Str := ["part"]
theorem sc_is_directory : FnScope ns_is_directory ["part"] (defScope s_is_directory) := ⟨rfl, rfl, rfl, by decide +kernel, rfl, by decide +kernel, by decide +kernel⟩

theorem ok_is_directory {f : Addr} {fd : FuncData} (F : Fun K "is_directory" "is_directory" s_is_directory f fd) (T : Txt K mg  w A_PARTS) : FnOk P w K mg base CX0 1 f fd ["part"] spIsDir := by
  refine F.ok sc_is_directory (fun vs H Q E h => ?_) (fun cdv A outer s H vs Q E hr h => ?_)
  · obtain ⟨a, kvs, rfl, _⟩ := h
    rfl
  · obtain ⟨a, kvs, rfl, ha, k⟩ := h
    refine ⟨_, (pss_one (ps_ret (pe_cmp (pc_din (units1 hr) pe_str (pv 0))))), ?_⟩
    exact ⟨_, rfl, a, _, rfl, DGet.k (k := kN) ha, k⟩
abbrev s_part_at : Stmt := topS 21
abbrev ns_part_at : List Str := ["tree", "path", "part", "name"]
theorem sc_part_at : FnScope ns_part_at ["tree", "path"] (defScope s_part_at) := ⟨rfl, rfl, rfl, by decide +kernel, rfl, by decide +kernel, by decide +kernel⟩

theorem ok_part_at {f : Addr} {fd : FuncData} (F : Fun K "part_at" "part_at" s_part_at f fd) (T : Txt K mg  w A_PARTS) (D_is_directory : Dfn P w K mg base CX0 1 "is_directory" ["part"] spIsDir) : FnOk P w K mg base CX0 2 f fd ["tree", "path"] spAt := by
  refine F.ok sc_part_at (fun vs H Q E h => ?_) (fun cdv A outer s H vs Q E hr h => ?_)
  · obtain ⟨a0, Fm, α, v, p, rfl, _⟩ := h
    rfl
  · obtain ⟨a0, Fm, α, v, p, rfl, t, ⟨pa, rfl, hp⟩, k⟩ := h
    refine ⟨_, (pss_cons (ps_set (i := 2) sc_part_at.nd rfl (Or.inl rfl) (pv 0))
  (pss_cons (ps_for PassesOwn.never (by rfl) (kpiT K (pv 1)) (pg_name (i := 3) sc_part_at.nd rfl (Or.inl rfl)) (pss_cons (ps_if (PW.pt (pw_or (pt_cmpR op_isN (pv 2) pe_non (nomark _)) (pw_or1 (pt_not (pt_val (pe_dcall D_is_directory (hr.mono (by decide)) (by rfl) pass0 (pa_cons (pv 2) pa_nil))))))) (pss_one (ps_ret pe_non)) pss_nil)
  (pss_one (ps_set (i := 2) sc_part_at.nd rfl (Or.inl rfl) (pe_dget1 (units1 hr) (pe_dget (units1 hr) (pv 2) pe_str (fun _ _ => rfl)) (pv 3) ⟨rfl, rfl, rfl, rfl⟩)))))
  (pss_one (ps_ret (pv 2))))), ?_⟩
    refine ⟨_, rfl, _, rfl, pa, rfl, ⟨_, SqT.of hp⟩, for_tup (xs := p.map V.int) (fun i σ H' => ∃ v3, H' = H ∧ σ = [some (.ref a0), some (.ref pa), some (partV Fm α (p.take i)), v3]) ?_ ?_ ?_ ?_⟩
    · obtain ⟨ns, h0⟩ := t.top
      have e0 : partV Fm α (p.take 0) = .ref a0 := by
        unfold partV
        rw [List.take_zero, h0]
        show V.ref (α.nd []) = _
        rw [t.root]
      exact ⟨none, rfl, by rw [e0]; rfl⟩
    · rintro i σ H' _ ⟨_, rfl, _⟩
      exact SqT.of hp
    · rintro i x σ H' hi ⟨v3, rfl, rfl⟩
      obtain ⟨n, hn, rfl⟩ := map_get hi
      have ep : p = p.take i ++ n :: p.drop (i + 1) := by
        have hl := (List.getElem?_eq_some_iff.mp hn).1
        have e1 : p[i] = n := (List.getElem?_eq_some_iff.mp hn).2
        rw [← e1, ← List.drop_eq_getElem_cons hl, List.take_append_drop]
      have et : p.take (i + 1) = p.take i ++ [n] := (take_snoc hn).symm
      rw [et]
      have gone : Fm (p.take i ++ [n]) = none → Q .non H' := fun e => by
        have := pre_none t (p.drop (i + 1)) _ e
        rw [show p.take i ++ [n] ++ p.drop (i + 1) = p by rw [List.append_assoc]; exact ep.symm] at this
        have e2 : partV Fm α p = .non := by unfold partV; rw [this]; rfl
        rw [e2] at k
        exact k
      cases e : Fm (p.take i) with
      | none =>
        have e0 : partV Fm α (p.take i) = .non := by unfold partV; rw [e]; rfl
        rw [e0]
        refine ⟨_, rfl, rfl, _, rfl, ?_⟩
        exact iteT (iteT (gone (pre_none t [n] _ e)))
      | some x =>
        have e0 : partV Fm α (p.take i) = .ref (α.nd (p.take i)) := by unfold partV; rw [e]; rfl
        rw [e0]
        refine ⟨_, rfl, rfl, _, rfl, ?_⟩
        refine iteF ?_
        cases x with
        | file ws =>
          obtain ⟨h1, h2, _⟩ := t.file _ _ e
          refine ⟨_, rfl, _, _, rfl, h1, _, rfl, ?_⟩
          have ev : valV [(kW, V.ref (α.inn (p.take i)))] kN = none := by rw [valV_neg kWN]; rfl
          rw [ev]
          exact iteT (gone (pre_file t e n []))
        | dir ns =>
          obtain ⟨h1, h2, h3, _, h4⟩ := t.dir _ _ e
          refine ⟨_, rfl, _, _, rfl, h1, _, rfl, ?_⟩
          have ev : valV [(kN, V.ref (α.inn (p.take i)))] kN = some (.ref (α.inn (p.take i))) := valV_pos rfl
          rw [ev]
          refine iteF ?_
          have dg := DGet.k (k := kN) h1
          rw [ev] at dg
          have dg2 := DGet.k (k := (Sum.inl n : L2.Key)) h2
          rw [val_names] at dg2
          refine ⟨_, rfl, α.nd (p.take i), _, rfl, dg, α.inn (p.take i), rfl, .inl ⟨_, .inl h2⟩, _, rfl, _, dg2, some (.int n), rfl, ?_⟩
          have ef : (if n ∈ ns then some (V.ref (α.nd (p.take i ++ [n]))) else none).getD V.non = partV Fm α (p.take i ++ [n]) := by
            unfold partV
            by_cases q : n ∈ ns
            · rw [if_pos q, if_pos ((h4 n).mp q)]; rfl
            · rw [if_neg q, if_neg (fun z => q ((h4 n).mpr z))]; rfl
          rw [ef]; rfl
    · rintro σ H' ⟨v3, rfl, rfl⟩
      rw [List.length_map, List.take_length]
      exact ⟨_, rfl, k⟩
end
end My

namespace My
open PySem L2
local macro_rules | `(tactic| walk_at "ne") => `(tactic| first | assumption | exact Ne.symm (by assumption) | exact ne_of_none (by assumption) (by assumption) | exact Ne.symm (ne_of_none (by assumption) (by assumption)))
local macro_rules | `(tactic| walk_at "hp") => `(tactic| first | assumption | with_reducible exact upd_same | (with_reducible refine Eq.trans (upd_ne ?_) ?_; rotate_left; walk_at "hp"; walk_at "ne"))
local macro_rules | `(tactic| walk_at "cnd") => `(tactic| first | omega | (show (0 : Int) < _; omega) | exact ⟨by omega, by omega⟩ | exact Or.inl ⟨by omega, by omega⟩ | exact Or.inr ⟨by omega, by omega⟩ | exact ⟨by omega, by omega, by decide⟩ | exact ⟨by omega, by omega, by omega⟩)
local macro_rules | `(tactic| walk_at "at") => `(tactic| first | exact atC 0 rfl rfl | exact atC 1 rfl rfl | exact atC 2 rfl rfl | exact atC 3 rfl rfl | exact atC 4 rfl rfl | exact atC 5 rfl rfl | exact atC 6 rfl rfl | exact atC 7 rfl rfl)
local macro_rules | `(tactic| walk_at "ix") => `(tactic| first | exact ixC 0 rfl (Nat.le_of_ble_eq_true rfl) | exact ixC 1 rfl (Nat.le_of_ble_eq_true rfl) | exact ixC 2 rfl (Nat.le_of_ble_eq_true rfl) | exact ixC 3 rfl (Nat.le_of_ble_eq_true rfl) | exact ixC 4 rfl (Nat.le_of_ble_eq_true rfl) | exact ixC 5 rfl (Nat.le_of_ble_eq_true rfl))
local macro_rules | `(tactic| walk_at "st") => `(tactic| first
  | refine ⟨_, rfl, ?_⟩
  | refine ⟨_, _, rfl, rfl, (by walk_at "cnd" : (_ : Prop)), ?_⟩
  | refine ⟨_, _, rfl, rfl, ?_⟩
  | refine ⟨rfl, ?_⟩
  | refine Or.inl ⟨_, rfl, ?_⟩
  | refine ⟨_, _, _, _, rfl, rfl, by exact SqL.of (by walk_at "hp"), by walk_at "at", ?_⟩
  | refine ⟨_, _, _, _, rfl, rfl, by exact SqT.of (by walk_at "hp"), by walk_at "at", ?_⟩
  | refine ⟨_, _, _, _, rfl, rfl, by walk_at "hp", by walk_at "ix", ?_⟩
  | refine ⟨_, _, rfl, Or.inl (by exact SqL.of (by walk_at "hp")), ?_⟩
  | refine ⟨_, _, rfl, Or.inr (by exact SqT.of (by walk_at "hp")), ?_⟩)
local macro_rules | `(tactic| walk_at "so") => `(tactic| first
  | refine ⟨_, _, _, _, _, rfl, by walk_at "hp", by assumption, by assumption, rfl, ?_⟩
  | refine ⟨_, _, _, _, rfl, by walk_at "hp", by assumption, by assumption, Nat.le_of_ble_eq_true rfl, ?_⟩
  | refine ⟨_, _, _, rfl, by walk_at "hp", rfl, ?_⟩
  | walk_at "st")
local macro_rules | `(tactic| walk_at "ro") => `(tactic| repeat walk_at "so")
local macro_rules | `(tactic| walk_at "run") => `(tactic| repeat walk_at "st")

def addF (F : Fm) (p0 : List Int) (n : Int) (x : Part) : Fm := fun q => if q = p0 ++ [n] then some x else if q = p0 then (match F p0 with
  | some (.dir ns) => some (.dir (ns ++ [n]))
  | o => o) else F q
def addA (α : TA) (p : List Int) (a d : Addr) : TA := ⟨fun q => if q = p then a else α.nd q, fun q => if q = p then d else α.inn q⟩
theorem snoc_ne (p : List Int) (n : Int) : p ≠ p ++ [n] := fun e => by
  have := congrArg List.length e
  simp at this
theorem snoc_ne2 (p : List Int) (n m : Int) (q : List Int) (h : p ++ [n] ++ [m] = q) (hq : q = p ++ [n]) : False := by
  rw [hq] at h
  exact snoc_ne (p ++ [n]) m h.symm
theorem snoc_inj {p q : List Int} {n m : Int} (h : p ++ [n] = q ++ [m]) : p = q ∧ n = m := by
  have := List.append_inj' h rfl
  exact ⟨this.1, by have := this.2; injection this⟩
section
variable {H H' : Hp} {a0 a d : Addr} {F : Fm} {α : TA} {p0 : List Int} {n : Int} {ns : List Int} {x : Part}
theorem TR.none_below (t : TR H a0 F α) (h : F p0 = none) (m : Int) : F (p0 ++ [m]) = none := pre_none t [m] p0 h
theorem TR.add (t : TR H a0 F α) (hp : F p0 = some (.dir ns)) (hl : ns.length < 60) (hn : F (p0 ++ [n]) = none) (ha : H a = none) (hd : H d = none) (had : a ≠ d)
    (hx : (x = .dir [] ∧ H' a = some (.dK [(kN, .ref d)]) ∧ H' d = some (.dK [])) ∨ (x = .file [] ∧ H' a = some (.dK [(kW, .ref d)]) ∧ H' d = some (.lst [])))
    (hi : H' (α.inn p0) = some (.dK (ns.map (fun m => ((Sum.inl m : L2.Key), V.ref (α.nd (p0 ++ [m])))) ++ [(Sum.inl n, .ref a)]))) (old : ∀ b o, H b = some o → b ≠ α.inn p0 → H' b = some o) :
    TR H' a0 (addF F p0 n x) (addA α (p0 ++ [n]) a d) := by
  have Fn : addF F p0 n x (p0 ++ [n]) = some x := if_pos rfl
  have Fp : addF F p0 n x p0 = some (.dir (ns ++ [n])) := by
    unfold addF
    rw [if_neg (snoc_ne p0 n), if_pos rfl, hp]
  have Fo : ∀ q, q ≠ p0 ++ [n] → q ≠ p0 → addF F p0 n x q = F q := fun q h1 h2 => by
    unfold addF; rw [if_neg h1, if_neg h2]
  have so : ∀ q, q ≠ p0 ++ [n] → ((addF F p0 n x q).isSome = true ↔ (F q).isSome = true) := fun q h1 => by
    by_cases h2 : q = p0
    · subst h2; rw [Fp, hp]; exact ⟨fun _ => rfl, fun _ => rfl⟩
    · rw [Fo q h1 h2]
  have lv : ∀ q y, F q = some y → (∃ o, H (α.nd q) = some o) ∧ ∃ o, H (α.inn q) = some o := fun q y e => by
    cases y with
    | dir ms => obtain ⟨h1, h2, _⟩ := t.dir q ms e; exact ⟨⟨_, h1⟩, ⟨_, h2⟩⟩
    | file ws => obtain ⟨h1, h2, _⟩ := t.file q ws e; exact ⟨⟨_, h1⟩, ⟨_, h2⟩⟩
  have lvN : ∀ q, (F q).isSome = true → α.nd q ≠ a ∧ α.nd q ≠ d ∧ α.inn q ≠ a ∧ α.inn q ≠ d := fun q h => by
    obtain ⟨y, e⟩ := Option.isSome_iff_exists.mp h
    obtain ⟨⟨o1, e1⟩, ⟨o2, e2⟩⟩ := lv q y e
    exact ⟨ne_of_none e1 ha, ne_of_none e1 hd, ne_of_none e2 ha, ne_of_none e2 hd⟩
  have nn : ∀ q, q ≠ p0 ++ [n] → (addA α (p0 ++ [n]) a d).nd q = α.nd q ∧ (addA α (p0 ++ [n]) a d).inn q = α.inn q := fun q h => ⟨if_neg h, if_neg h⟩
  have nN : (addA α (p0 ++ [n]) a d).nd (p0 ++ [n]) = a ∧ (addA α (p0 ++ [n]) a d).inn (p0 ++ [n]) = d := ⟨if_pos rfl, if_pos rfl⟩
  have p0s : (F p0).isSome = true := by rw [hp]; rfl
  refine ⟨?_, ?_, ?_, ?_, ?_, ?_, ?_, ?_⟩
  · rw [(nn [] (fun e => by simp at e)).1]; exact t.root
  · obtain ⟨ms, h0⟩ := t.top
    by_cases h2 : ([] : List Int) = p0
    · exact ⟨_, by rw [h2]; exact Fp⟩
    · exact ⟨ms, by rw [Fo [] (fun e => by simp at e) h2]; exact h0⟩
  · intro q ms e
    by_cases h1 : q = p0 ++ [n]
    · subst h1
      rw [Fn] at e
      cases e
      rcases hx with ⟨e1, e2, e3⟩ | ⟨e1, _⟩
      · cases e1
        rw [nN.1, nN.2]
        refine ⟨e2, e3, List.nodup_nil, by decide, fun m => ⟨fun h => (by cases h), fun h => ?_⟩⟩
        have z := (so (p0 ++ [n] ++ [m]) (fun z => snoc_ne (p0 ++ [n]) m z.symm)).mp h
        rw [t.none_below hn m] at z
        cases z
      · cases e1
    · by_cases h2 : q = p0
      · subst h2
        rw [Fp] at e
        cases e
        obtain ⟨t1, t2, t3, t4, t5⟩ := t.dir q ns hp
        have nin : n ∉ ns := fun z => by
          have := (t5 n).mp z
          rw [hn] at this; cases this
        rw [(nn q h1).1, (nn q h1).2]
        refine ⟨old _ _ t1 (t.inj3 q q p0s p0s), ?_, ?_, by simp; omega, fun m => ?_⟩
        · rw [hi, List.map_append]
          congr 3
          · refine List.map_congr_left fun m hm => ?_
            rw [(nn (q ++ [m]) (fun z => nin (by rw [← (snoc_inj z).2]; exact hm))).1]
          · show [((Sum.inl n : L2.Key), V.ref a)] = [((Sum.inl n : L2.Key), V.ref ((addA α (q ++ [n]) a d).nd (q ++ [n])))]
            rw [nN.1]
        · exact List.nodup_append.mpr ⟨t3, List.pairwise_singleton _ _, fun z hz y hy e => nin (by rw [← List.mem_singleton.mp hy, ← e]; exact hz)⟩
        · rw [List.mem_append, List.mem_singleton]
          by_cases hm : m = n
          · subst hm
            rw [Fn]
            exact ⟨fun _ => rfl, fun _ => .inr rfl⟩
          · rw [so (q ++ [m]) (fun z => hm (snoc_inj z).2), ← t5 m]
            exact ⟨fun z => z.resolve_right hm, .inl⟩
      · rw [Fo q h1 h2] at e
        obtain ⟨t1, t2, t3, t4, t5⟩ := t.dir q ms e
        have qs : (F q).isSome = true := by rw [e]; rfl
        rw [(nn q h1).1, (nn q h1).2]
        refine ⟨old _ _ t1 (t.inj3 q p0 qs p0s), ?_, t3, t4, fun m => ?_⟩
        · rw [old _ _ t2 (fun z => h2 (t.inj2 q p0 qs p0s z))]
          congr 2
          refine List.map_congr_left fun m hm => ?_
          rw [(nn (q ++ [m]) (fun z => h2 (snoc_inj z).1)).1]
        · rw [so (q ++ [m]) (fun z => h2 (snoc_inj z).1)]
          exact t5 m
  · intro q ws e
    by_cases h1 : q = p0 ++ [n]
    · subst h1
      rw [Fn] at e
      cases e
      rcases hx with ⟨e1, _⟩ | ⟨e1, e2, e3⟩
      · cases e1
      · cases e1
        rw [nN.1, nN.2]
        exact ⟨e2, e3, by decide⟩
    · by_cases h2 : q = p0
      · subst h2
        rw [Fp] at e
        cases e
      · rw [Fo q h1 h2] at e
        obtain ⟨t1, t2, t3⟩ := t.file q ws e
        have qs : (F q).isSome = true := by rw [e]; rfl
        rw [(nn q h1).1, (nn q h1).2]
        exact ⟨old _ _ t1 (t.inj3 q p0 qs p0s), old _ _ t2 (fun z => h2 (t.inj2 q p0 qs p0s z)), t3⟩
  · intro q m e
    by_cases h0 : q = p0
    · subst h0; exact ⟨_, Fp⟩
    · have z := (so (q ++ [m]) (fun z => h0 (snoc_inj z).1)).mp e
      obtain ⟨ms, hm⟩ := t.up q m z
      refine ⟨ms, ?_⟩
      rw [Fo q (fun w => ?_) h0]
      · exact hm
      · rw [w, hn] at hm; cases hm
  · intro q r h1 h2 e
    by_cases q1 : q = p0 ++ [n] <;> by_cases q2 : r = p0 ++ [n]
    · rw [q1, q2]
    · rw [q1, nN.1, (nn r q2).1] at e
      exact absurd e.symm (lvN r ((so r q2).mp h2)).1
    · rw [q2, nN.1, (nn q q1).1] at e
      exact absurd e (lvN q ((so q q1).mp h1)).1
    · rw [(nn q q1).1, (nn r q2).1] at e
      exact t.inj1 q r ((so q q1).mp h1) ((so r q2).mp h2) e
  · intro q r h1 h2 e
    by_cases q1 : q = p0 ++ [n] <;> by_cases q2 : r = p0 ++ [n]
    · rw [q1, q2]
    · rw [q1, nN.2, (nn r q2).2] at e
      exact absurd e.symm (lvN r ((so r q2).mp h2)).2.2.2
    · rw [q2, nN.2, (nn q q1).2] at e
      exact absurd e (lvN q ((so q q1).mp h1)).2.2.2
    · rw [(nn q q1).2, (nn r q2).2] at e
      exact t.inj2 q r ((so q q1).mp h1) ((so r q2).mp h2) e
  · intro q r h1 h2 e
    by_cases q1 : q = p0 ++ [n] <;> by_cases q2 : r = p0 ++ [n]
    · rw [q1, q2, nN.1, nN.2] at e
      exact had e
    · rw [q1, nN.1, (nn r q2).2] at e
      exact absurd e.symm (lvN r ((so r q2).mp h2)).2.2.1
    · rw [q2, nN.2, (nn q q1).1] at e
      exact absurd e (lvN q ((so q q1).mp h1)).2.1
    · rw [(nn q q1).1, (nn r q2).2] at e
      exact t.inj3 q r ((so q q1).mp h1) ((so r q2).mp h2) e
end
end My

namespace My
open PySem L2
local macro_rules | `(tactic| walk_at "ne") => `(tactic| first | assumption | exact Ne.symm (by assumption) | exact ne_of_none (by assumption) (by assumption) | exact Ne.symm (ne_of_none (by assumption) (by assumption)))
local macro_rules | `(tactic| walk_at "hp") => `(tactic| first | assumption | with_reducible exact upd_same | (with_reducible refine Eq.trans (upd_ne ?_) ?_; rotate_left; walk_at "hp"; walk_at "ne"))
local macro_rules | `(tactic| walk_at "cnd") => `(tactic| first | omega | (show (0 : Int) < _; omega) | exact ⟨by omega, by omega⟩ | exact Or.inl ⟨by omega, by omega⟩ | exact Or.inr ⟨by omega, by omega⟩ | exact ⟨by omega, by omega, by decide⟩ | exact ⟨by omega, by omega, by omega⟩)
local macro_rules | `(tactic| walk_at "at") => `(tactic| first | exact atC 0 rfl rfl | exact atC 1 rfl rfl | exact atC 2 rfl rfl | exact atC 3 rfl rfl | exact atC 4 rfl rfl | exact atC 5 rfl rfl | exact atC 6 rfl rfl | exact atC 7 rfl rfl)
local macro_rules | `(tactic| walk_at "ix") => `(tactic| first | exact ixC 0 rfl (Nat.le_of_ble_eq_true rfl) | exact ixC 1 rfl (Nat.le_of_ble_eq_true rfl) | exact ixC 2 rfl (Nat.le_of_ble_eq_true rfl) | exact ixC 3 rfl (Nat.le_of_ble_eq_true rfl) | exact ixC 4 rfl (Nat.le_of_ble_eq_true rfl) | exact ixC 5 rfl (Nat.le_of_ble_eq_true rfl))
local macro_rules | `(tactic| walk_at "st") => `(tactic| first
  | refine ⟨_, rfl, ?_⟩
  | refine ⟨_, _, rfl, rfl, (by walk_at "cnd" : (_ : Prop)), ?_⟩
  | refine ⟨_, _, rfl, rfl, ?_⟩
  | refine ⟨rfl, ?_⟩
  | refine Or.inl ⟨_, rfl, ?_⟩
  | refine ⟨_, _, _, _, rfl, rfl, by exact SqL.of (by walk_at "hp"), by walk_at "at", ?_⟩
  | refine ⟨_, _, _, _, rfl, rfl, by exact SqT.of (by walk_at "hp"), by walk_at "at", ?_⟩
  | refine ⟨_, _, _, _, rfl, rfl, by walk_at "hp", by walk_at "ix", ?_⟩
  | refine ⟨_, _, rfl, Or.inl (by exact SqL.of (by walk_at "hp")), ?_⟩
  | refine ⟨_, _, rfl, Or.inr (by exact SqT.of (by walk_at "hp")), ?_⟩)
local macro_rules | `(tactic| walk_at "so") => `(tactic| first
  | refine ⟨_, _, _, _, _, rfl, by walk_at "hp", by assumption, by assumption, rfl, ?_⟩
  | refine ⟨_, _, _, _, rfl, by walk_at "hp", by assumption, by assumption, Nat.le_of_ble_eq_true rfl, ?_⟩
  | refine ⟨_, _, _, rfl, by walk_at "hp", rfl, ?_⟩
  | walk_at "st")
local macro_rules | `(tactic| walk_at "ro") => `(tactic| repeat walk_at "so")
local macro_rules | `(tactic| walk_at "run") => `(tactic| repeat walk_at "st")

def delF (F : Fm) (p0 : List Int) (n : Int) : Fm := fun q => if q = p0 ++ [n] then none else if q = p0 then (match F p0 with
  | some (.dir ns) => some (.dir (ns.filter fun m => decide (m ≠ n)))
  | o => o) else F q
def setF (F : Fm) (p : List Int) (ws : List Int) : Fm := fun q => if q = p then some (.file ws) else F q
theorem drop_map (α : TA) (p : List Int) (n : Int) : ∀ ns : List Int, dropK (ns.map fun m => ((Sum.inl m : L2.Key), V.ref (α.nd (p ++ [m])))) (Sum.inl n : L2.Key) = (ns.filter fun m => decide (m ≠ n)).map fun m => ((Sum.inl m : L2.Key), V.ref (α.nd (p ++ [m])))
  | [] => rfl
  | m :: ns => by
    have ih := drop_map α p n ns
    unfold dropK at ih ⊢
    rw [List.map_cons]
    by_cases q : m = n
    · subst q
      rw [List.filter_cons_of_neg (by simp), List.filter_cons_of_neg (by simp)]
      exact ih
    · rw [List.filter_cons_of_pos (by simpa using q), List.filter_cons_of_pos (by simpa using q), List.map_cons, ih]
section
variable {H H' : Hp} {a0 : Addr} {F : Fm} {α : TA} {p0 p : List Int} {n : Int} {ns ws ws' : List Int} {x : Part}
theorem TR.same (t : TR H a0 F α) (s : Same H H') : TR H' a0 F α := ⟨t.root, t.top, fun p ns e => by
    obtain ⟨h1, h2, h3⟩ := t.dir p ns e
    exact ⟨s _ _ h1, s _ _ h2, h3⟩, fun p ws e => by
    obtain ⟨h1, h2, h3⟩ := t.file p ws e
    exact ⟨s _ _ h1, s _ _ h2, h3⟩, t.up, t.inj1, t.inj2, t.inj3⟩
theorem TR.setW (t : TR H a0 F α) (hp : F p = some (.file ws)) (hl : ws'.length ≤ 48) (hi : H' (α.inn p) = some (.lst (ws'.map V.int))) (old : ∀ b o, H b = some o → b ≠ α.inn p → H' b = some o) : TR H' a0 (setF F p ws') α := by
  have Fp : setF F p ws' p = some (.file ws') := if_pos rfl
  have Fo : ∀ q, q ≠ p → setF F p ws' q = F q := fun q h => if_neg h
  have ps : (F p).isSome = true := by rw [hp]; rfl
  have so : ∀ q, (setF F p ws' q).isSome = (F q).isSome := fun q => by
    by_cases h : q = p
    · rw [h, Fp, hp]; rfl
    · rw [Fo q h]
  refine ⟨t.root, ?_, fun q ms e => ?_, fun q us e => ?_, fun q m e => ?_, fun q r h1 h2 => t.inj1 q r (by rw [← so]; exact h1) (by rw [← so]; exact h2), fun q r h1 h2 => t.inj2 q r (by rw [← so]; exact h1) (by rw [← so]; exact h2), fun q r h1 h2 => t.inj3 q r (by rw [← so]; exact h1) (by rw [← so]; exact h2)⟩
  · obtain ⟨ms, h0⟩ := t.top
    exact ⟨ms, by rw [Fo [] (fun z => by rw [z, hp] at h0; cases h0)]; exact h0⟩
  · by_cases h : q = p
    · rw [h, Fp] at e; cases e
    · rw [Fo q h] at e
      obtain ⟨t1, t2, t3, t4, t5⟩ := t.dir q ms e
      have qs : (F q).isSome = true := by rw [e]; rfl
      exact ⟨old _ _ t1 (t.inj3 q p qs ps), old _ _ t2 (fun z => h (t.inj2 q p qs ps z)), t3, t4, fun m => by rw [so]; exact t5 m⟩
  · by_cases h : q = p
    · subst h
      rw [Fp] at e
      cases e
      obtain ⟨t1, t2, t3⟩ := t.file q ws hp
      exact ⟨old _ _ t1 (t.inj3 q q ps ps), hi, hl⟩
    · rw [Fo q h] at e
      obtain ⟨t1, t2, t3⟩ := t.file q us e
      have qs : (F q).isSome = true := by rw [e]; rfl
      exact ⟨old _ _ t1 (t.inj3 q p qs ps), old _ _ t2 (fun z => h (t.inj2 q p qs ps z)), t3⟩
  · rw [so] at e
    obtain ⟨ms, hm⟩ := t.up q m e
    exact ⟨ms, by rw [Fo q (fun z => by rw [z, hp] at hm; cases hm)]; exact hm⟩
theorem TR.del (t : TR H a0 F α) (hp : F p0 = some (.dir ns)) (hx : ∀ m, F (p0 ++ [n] ++ [m]) = none)
    (hi : H' (α.inn p0) = some (.dK (dropK (ns.map fun m => ((Sum.inl m : L2.Key), V.ref (α.nd (p0 ++ [m])))) (Sum.inl n : L2.Key)))) (old : ∀ b o, H b = some o → b ≠ α.inn p0 → H' b = some o) : TR H' a0 (delF F p0 n) α := by
  have Fn : delF F p0 n (p0 ++ [n]) = none := if_pos rfl
  have Fp : delF F p0 n p0 = some (.dir (ns.filter fun m => decide (m ≠ n))) := by
    unfold delF
    rw [if_neg (snoc_ne p0 n), if_pos rfl, hp]
  have Fo : ∀ q, q ≠ p0 ++ [n] → q ≠ p0 → delF F p0 n q = F q := fun q h1 h2 => by
    unfold delF; rw [if_neg h1, if_neg h2]
  have p0s : (F p0).isSome = true := by rw [hp]; rfl
  have so : ∀ q, (delF F p0 n q).isSome = true → q ≠ p0 ++ [n] ∧ (F q).isSome = true := fun q h => by
    have h1 : q ≠ p0 ++ [n] := fun z => by rw [z, Fn] at h; cases h
    by_cases h2 : q = p0
    · rw [h2]; exact ⟨snoc_ne p0 n, p0s⟩
    · rw [Fo q h1 h2] at h; exact ⟨h1, h⟩
  have so2 : ∀ q, q ≠ p0 ++ [n] → (F q).isSome = true → (delF F p0 n q).isSome = true := fun q h1 h => by
    by_cases h2 : q = p0
    · rw [h2, Fp]; rfl
    · rw [Fo q h1 h2]; exact h
  refine ⟨t.root, ?_, fun q ms e => ?_, fun q us e => ?_, fun q m e => ?_, fun q r h1 h2 => t.inj1 q r (so q h1).2 (so r h2).2, fun q r h1 h2 => t.inj2 q r (so q h1).2 (so r h2).2, fun q r h1 h2 => t.inj3 q r (so q h1).2 (so r h2).2⟩
  · obtain ⟨ms, h0⟩ := t.top
    by_cases h2 : ([] : List Int) = p0
    · exact ⟨_, by rw [h2]; exact Fp⟩
    · exact ⟨ms, by rw [Fo [] (fun z => by simp at z) h2]; exact h0⟩
  · have h1 : q ≠ p0 ++ [n] := (so q (by rw [e]; rfl)).1
    by_cases h2 : q = p0
    · subst h2
      rw [Fp] at e
      cases e
      obtain ⟨t1, t2, t3, t4, t5⟩ := t.dir q ns hp
      refine ⟨old _ _ t1 (t.inj3 q q p0s p0s), by rw [hi, drop_map], t3.filter _, Nat.le_trans (List.length_filter_le _ _) t4, fun m => ?_⟩
      rw [List.mem_filter, decide_eq_true_iff]
      constructor
      · rintro ⟨h3, h4⟩
        exact so2 _ (fun z => h4 (snoc_inj z).2) ((t5 m).mp h3)
      · intro h
        obtain ⟨h3, h4⟩ := so _ h
        exact ⟨(t5 m).mpr h4, fun z => h3 (by rw [z])⟩
    · rw [Fo q h1 h2] at e
      obtain ⟨t1, t2, t3, t4, t5⟩ := t.dir q ms e
      have qs : (F q).isSome = true := by rw [e]; rfl
      refine ⟨old _ _ t1 (t.inj3 q p0 qs p0s), old _ _ t2 (fun z => h2 (t.inj2 q p0 qs p0s z)), t3, t4, fun m => ?_⟩
      rw [t5 m]
      exact ⟨so2 _ (fun z => h2 (snoc_inj z).1), fun h => (so _ h).2⟩
  · have h1 : q ≠ p0 ++ [n] := (so q (by rw [e]; rfl)).1
    by_cases h2 : q = p0
    · rw [h2, Fp] at e; cases e
    · rw [Fo q h1 h2] at e
      obtain ⟨t1, t2, t3⟩ := t.file q us e
      have qs : (F q).isSome = true := by rw [e]; rfl
      exact ⟨old _ _ t1 (t.inj3 q p0 qs p0s), old _ _ t2 (fun z => h2 (t.inj2 q p0 qs p0s z)), t3⟩
  · obtain ⟨h1, h2⟩ := so _ e
    obtain ⟨ms, hm⟩ := t.up q m h2
    by_cases h3 : q = p0
    · subst h3; exact ⟨_, Fp⟩
    · refine ⟨ms, ?_⟩
      rw [Fo q (fun z => ?_) h3]
      · exact hm
      · rw [z] at h2
        rw [hx m] at h2
        cases h2
end
end My

namespace My
open PySem L2
local macro_rules | `(tactic| walk_at "ne") => `(tactic| first | assumption | exact Ne.symm (by assumption) | exact ne_of_none (by assumption) (by assumption) | exact Ne.symm (ne_of_none (by assumption) (by assumption)))
local macro_rules | `(tactic| walk_at "hp") => `(tactic| first | assumption | with_reducible exact upd_same | (with_reducible refine Eq.trans (upd_ne ?_) ?_; rotate_left; walk_at "hp"; walk_at "ne"))
local macro_rules | `(tactic| walk_at "cnd") => `(tactic| first | omega | (show (0 : Int) < _; omega) | exact ⟨by omega, by omega⟩ | exact Or.inl ⟨by omega, by omega⟩ | exact Or.inr ⟨by omega, by omega⟩ | exact ⟨by omega, by omega, by decide⟩ | exact ⟨by omega, by omega, by omega⟩)
local macro_rules | `(tactic| walk_at "at") => `(tactic| first | exact atC 0 rfl rfl | exact atC 1 rfl rfl | exact atC 2 rfl rfl | exact atC 3 rfl rfl | exact atC 4 rfl rfl | exact atC 5 rfl rfl | exact atC 6 rfl rfl | exact atC 7 rfl rfl)
local macro_rules | `(tactic| walk_at "ix") => `(tactic| first | exact ixC 0 rfl (Nat.le_of_ble_eq_true rfl) | exact ixC 1 rfl (Nat.le_of_ble_eq_true rfl) | exact ixC 2 rfl (Nat.le_of_ble_eq_true rfl) | exact ixC 3 rfl (Nat.le_of_ble_eq_true rfl) | exact ixC 4 rfl (Nat.le_of_ble_eq_true rfl) | exact ixC 5 rfl (Nat.le_of_ble_eq_true rfl))
local macro_rules | `(tactic| walk_at "st") => `(tactic| first
  | refine ⟨_, rfl, ?_⟩
  | refine ⟨_, _, rfl, rfl, (by walk_at "cnd" : (_ : Prop)), ?_⟩
  | refine ⟨_, _, rfl, rfl, ?_⟩
  | refine ⟨rfl, ?_⟩
  | refine Or.inl ⟨_, rfl, ?_⟩
  | refine ⟨_, _, _, _, rfl, rfl, by exact SqL.of (by walk_at "hp"), by walk_at "at", ?_⟩
  | refine ⟨_, _, _, _, rfl, rfl, by exact SqT.of (by walk_at "hp"), by walk_at "at", ?_⟩
  | refine ⟨_, _, _, _, rfl, rfl, by walk_at "hp", by walk_at "ix", ?_⟩
  | refine ⟨_, _, rfl, Or.inl (by exact SqL.of (by walk_at "hp")), ?_⟩
  | refine ⟨_, _, rfl, Or.inr (by exact SqT.of (by walk_at "hp")), ?_⟩)
local macro_rules | `(tactic| walk_at "so") => `(tactic| first
  | refine ⟨_, _, _, _, _, rfl, by walk_at "hp", by assumption, by assumption, rfl, ?_⟩
  | refine ⟨_, _, _, _, rfl, by walk_at "hp", by assumption, by assumption, Nat.le_of_ble_eq_true rfl, ?_⟩
  | refine ⟨_, _, _, rfl, by walk_at "hp", rfl, ?_⟩
  | walk_at "st")
local macro_rules | `(tactic| walk_at "ro") => `(tactic| repeat walk_at "so")
local macro_rules | `(tactic| walk_at "run") => `(tactic| repeat walk_at "st")

theorem DtAll.ints {H : Hp} : ∀ ys : List Int, DtAll H (ys.map V.int) (ys.map PyData.int)
  | [] => .nil
  | y :: ys => .cons (.int y) (DtAll.ints ys)
def okD : PyData := .tuple [.str "ok", .none]
def noD (z : Str) : PyData := .tuple [.str "no", .str z]
/-- what a step of the tree leaves -/
def Left (F : Fm) (α : TA) (H H' : Hp) : Prop := ∀ b o, H b = some o → (∀ q, (F q).isSome = true → b ≠ α.inn q) → H' b = some o
def spLst : Sp := fun vs H Q _ => ∃ (a0 : Addr) (F : Fm) (α : TA) (p : List Int), vs = [.ref (α.nd p)] ∧ TR H a0 F α ∧ ((∃ ws, F p = some (.file ws)) → ∀ r H', Same H H' → Dt H' r (noD "file") → Q r H') ∧ (∀ ns, F p = some (.dir ns) → ∀ (r : V) (H' : Hp) (ys : List Int), ys.Perm ns → ys.Pairwise (· ≤ ·) → Same H H' → Dt H' r (.tuple [.str "ok", .tuple (ys.map PyData.int)]) → Q r H') ∧ (F p).isSome = true
section
variable {P : Program} {w : World} {K : PySem.W.Frag} {mg : Str → Option Value} {base : Heap} {A_PARTS : Addr}
abbrev s_new_tree : Stmt := topS 8
abbrev ns_new_tree : List Str := []
theorem sc_new_tree : FnScope ns_new_tree [] (defScope s_new_tree) := ⟨rfl, rfl, rfl, by decide +kernel, rfl, by decide +kernel, by decide +kernel⟩

theorem ok_new_tree {f : Addr} {fd : FuncData} (F : Fun K "new_tree" "new_tree" s_new_tree f fd) (T : Txt K mg  w A_PARTS) : FnOk P w K mg base CX0 1 f fd [] spNew := by
  refine F.ok sc_new_tree (fun vs H Q E h => ?_) (fun cdv A outer s H vs Q E hr h => ?_)
  · obtain ⟨rfl, _⟩ := h
    rfl
  · obtain ⟨rfl, k⟩ := h
    refine ⟨_, (pss_one (ps_ret (pe_disp (pps_cons pe_str pe_dnewK pps_nil) (by rfl) (by rfl) (by intro z; cases z) (by decide)))), ?_⟩
    refine fun a ha => fun d hd => ?_
    have s1 := Same.new (o := .dK []) ha
    have s2 := Same.new (o := .dK []) hd
    have ha2 := s2 _ _ (upd_same : (upd H a (.dK [])) a = some (.dK []))
    have hd2 : (upd (upd H a (.dK [])) d (.dK [])) d = some (.dK []) := upd_same
    have nad : a ≠ d := ne_of_none upd_same hd
    refine ⟨ha2, [(kN, .ref d)], rfl, show (1 : Nat) ≤ 15 by decide, ?_⟩
    refine k a d nad ha (s1.free hd) _ (Same.mut (s1.trans s2) ha) upd_same ?_
    rw [upd_ne nad.symm]
    exact hd2
abbrev s_list : Stmt := topS 25
abbrev ns_list : List Str := ["part"]
theorem sc_list : FnScope ns_list ["part"] (defScope s_list) := ⟨rfl, rfl, rfl, by decide +kernel, rfl, by decide +kernel, by decide +kernel⟩

theorem ok_list {f : Addr} {fd : FuncData} (F : Fun K "_list" "_list" s_list f fd) (T : Txt K mg  w A_PARTS) (D_is_directory : Dfn P w K mg base CX0 1 "is_directory" ["part"] spIsDir) : FnOk P w K mg base CX0 2 f fd ["part"] spLst := by
  refine F.ok sc_list (fun vs H Q E h => ?_) (fun cdv A outer s H vs Q E hr h => ?_)
  · obtain ⟨a0, F, α, p, rfl, _⟩ := h
    rfl
  · obtain ⟨a0, Fm, α, p, rfl, t, k1, k2, hs⟩ := h
    refine ⟨_, (pss_cons (ps_if (pt_not (pt_val (pe_dcall D_is_directory (hr.mono (by decide)) (by rfl) pass0 (pa_cons (pv 0) pa_nil)))) (pss_one (ps_ret (pe_tup (pa_cons pe_str (pa_cons pe_str pa_nil))))) pss_nil)
  (pss_one (ps_ret (pe_tup (pa_cons pe_str (pa_cons (pe_callTy (kTupOf K) (by rfl) T.b_tuple (by decide +kernel) (pa_cons (pe_callB (call_sortedDI (by rfl)) (by rfl) T.b_sorted (by decide +kernel) (pa_cons (pe_dget (units1 hr) (pv 0) pe_str (fun _ _ => rfl)) pa_nil)) pa_nil)) pa_nil)))))), ?_⟩
    cases e : Fm p with
    | none => rw [e] at hs; cases hs
    | some x =>
      cases x with
      | file ws =>
        obtain ⟨h1, h2, _⟩ := t.file p ws e
        refine ⟨_, rfl, _, _, rfl, h1, _, rfl, ?_⟩
        rw [show valV [(kW, V.ref (α.inn p))] kN = none by rw [valV_neg kWN]; rfl]
        refine iteT ⟨szl rfl, fun q hq => ?_⟩
        exact k1 ⟨ws, e⟩ _ _ (Same.new hq) (.tup upd_same (.cons (.str _) (.cons (.str _) .nil)))
      | dir ns =>
        obtain ⟨h1, h2, h3, h4, h5⟩ := t.dir p ns e
        refine ⟨_, rfl, _, _, rfl, h1, _, rfl, ?_⟩
        have ev : valV [(kN, V.ref (α.inn p))] kN = some (.ref (α.inn p)) := valV_pos rfl
        rw [ev]
        refine iteF ?_
        have dg := DGet.k (k := kN) h1
        rw [ev] at dg
        refine ⟨_, rfl, α.nd p, _, rfl, dg, α.inn p, _, ns, rfl, .inl h2, by rw [List.map_map]; rfl, by omega, fun ys l hperm hsrt hl => ?_⟩
        have s1 := Same.new (o := .lst (ys.map V.int)) hl
        have hll : (upd H l (.lst (ys.map V.int))) l = some (.lst (ys.map V.int)) := upd_same
        generalize upd H l (.lst (ys.map V.int)) = H1 at s1 hll
        refine ⟨_, _, rfl, .inl ⟨SqL.of hll, fun q hq => ?_⟩⟩
        have s2 := Same.new (o := .tup (ys.map V.int)) hq
        have hq2 : (upd H1 q (.tup (ys.map V.int))) q = some (.tup (ys.map V.int)) := upd_same
        generalize upd H1 q (.tup (ys.map V.int)) = H2 at s2 hq2
        refine ⟨szl rfl, fun r hr => ?_⟩
        exact k2 ns e _ _ ys hperm hsrt ((s1.trans s2).trans (Same.new hr)) (.tup upd_same (.cons (.str _) (.cons ((Dt.tup hq2 (DtAll.ints ys)).same (Same.new hr)) .nil)))
end
end My

namespace My
open PySem L2
local macro_rules | `(tactic| walk_at "ne") => `(tactic| first | assumption | exact Ne.symm (by assumption) | exact ne_of_none (by assumption) (by assumption) | exact Ne.symm (ne_of_none (by assumption) (by assumption)))
local macro_rules | `(tactic| walk_at "hp") => `(tactic| first | assumption | with_reducible exact upd_same | (with_reducible refine Eq.trans (upd_ne ?_) ?_; rotate_left; walk_at "hp"; walk_at "ne"))
local macro_rules | `(tactic| walk_at "cnd") => `(tactic| first | omega | (show (0 : Int) < _; omega) | exact ⟨by omega, by omega⟩ | exact Or.inl ⟨by omega, by omega⟩ | exact Or.inr ⟨by omega, by omega⟩ | exact ⟨by omega, by omega, by decide⟩ | exact ⟨by omega, by omega, by omega⟩)
local macro_rules | `(tactic| walk_at "at") => `(tactic| first | exact atC 0 rfl rfl | exact atC 1 rfl rfl | exact atC 2 rfl rfl | exact atC 3 rfl rfl | exact atC 4 rfl rfl | exact atC 5 rfl rfl | exact atC 6 rfl rfl | exact atC 7 rfl rfl)
local macro_rules | `(tactic| walk_at "ix") => `(tactic| first | exact ixC 0 rfl (Nat.le_of_ble_eq_true rfl) | exact ixC 1 rfl (Nat.le_of_ble_eq_true rfl) | exact ixC 2 rfl (Nat.le_of_ble_eq_true rfl) | exact ixC 3 rfl (Nat.le_of_ble_eq_true rfl) | exact ixC 4 rfl (Nat.le_of_ble_eq_true rfl) | exact ixC 5 rfl (Nat.le_of_ble_eq_true rfl))
local macro_rules | `(tactic| walk_at "st") => `(tactic| first
  | refine ⟨_, rfl, ?_⟩
  | refine ⟨_, _, rfl, rfl, (by walk_at "cnd" : (_ : Prop)), ?_⟩
  | refine ⟨_, _, rfl, rfl, ?_⟩
  | refine ⟨rfl, ?_⟩
  | refine Or.inl ⟨_, rfl, ?_⟩
  | refine ⟨_, _, _, _, rfl, rfl, by exact SqL.of (by walk_at "hp"), by walk_at "at", ?_⟩
  | refine ⟨_, _, _, _, rfl, rfl, by exact SqT.of (by walk_at "hp"), by walk_at "at", ?_⟩
  | refine ⟨_, _, _, _, rfl, rfl, by walk_at "hp", by walk_at "ix", ?_⟩
  | refine ⟨_, _, rfl, Or.inl (by exact SqL.of (by walk_at "hp")), ?_⟩
  | refine ⟨_, _, rfl, Or.inr (by exact SqT.of (by walk_at "hp")), ?_⟩)
local macro_rules | `(tactic| walk_at "so") => `(tactic| first
  | refine ⟨_, _, _, _, _, rfl, by walk_at "hp", by assumption, by assumption, rfl, ?_⟩
  | refine ⟨_, _, _, _, rfl, by walk_at "hp", by assumption, by assumption, Nat.le_of_ble_eq_true rfl, ?_⟩
  | refine ⟨_, _, _, rfl, by walk_at "hp", rfl, ?_⟩
  | walk_at "st")
local macro_rules | `(tactic| walk_at "ro") => `(tactic| repeat walk_at "so")
local macro_rules | `(tactic| walk_at "run") => `(tactic| repeat walk_at "st")

def putW (ws : List Int) (off : Nat) (new : List Int) : List Int := (ws ++ List.replicate (off - ws.length) 0).take off ++ new ++ (ws ++ List.replicate (off - ws.length) 0).drop (off + new.length)
def spPut : Sp := fun vs H Q _ => ∃ (l : Addr) (ws : List Int) (off : Nat) (v : V) (new : List Int), vs = [.ref l, .int off, v] ∧ H l = some (.lst (ws.map V.int)) ∧ PathV H v new ∧ ws.length ≤ 48 ∧ off ≤ 48 ∧ new.length ≤ 48 ∧
  (48 < off + new.length → ∀ r H', Same H H' → Dt H' r (noD "long") → Q r H') ∧
  (off + new.length ≤ 48 → ∀ r H', (∀ b o, H b = some o → b ≠ l → H' b = some o) → H' l = some (.lst ((putW ws off new).map V.int)) → Dt H' r okD → Q r H')
section
variable {P : Program} {w : World} {K : PySem.W.Frag} {mg : Str → Option Value} {base : Heap} {A_PARTS : Addr}
abbrev s_put : Stmt := topS 27
abbrev ns_put : List Str := ["words", "offset", "new"]
theorem sc_put : FnScope ns_put ["words", "offset", "new"] (defScope s_put) := ⟨rfl, rfl, rfl, by decide +kernel, rfl, by decide +kernel, by decide +kernel⟩

theorem ok_put {f : Addr} {fd : FuncData} (F : Fun K "_put" "_put" s_put f fd) (T : Txt K mg  w A_PARTS) : FnOk P w K mg base CX0 1 f fd ["words", "offset", "new"] spPut := by
  refine F.ok sc_put (fun vs H Q E h => ?_) (fun cdv A outer s H vs Q E hr h => ?_)
  · obtain ⟨l, ws, off, v, new, rfl, _⟩ := h
    rfl
  · obtain ⟨l, ws, off, v, new, rfl, hl, ⟨va, rfl, hv⟩, w48, o48, n48, k1, k2⟩ := h
    refine ⟨_, (pss_cons (ps_if (pt_cmpR op_gt (pe_op op_add (pv 1) (pe_callB (kLen K) (by rfl) T.b_len (by decide +kernel) (pa_cons (pv 2) pa_nil))) (pe_gint (by rfl) T.c_MOST_WORDS) (nomark _)) (pss_one (ps_ret (pe_tup (pa_cons pe_str (pa_cons pe_str pa_nil))))) pss_nil)
  (pss_cons (ps_expr (kBM K PySem.F.plainAttrs_list PySem.F.slot_list_extend PySem.F.type_list_extend mt_extend (pv 0) (pa_cons (pe_op op_rep (pe_lst (pa_cons pe_int pa_nil)) (pe_op op_sub (pv 1) (pe_callB (kLen K) (by rfl) T.b_len (by decide +kernel) (pa_cons (pv 0) pa_nil)))) pa_nil)))
  (pss_cons (ps_asg (pe_callTy (kListOf K) (by rfl) T.b_list (by decide +kernel) (pa_cons (pv 2) pa_nil)) (pg_setSl (pv 0) (pv 1) (pe_op op_add (pv 1) (pe_callB (kLen K) (by rfl) T.b_len (by decide +kernel) (pa_cons (pv 2) pa_nil)))))
  (pss_one (ps_ret (pe_tup (pa_cons pe_str (pa_cons pe_non pa_nil)))))))), ?_⟩
    refine ⟨_, rfl, _, rfl, va, _, rfl, .inr (SqT.of hv), _, _, rfl, rfl, _, _, rfl, rfl, _, rfl, ?_⟩
    rw [List.length_map]
    refine iteD (fun h => ?_) (fun h => ?_)
    · refine ⟨szl rfl, fun q hq => ?_⟩
      exact k1 (by omega) _ _ (Same.new hq) (.tup upd_same (.cons (.str _) (.cons (.str _) .nil)))
    · have hsum : off + new.length ≤ 48 := by omega
      refine ⟨_, rfl, .inl ⟨rfl, _, SqL.of hl⟩, szl rfl, fun z hz => ?_⟩
      have s1 := Same.new (o := .lst [.int 0]) hz
      have hz1 : (upd H z (.lst [.int 0])) z = some (.lst [.int 0]) := upd_same
      generalize upd H z (.lst [.int 0]) = H1 at s1 hz1
      have hl1 := s1 _ _ hl
      refine ⟨_, rfl, _, rfl, l, _, rfl, .inl (SqL.of hl1), _, _, rfl, rfl, z, _, _, rfl, rfl, hz1, by simp; omega, by simp; omega, Nat.le_trans (show _ ≤ 48 by simp; omega) (show 48 ≤ sizeLine by decide), fun y hy => ?_⟩
      have ez : (List.replicate (((off : Int) - ((ws.map V.int).length : Int)).toNat) [V.int 0]).flatten = (List.replicate (off - ws.length) (0 : Int)).map V.int := by
        rw [List.length_map, show ((off : Int) - (ws.length : Int)).toNat = off - ws.length by omega]
        generalize off - ws.length = m
        induction m with
        | zero => rfl
        | succ m ih => rw [List.replicate_succ, List.flatten_cons, ih, List.replicate_succ, List.map_cons]; rfl
      rw [ez]
      have s2 := Same.new (o := .lst ((List.replicate (off - ws.length) (0 : Int)).map V.int)) hy
      have hy2 : (upd H1 y (.lst ((List.replicate (off - ws.length) (0 : Int)).map V.int))) y = some (.lst ((List.replicate (off - ws.length) (0 : Int)).map V.int)) := upd_same
      generalize upd H1 y (.lst ((List.replicate (off - ws.length) (0 : Int)).map V.int)) = H2 at s2 hy2
      have hl2 := s2 _ _ hl1
      have s02 := s1.trans s2
      refine ⟨l, y, _, _, rfl, rfl, hl2, hy2, Nat.le_trans (show _ ≤ 96 by simp; omega) (show 96 ≤ sizeLine by decide), ?_⟩
      rw [← List.map_append]
      generalize hw1 : ws ++ List.replicate (off - ws.length) (0 : Int) = ws1
      have len1 : off ≤ ws1.length ∧ ws1.length ≤ 48 := by
        rw [← hw1]; simp; omega
      have hl3 : (upd H2 l (.lst (ws1.map V.int))) l = some (.lst (ws1.map V.int)) := upd_same
      have o3 : ∀ b o, H b = some o → b ≠ l → (upd H2 l (.lst (ws1.map V.int))) b = some o := fun b o e h => by rw [upd_ne h]; exact s02 _ _ e
      have hv3 := o3 _ _ hv (ne_of hv hl (by intro z; cases z))
      generalize upd H2 l (.lst (ws1.map V.int)) = H3 at hl3 o3 hv3
      refine ⟨_, rfl, _, _, rfl, .inr (SqT.of hv3), fun c hc => ?_⟩
      have s4 := Same.new (o := .lst (new.map V.int)) hc
      have hc4 : (upd H3 c (.lst (new.map V.int))) c = some (.lst (new.map V.int)) := upd_same
      have ncl : l ≠ c := ne_of_none hl3 hc
      generalize upd H3 c (.lst (new.map V.int)) = H4 at s4 hc4
      have hl4 := s4 _ _ hl3
      have hv4 := s4 _ _ hv3
      refine ⟨_, rfl, _, rfl, _, rfl, _, rfl, va, _, rfl, .inr (SqT.of hv4), _, _, rfl, rfl, l, c, _, _, _, _, rfl, rfl, rfl, rfl, ncl, by omega, by rw [List.length_map]; omega, by rw [List.length_map]; omega, hl4, hc4, Nat.le_trans (show _ ≤ 96 by simp; omega) (show 96 ≤ sizeLine by decide), ?_⟩
      refine ⟨szl rfl, fun r hr => ?_⟩
      have hfin : (ws1.map V.int).take ((off : Int)).toNat ++ new.map V.int ++ (ws1.map V.int).drop ((off : Int) + ((new.map V.int).length : Int)).toNat = (putW ws off new).map V.int := by
        unfold putW
        rw [hw1, List.length_map, show ((off : Int) + (new.length : Int)).toNat = off + new.length by omega, Int.toNat_natCast, List.map_append, List.map_append, List.map_take, List.map_drop]
      rw [hfin] at hr ⊢
      generalize eH5 : upd H4 l (.lst ((putW ws off new).map V.int)) = H5 at hr ⊢
      have hl5 : H5 l = some (.lst ((putW ws off new).map V.int)) := by rw [← eH5]; exact upd_same
      refine k2 hsum _ _ (fun b o e hb => ?_) (Same.new hr _ _ hl5) (.tup upd_same (.cons (.str _) (.cons .non .nil)))
      refine Same.new hr _ _ ?_
      rw [← eH5, upd_ne hb]
      exact s4 _ _ (o3 _ _ e hb)
end
end My

namespace My
open PySem L2
local macro_rules | `(tactic| walk_at "ne") => `(tactic| first | assumption | exact Ne.symm (by assumption) | exact ne_of_none (by assumption) (by assumption) | exact Ne.symm (ne_of_none (by assumption) (by assumption)))
local macro_rules | `(tactic| walk_at "hp") => `(tactic| first | assumption | with_reducible exact upd_same | (with_reducible refine Eq.trans (upd_ne ?_) ?_; rotate_left; walk_at "hp"; walk_at "ne"))
local macro_rules | `(tactic| walk_at "cnd") => `(tactic| first | omega | (show (0 : Int) < _; omega) | exact ⟨by omega, by omega⟩ | exact Or.inl ⟨by omega, by omega⟩ | exact Or.inr ⟨by omega, by omega⟩ | exact ⟨by omega, by omega, by decide⟩ | exact ⟨by omega, by omega, by omega⟩)
local macro_rules | `(tactic| walk_at "at") => `(tactic| first | exact atC 0 rfl rfl | exact atC 1 rfl rfl | exact atC 2 rfl rfl | exact atC 3 rfl rfl | exact atC 4 rfl rfl | exact atC 5 rfl rfl | exact atC 6 rfl rfl | exact atC 7 rfl rfl)
local macro_rules | `(tactic| walk_at "ix") => `(tactic| first | exact ixC 0 rfl (Nat.le_of_ble_eq_true rfl) | exact ixC 1 rfl (Nat.le_of_ble_eq_true rfl) | exact ixC 2 rfl (Nat.le_of_ble_eq_true rfl) | exact ixC 3 rfl (Nat.le_of_ble_eq_true rfl) | exact ixC 4 rfl (Nat.le_of_ble_eq_true rfl) | exact ixC 5 rfl (Nat.le_of_ble_eq_true rfl))
local macro_rules | `(tactic| walk_at "st") => `(tactic| first
  | refine ⟨_, rfl, ?_⟩
  | refine ⟨_, _, rfl, rfl, (by walk_at "cnd" : (_ : Prop)), ?_⟩
  | refine ⟨_, _, rfl, rfl, ?_⟩
  | refine ⟨rfl, ?_⟩
  | refine Or.inl ⟨_, rfl, ?_⟩
  | refine ⟨_, _, _, _, rfl, rfl, by exact SqL.of (by walk_at "hp"), by walk_at "at", ?_⟩
  | refine ⟨_, _, _, _, rfl, rfl, by exact SqT.of (by walk_at "hp"), by walk_at "at", ?_⟩
  | refine ⟨_, _, _, _, rfl, rfl, by walk_at "hp", by walk_at "ix", ?_⟩
  | refine ⟨_, _, rfl, Or.inl (by exact SqL.of (by walk_at "hp")), ?_⟩
  | refine ⟨_, _, rfl, Or.inr (by exact SqT.of (by walk_at "hp")), ?_⟩)
local macro_rules | `(tactic| walk_at "so") => `(tactic| first
  | refine ⟨_, _, _, _, _, rfl, by walk_at "hp", by assumption, by assumption, rfl, ?_⟩
  | refine ⟨_, _, _, _, rfl, by walk_at "hp", by assumption, by assumption, Nat.le_of_ble_eq_true rfl, ?_⟩
  | refine ⟨_, _, _, rfl, by walk_at "hp", rfl, ?_⟩
  | walk_at "st")
local macro_rules | `(tactic| walk_at "ro") => `(tactic| repeat walk_at "so")
local macro_rules | `(tactic| walk_at "run") => `(tactic| repeat walk_at "st")

/-! ### requests, and what is due -/
inductive Rq
  | make (b : Bool)
  | put (off : Nat) (ws : List Int)
  | get (a n : Nat)
  | shrink (a : Nat)
  | size
  | drop
  | list
def pthD (p : List Int) : PyData := .tuple (p.map PyData.int)
def kindS (b : Bool) : Str := if b = true then "file" else "dir"
def rqP : Rq → List PyData
  | .make b => [.str (kindS b)]
  | .put off ws => [.int off, pthD ws]
  | .get a n => [.int a, .int n]
  | .shrink a => [.int a]
  | _ => []
def rqW : Rq → Str
  | .make _ => "make"
  | .put _ _ => "put"
  | .get _ _ => "get"
  | .shrink _ => "shrink"
  | .size => "size"
  | .drop => "drop"
  | .list => "list"
def rqD (p : List Int) (r : Rq) : PyData := .tuple (.str (rqW r) :: pthD p :: rqP r)
def okRq : Rq → Prop
  | .put off ws => off ≤ 48 ∧ ws.length ≤ 48
  | .get a n => a ≤ 48 ∧ n ≤ 48
  | .shrink a => a ≤ 48
  | _ => True
def okT (d : PyData) : PyData := .tuple [.str "ok", d]
def Srt (F : Fm) (p ys : List Int) : Prop := ys.Pairwise (· < ·) ∧ ∀ n, n ∈ ys ↔ (F (p ++ [n])).isSome = true
open Classical in
noncomputable def lsOf (F : Fm) (p : List Int) : List Int := if h : ∃ ys : List Int, Srt F p ys then h.choose else []
theorem strict_uniq : ∀ (xs ys : List Int), xs.Pairwise (· < ·) → ys.Pairwise (· < ·) → (∀ n, n ∈ xs ↔ n ∈ ys) → xs = ys
  | [], [], _, _, _ => rfl
  | [], y :: ys, _, _, h => absurd ((h y).mpr List.mem_cons_self) (by simp)
  | x :: xs, [], _, _, h => absurd ((h x).mp List.mem_cons_self) (by simp)
  | x :: xs, y :: ys, hx, hy, h => by
    obtain ⟨x1, x2⟩ := List.pairwise_cons.mp hx
    obtain ⟨y1, y2⟩ := List.pairwise_cons.mp hy
    have e : x = y := by
      rcases List.mem_cons.mp ((h x).mp List.mem_cons_self) with q | q
      · exact q
      · rcases List.mem_cons.mp ((h y).mpr List.mem_cons_self) with r | r
        · exact r.symm
        · have := x1 y r
          have := y1 x q
          omega
    subst e
    refine congrArg _ (strict_uniq xs ys x2 y2 fun n => ⟨fun q => ?_, fun q => ?_⟩)
    · rcases List.mem_cons.mp ((h n).mp (List.mem_cons_of_mem _ q)) with r | r
      · have := x1 n q; omega
      · exact r
    · rcases List.mem_cons.mp ((h n).mpr (List.mem_cons_of_mem _ q)) with r | r
      · have := y1 n q; omega
      · exact r
theorem lsOf_eq {F : Fm} {p ys : List Int} (h : Srt F p ys) : lsOf F p = ys := by
  have ex : ∃ ys, Srt F p ys := ⟨ys, h⟩
  unfold lsOf
  rw [dif_pos ex]
  have c := ex.choose_spec
  exact strict_uniq _ _ c.1 h.1 fun n => (c.2 n).trans (h.2 n).symm
theorem le_strict : ∀ {ys : List Int}, ys.Pairwise (· ≤ ·) → ys.Nodup → ys.Pairwise (· < ·)
  | [], _, _ => .nil
  | y :: ys, h, n => by
    obtain ⟨h1, h2⟩ := List.pairwise_cons.mp h
    obtain ⟨n1, n2⟩ := List.nodup_cons.mp n
    refine List.pairwise_cons.mpr ⟨fun z hz => ?_, le_strict h2 n2⟩
    have := h1 z hz
    have : y ≠ z := fun e => n1 (by rw [e]; exact hz)
    omega
noncomputable def dueMake (F : Fm) (p : List Int) (b : Bool) : PyData × Fm := if p = [] then (noD "path", F) else match F p.dropLast with
    | some (.dir _) => if (F p).isSome = true then (noD "there", F) else (okD, addF F p.dropLast (p.getLastD 0) (if b = true then .file [] else .dir []))
    | _ => (noD "path", F)
noncomputable def dueDrop (F : Fm) (p : List Int) : PyData × Fm := if p = [] then (noD "path", F) else match F p with
    | none => (noD "path", F)
    | some (.dir (_ :: _)) => (noD "full", F)
    | some _ => (okD, delF F p.dropLast (p.getLastD 0))
noncomputable def dueList (F : Fm) (p : List Int) : PyData × Fm := match F p with
    | none => (noD "path", F)
    | some (.file _) => (noD "file", F)
    | some (.dir _) => (okT (pthD (lsOf F p)), F)
def dueFile (F : Fm) (p : List Int) (g : List Int → PyData × Fm) : PyData × Fm := match F p with
    | none => (noD "path", F)
    | some (.dir _) => (noD "dir", F)
    | some (.file ws) => g ws
def fileG (F : Fm) (p : List Int) : Rq → List Int → PyData × Fm
  | .size, ws => (okT (.int ws.length), F)
  | .get a n, ws => (okT (pthD ((ws.drop a).take n)), F)
  | .shrink a, ws => (okD, setF F p (ws.take a))
  | .put off new, ws => if 48 < off + new.length then (noD "long", F) else (okD, setF F p (putW ws off new))
  | _, _ => (okD, F)
noncomputable def due (F : Fm) (p : List Int) : Rq → PyData × Fm
  | .make b => dueMake F p b
  | .drop => dueDrop F p
  | .list => dueList F p
  | r => dueFile F p (fileG F p r)
section
variable {F : Fm} {p : List Int} {b : Bool}
theorem dueMake_nil : dueMake F [] b = (noD "path", F) := if_pos rfl
theorem dueMake_none (h : p ≠ []) (e : F p.dropLast = none) : dueMake F p b = (noD "path", F) := by unfold dueMake; rw [if_neg h, e]
theorem dueMake_file {ws : List Int} (h : p ≠ []) (e : F p.dropLast = some (.file ws)) : dueMake F p b = (noD "path", F) := by unfold dueMake; rw [if_neg h, e]
theorem dueMake_there {ns : List Int} (h : p ≠ []) (e : F p.dropLast = some (.dir ns)) (q : (F p).isSome = true) : dueMake F p b = (noD "there", F) := by
  unfold dueMake
  rw [if_neg h, e]
  exact if_pos q
theorem dueMake_new {ns : List Int} (h : p ≠ []) (e : F p.dropLast = some (.dir ns)) (q : ¬ (F p).isSome = true) : dueMake F p b = (okD, addF F p.dropLast (p.getLastD 0) (if b = true then .file [] else .dir [])) := by
  unfold dueMake
  rw [if_neg h, e]
  exact if_neg q
theorem dueDrop_nil : dueDrop F [] = (noD "path", F) := if_pos rfl
theorem dueDrop_none (h : p ≠ []) (e : F p = none) : dueDrop F p = (noD "path", F) := by unfold dueDrop; rw [if_neg h, e]
theorem dueDrop_full {n : Int} {ns : List Int} (h : p ≠ []) (e : F p = some (.dir (n :: ns))) : dueDrop F p = (noD "full", F) := by unfold dueDrop; rw [if_neg h, e]
theorem dueDrop_dir (h : p ≠ []) (e : F p = some (.dir [])) : dueDrop F p = (okD, delF F p.dropLast (p.getLastD 0)) := by unfold dueDrop; rw [if_neg h, e]
theorem dueDrop_file {ws : List Int} (h : p ≠ []) (e : F p = some (.file ws)) : dueDrop F p = (okD, delF F p.dropLast (p.getLastD 0)) := by unfold dueDrop; rw [if_neg h, e]
theorem dueList_none (e : F p = none) : dueList F p = (noD "path", F) := by unfold dueList; rw [e]
theorem dueList_file {ws : List Int} (e : F p = some (.file ws)) : dueList F p = (noD "file", F) := by unfold dueList; rw [e]
theorem dueList_dir {ws : List Int} (e : F p = some (.dir ws)) : dueList F p = (okT (pthD (lsOf F p)), F) := by unfold dueList; rw [e]
theorem dueFile_none {g : List Int → PyData × Fm} (e : F p = none) : dueFile F p g = (noD "path", F) := by unfold dueFile; rw [e]
theorem dueFile_dir {g : List Int → PyData × Fm} {ns : List Int} (e : F p = some (.dir ns)) : dueFile F p g = (noD "dir", F) := by unfold dueFile; rw [e]
theorem dueFile_file {g : List Int → PyData × Fm} {ws : List Int} (e : F p = some (.file ws)) : dueFile F p g = g ws := by unfold dueFile; rw [e]
end
/-! ### what a step leaves -/
def Own (F : Fm) (α : TA) (b : Addr) : Prop := ∃ q, (F q).isSome = true ∧ (b = α.nd q ∨ b = α.inn q)
def Fin1 (Q : VK) (H : Hp) (a0 : Addr) (F : Fm) (α : TA) (res : PyData × Fm) : Prop := ∀ d H' α', TR H' a0 res.2 α' → Left F α H H' → (∀ b, Own res.2 α' b → Own F α b ∨ H b = none) → Dt H' d res.1 → Q d H'
theorem Left.same {F : Fm} {α : TA} {H H' : Hp} (s : Same H H') : Left F α H H' := fun b o e _ => s b o e
theorem Fin1.stay {Q : VK} {H H' : Hp} {a0 : Addr} {F : Fm} {α : TA} {d : PyData} {v : V} (t : TR H a0 F α) (k : Fin1 Q H a0 F α (d, F)) (s : Same H H') (h : Dt H' v d) : Q v H' :=
  k v H' α (t.same s) (Left.same s) (fun b q => .inl q) h
def Few (F : Fm) : Prop := ∀ p ns, F p = some (.dir ns) → ns.length < 60
theorem TR.live {H : Hp} {a0 : Addr} {F : Fm} {α : TA} (t : TR H a0 F α) {b : Addr} (h : Own F α b) : ∃ o, H b = some o := by
  obtain ⟨q, hq, hb⟩ := h
  obtain ⟨x, e⟩ := Option.isSome_iff_exists.mp hq
  cases x with
  | dir ns =>
    obtain ⟨h1, h2, _⟩ := t.dir q ns e
    rcases hb with rfl | rfl
    · exact ⟨_, h1⟩
    · exact ⟨_, h2⟩
  | file ws =>
    obtain ⟨h1, h2, _⟩ := t.file q ws e
    rcases hb with rfl | rfl
    · exact ⟨_, h1⟩
    · exact ⟨_, h2⟩
theorem last_snoc {p : List Int} (h : p ≠ []) : p = p.dropLast ++ [p.getLastD 0] := by
  rw [show p.getLastD 0 = p.getLast h by cases p with | nil => exact absurd rfl h | cons a r => rfl]
  exact (List.dropLast_concat_getLast h).symm
/-! ### path[:-1], path[-1] -/
theorem r_cutlast {K : PySem.W.Frag} {H : Hp} {v : V} {p : List Int} {Q : VK} (h : PathV H v p) (k : ∀ v' H', Same H H' → PathV H' v' p.dropLast → Q v' H') : rSlA K v none (some (-1)) H Q := by
  obtain ⟨a, rfl, ha⟩ := h
  have e2 : HT.sIx (p.map V.int).length (p.map V.int).length (some (-1)) = p.length - 1 := by
    unfold HT.sIx
    simp only [List.length_map]
    rw [if_pos (by decide)]
    omega
  have e1 : HT.sIx (p.map V.int).length 0 none = 0 := rfl
  refine ⟨a, _, rfl, SqT.of ha, fun hw => ?_, fun _ q hq => ?_⟩
  · rw [e2, List.length_map] at hw
    have : p = [] := List.length_eq_zero_iff.mp (by omega)
    subst this
    exact k _ H (Same.refl H) ⟨a, rfl, ha⟩
  · refine k _ _ (Same.new hq) ⟨q, rfl, ?_⟩
    rw [upd_same]
    unfold cutV
    rw [e2, e1, List.drop_zero, Nat.sub_zero, ← List.map_take, List.dropLast_eq_take]
theorem PathV.same {H H' : Hp} {v : V} {p : List Int} (h : PathV H v p) (s : Same H H') : PathV H' v p := by
  obtain ⟨a, e, ha⟩ := h
  exact ⟨a, e, s _ _ ha⟩
theorem at_last {p : List Int} (h : p ≠ []) : atI (p.map V.int) (-1) = some (.int (p.getLastD 0)) := by
  have e : p.map V.int = p.dropLast.map V.int ++ [.int (p.getLastD 0)] := by
    have := congrArg (List.map V.int) (last_snoc h)
    rw [List.map_append] at this
    exact this
  rw [e]
  exact atI_last _ _
end My

namespace My
open PySem L2
local macro_rules | `(tactic| walk_at "ne") => `(tactic| first | assumption | exact Ne.symm (by assumption) | exact ne_of_none (by assumption) (by assumption) | exact Ne.symm (ne_of_none (by assumption) (by assumption)))
local macro_rules | `(tactic| walk_at "hp") => `(tactic| first | assumption | with_reducible exact upd_same | (with_reducible refine Eq.trans (upd_ne ?_) ?_; rotate_left; walk_at "hp"; walk_at "ne"))
local macro_rules | `(tactic| walk_at "cnd") => `(tactic| first | omega | (show (0 : Int) < _; omega) | exact ⟨by omega, by omega⟩ | exact Or.inl ⟨by omega, by omega⟩ | exact Or.inr ⟨by omega, by omega⟩ | exact ⟨by omega, by omega, by decide⟩ | exact ⟨by omega, by omega, by omega⟩)
local macro_rules | `(tactic| walk_at "at") => `(tactic| first | exact atC 0 rfl rfl | exact atC 1 rfl rfl | exact atC 2 rfl rfl | exact atC 3 rfl rfl | exact atC 4 rfl rfl | exact atC 5 rfl rfl | exact atC 6 rfl rfl | exact atC 7 rfl rfl)
local macro_rules | `(tactic| walk_at "ix") => `(tactic| first | exact ixC 0 rfl (Nat.le_of_ble_eq_true rfl) | exact ixC 1 rfl (Nat.le_of_ble_eq_true rfl) | exact ixC 2 rfl (Nat.le_of_ble_eq_true rfl) | exact ixC 3 rfl (Nat.le_of_ble_eq_true rfl) | exact ixC 4 rfl (Nat.le_of_ble_eq_true rfl) | exact ixC 5 rfl (Nat.le_of_ble_eq_true rfl))
local macro_rules | `(tactic| walk_at "st") => `(tactic| first
  | refine ⟨_, rfl, ?_⟩
  | refine ⟨_, _, rfl, rfl, (by walk_at "cnd" : (_ : Prop)), ?_⟩
  | refine ⟨_, _, rfl, rfl, ?_⟩
  | refine ⟨rfl, ?_⟩
  | refine Or.inl ⟨_, rfl, ?_⟩
  | refine ⟨_, _, _, _, rfl, rfl, by exact SqL.of (by walk_at "hp"), by walk_at "at", ?_⟩
  | refine ⟨_, _, _, _, rfl, rfl, by exact SqT.of (by walk_at "hp"), by walk_at "at", ?_⟩
  | refine ⟨_, _, _, _, rfl, rfl, by walk_at "hp", by walk_at "ix", ?_⟩
  | refine ⟨_, _, rfl, Or.inl (by exact SqL.of (by walk_at "hp")), ?_⟩
  | refine ⟨_, _, rfl, Or.inr (by exact SqT.of (by walk_at "hp")), ?_⟩)
local macro_rules | `(tactic| walk_at "so") => `(tactic| first
  | refine ⟨_, _, _, _, _, rfl, by walk_at "hp", by assumption, by assumption, rfl, ?_⟩
  | refine ⟨_, _, _, _, rfl, by walk_at "hp", by assumption, by assumption, Nat.le_of_ble_eq_true rfl, ?_⟩
  | refine ⟨_, _, _, rfl, by walk_at "hp", rfl, ?_⟩
  | walk_at "st")
local macro_rules | `(tactic| walk_at "ro") => `(tactic| repeat walk_at "so")
local macro_rules | `(tactic| walk_at "run") => `(tactic| repeat walk_at "st")

theorem Fin1.at {Q : VK} {H H1 : Hp} {a0 : Addr} {F : Fm} {α : TA} {r : PyData × Fm} (k : Fin1 Q H a0 F α r) (s : Same H H1) : Fin1 Q H1 a0 F α r :=
  fun d H' α' t l o h => k d H' α' t (fun b ob e n => l b ob (s _ _ e) n) (fun b q => (o b q).imp id fun z => s.free z) h
theorem own_add {H : Hp} {F : Fm} {α : TA} {p : List Int} {n : Int} {x : Part} {a d : Addr} {ns : List Int} (hp : F p = some (.dir ns)) (ha : H a = none) (hd : H d = none) {b : Addr} (h : Own (addF F p n x) (addA α (p ++ [n]) a d) b) : Own F α b ∨ H b = none := by
  obtain ⟨q, hq, hb⟩ := h
  by_cases h1 : q = p ++ [n]
  · subst h1
    rw [show (addA α (p ++ [n]) a d).nd (p ++ [n]) = a from if_pos rfl, show (addA α (p ++ [n]) a d).inn (p ++ [n]) = d from if_pos rfl] at hb
    rcases hb with rfl | rfl
    · exact .inr ha
    · exact .inr hd
  · rw [show (addA α (p ++ [n]) a d).nd q = α.nd q from if_neg h1, show (addA α (p ++ [n]) a d).inn q = α.inn q from if_neg h1] at hb
    refine .inl ⟨q, ?_, hb⟩
    by_cases h2 : q = p
    · rw [h2, hp]; rfl
    · unfold addF at hq
      rw [if_neg h1, if_neg h2] at hq
      exact hq
theorem sixty : 61 ≤ sizeLine := by rw [PySem.sizeLine_eq]; decide
theorem make_done {Q : VK} {H1 H2 : Hp} {a0 a d : Addr} {F : Fm} {α : TA} {p ns : List Int} {b : Bool} (t : TR H1 a0 F α) (few : Few F) (hpe : p ≠ []) (e : F p.dropLast = some (.dir ns)) (hF : ¬ (F p).isSome = true) (k : Fin1 Q H1 a0 F α (dueMake F p b)) (had : a ≠ d) (ha : H1 a = none) (hd : H1 d = none) (s2 : Same H1 H2)
    (hx : ((if b = true then Part.file [] else .dir []) = .dir [] ∧ H2 a = some (.dK [(kN, .ref d)]) ∧ H2 d = some (.dK [])) ∨ ((if b = true then Part.file [] else .dir []) = .file [] ∧ H2 a = some (.dK [(kW, .ref d)]) ∧ H2 d = some (.lst []))) :
    DGet H2 (α.nd p.dropLast) (kV kN) (some (.ref (α.inn p.dropLast))) ∧ ∃ H3, DPut H2 (α.inn p.dropLast) (kV (Sum.inl (p.getLastD 0))) (.ref a) H3 ∧ ∀ q, H3 q = none → Q (.ref q) (upd H3 q (.tup [.str "ok", .non])) := by
  have hsn := last_snoc hpe
  obtain ⟨h1, h2, h3, h4, h5⟩ := t.dir _ _ e
  have g1 := s2 _ _ h1
  have g2 := s2 _ _ h2
  have dg := DGet.k (k := kN) g1
  rw [show valV [(kN, V.ref (α.inn p.dropLast))] kN = some (.ref (α.inn p.dropLast)) from valV_pos rfl] at dg
  refine ⟨dg, _, DPut.k g2 (by rw [List.length_map]; have := few _ _ e; have := sixty; omega), fun q hq => ?_⟩
  have nn : ¬ p.getLastD 0 ∈ ns := fun z => hF (by have := (h5 _).mp z; rw [← hsn] at this; exact this)
  have e1 : valV (ns.map fun n => ((Sum.inl n : L2.Key), V.ref (α.nd (p.dropLast ++ [n])))) (Sum.inl (p.getLastD 0) : L2.Key) = none := by rw [val_names, if_neg nn]
  rw [putK_new _ e1] at hq ⊢
  have hD : (upd H2 (α.inn p.dropLast) (.dK (ns.map (fun n => ((Sum.inl n : L2.Key), V.ref (α.nd (p.dropLast ++ [n])))) ++ [(Sum.inl (p.getLastD 0), .ref a)]))) (α.inn p.dropLast) = some (.dK (ns.map (fun n => ((Sum.inl n : L2.Key), V.ref (α.nd (p.dropLast ++ [n])))) ++ [(Sum.inl (p.getLastD 0), .ref a)])) := upd_same
  have old : ∀ b o, H1 b = some o → b ≠ α.inn p.dropLast → (upd H2 (α.inn p.dropLast) (.dK (ns.map (fun n => ((Sum.inl n : L2.Key), V.ref (α.nd (p.dropLast ++ [n])))) ++ [(Sum.inl (p.getLastD 0), .ref a)]))) b = some o := fun b o q n => by rw [upd_ne n]; exact s2 _ _ q
  have na : a ≠ α.inn p.dropLast := (ne_of_none h2 ha).symm
  have nd : d ≠ α.inn p.dropLast := (ne_of_none h2 hd).symm
  have xa : ∀ o, H2 a = some o → (upd H2 (α.inn p.dropLast) (.dK (ns.map (fun n => ((Sum.inl n : L2.Key), V.ref (α.nd (p.dropLast ++ [n])))) ++ [(Sum.inl (p.getLastD 0), .ref a)]))) a = some o := fun o q => by rw [upd_ne na]; exact q
  have xd : ∀ o, H2 d = some o → (upd H2 (α.inn p.dropLast) (.dK (ns.map (fun n => ((Sum.inl n : L2.Key), V.ref (α.nd (p.dropLast ++ [n])))) ++ [(Sum.inl (p.getLastD 0), .ref a)]))) d = some o := fun o q => by rw [upd_ne nd]; exact q
  generalize upd H2 (α.inn p.dropLast) (.dK (ns.map (fun n => ((Sum.inl n : L2.Key), V.ref (α.nd (p.dropLast ++ [n])))) ++ [(Sum.inl (p.getLastD 0), .ref a)])) = H3 at *
  have tr := TR.add (x := if b = true then Part.file [] else .dir []) t e (few _ _ e) (by rw [← hsn]; cases z : F p with | none => rfl | some y => rw [z] at hF; exact absurd rfl hF) ha hd had (hx.imp (fun ⟨x1, x2, x3⟩ => ⟨x1, xa _ x2, xd _ x3⟩) (fun ⟨x1, x2, x3⟩ => ⟨x1, xa _ x2, xd _ x3⟩)) hD old
  rw [dueMake_new hpe e hF] at k
  refine k _ _ _ (tr.same (Same.new hq)) (fun b o q n => Same.new hq _ _ (old b o q (n _ (by rw [e]; rfl)))) (fun b q => own_add e ha hd q) (.tup upd_same (.cons (.str _) (.cons .non .nil)))
def spMake : Sp := fun vs H Q _ => ∃ (a0 : Addr) (F : Fm) (α : TA) (v : V) (p : List Int) (b : Bool), vs = [.ref a0, v, .str (kindS b)] ∧ TR H a0 F α ∧ Few F ∧ PathV H v p ∧ Fin1 Q H a0 F α (dueMake F p b)
section
variable {P : Program} {w : World} {K : PySem.W.Frag} {mg : Str → Option Value} {base : Heap} {A_PARTS : Addr}
abbrev s_make : Stmt := topS 23
abbrev ns_make : List Str := ["tree", "path", "kind", "around"]
theorem sc_make : FnScope ns_make ["tree", "path", "kind"] (defScope s_make) := ⟨rfl, rfl, rfl, by decide +kernel, rfl, by decide +kernel, by decide +kernel⟩

theorem ok_make {f : Addr} {fd : FuncData} (F : Fun K "_make" "_make" s_make f fd) (T : Txt K mg  w A_PARTS) (D_part_at : Dfn P w K mg base CX0 2 "part_at" ["tree", "path"] spAt) (D_is_directory : Dfn P w K mg base CX0 1 "is_directory" ["part"] spIsDir) (D_new_tree : Dfn P w K mg base CX0 1 "new_tree" [] spNew) : FnOk P w K mg base CX0 3 f fd ["tree", "path", "kind"] spMake := by
  refine F.ok sc_make (fun vs H Q E h => ?_) (fun cdv A outer s H vs Q E hr h => ?_)
  · obtain ⟨a0, F, α, v, p, b, rfl, _⟩ := h
    rfl
  · obtain ⟨a0, Fm, α, v, p, b, rfl, t, few, hpv, k⟩ := h
    refine ⟨_, (pss_cons (ps_set (i := 3) sc_make.nd rfl (Or.inl rfl) (pe_dcall D_part_at (hr.mono (by decide)) (by rfl) pass0 (pa_cons (pv 0) (pa_cons (pe_slice (kSlT K) (pv 1) po_none (po_some (pe_un un_neg pe_int))) pa_nil))))
  (pss_cons (ps_if (PW.pt (pw_or (pt_not (pt_truth (pv 1) (by intro _; rfl))) (pw_or (pt_cmpR op_isN (pv 3) pe_non (nomark _)) (pw_or1 (pt_not (pt_val (pe_dcall D_is_directory (hr.mono (by decide)) (by rfl) pass0 (pa_cons (pv 3) pa_nil)))))))) (pss_one (ps_ret (pe_tup (pa_cons pe_str (pa_cons pe_str pa_nil))))) pss_nil)
  (pss_cons (ps_if (pt_cmp (pc_din (units1 hr) (pe_ix (kIxT K) (pv 1) (pe_un un_neg pe_int) (fun _ _ => rfl)) (pe_dget (units1 hr) (pv 3) pe_str (fun _ _ => rfl)))) (pss_one (ps_ret (pe_tup (pa_cons pe_str (pa_cons pe_str pa_nil))))) pss_nil)
  (pss_cons (ps_dput (units1 hr) (pe_dget (units1 hr) (pv 3) pe_str (fun _ _ => rfl)) (pe_ix (kIxT K) (pv 1) (pe_un un_neg pe_int) (fun _ _ => rfl)) (pe_ifExp (pt_cmpR op_eq (pv 2) pe_str (nomark _)) (pe_dcall0 D_new_tree (hr.mono (by decide)) (by rfl) pass0) (pe_disp (pps_cons pe_str (pe_lst pa_nil) pps_nil) (by rfl) (by rfl) (by intro z; cases z) (by decide))) rfl)
  (pss_one (ps_ret (pe_tup (pa_cons pe_str (pa_cons pe_non pa_nil))))))))), ?_⟩
    refine ⟨_, rfl, _, rfl, _, rfl, _, rfl, r_cutlast hpv fun v' H1 s1 pv1 => ?_⟩
    refine ⟨a0, Fm, α, v', _, rfl, t.same s1, pv1, ?_⟩
    have t1 := t.same s1
    have pv2 := hpv.same s1
    obtain ⟨pa, rfl, hp⟩ := pv2
    by_cases hpe : p = []
    · subst hpe
      rw [dueMake_nil] at k
      refine ⟨_, rfl, false, .inr (.inl ⟨_, SqT.of hp, rfl⟩), iteT (iteT ⟨szl rfl, fun q hq => ?_⟩)⟩
      exact Fin1.stay t k (s1.trans (Same.new hq)) (Dt.tup upd_same (.cons (.str _) (.cons (.str _) .nil)))
    · have ne : (p.map V.int).isEmpty = false := by cases p with | nil => exact absurd rfl hpe | cons a r => rfl
      refine ⟨_, rfl, true, .inr (.inl ⟨_, SqT.of hp, by rw [ne]; rfl⟩), iteF ?_⟩
      have hl := at_last hpe
      have hsn := last_snoc hpe
      cases e : Fm p.dropLast with
      | none =>
        rw [dueMake_none hpe e] at k
        have e1 : partV Fm α p.dropLast = .non := by unfold partV; rw [e]; rfl
        rw [e1]
        refine ⟨_, rfl, rfl, _, rfl, iteT (iteT ⟨szl rfl, fun q hq => ?_⟩)⟩
        exact Fin1.stay t k (s1.trans (Same.new hq)) (Dt.tup upd_same (.cons (.str _) (.cons (.str _) .nil)))
      | some x =>
        have e1 : partV Fm α p.dropLast = .ref (α.nd p.dropLast) := by unfold partV; rw [e]; rfl
        rw [e1]
        refine ⟨_, rfl, rfl, _, rfl, iteF ?_⟩
        cases x with
        | file ws =>
          rw [dueMake_file hpe e] at k
          obtain ⟨h1, h2, _⟩ := t1.file _ _ e
          refine ⟨_, rfl, _, _, rfl, h1, _, rfl, ?_⟩
          have ev : valV [(kW, V.ref (α.inn p.dropLast))] kN = none := by rw [valV_neg kWN]; rfl
          rw [ev]
          refine iteT ⟨szl rfl, fun q hq => ?_⟩
          exact Fin1.stay t k (s1.trans (Same.new hq)) (Dt.tup upd_same (.cons (.str _) (.cons (.str _) .nil)))
        | dir ns =>
          obtain ⟨h1, h2, h3, h4, h5⟩ := t1.dir _ _ e
          refine ⟨_, rfl, _, _, rfl, h1, _, rfl, ?_⟩
          have ev : valV [(kN, V.ref (α.inn p.dropLast))] kN = some (.ref (α.inn p.dropLast)) := valV_pos rfl
          rw [ev]
          refine iteF ?_
          have dg := DGet.k (k := kN) h1
          rw [ev] at dg
          have dg2 := DGet.k (k := (Sum.inl (p.getLastD 0) : L2.Key)) h2
          rw [val_names, ← hsn] at dg2
          refine ⟨_, rfl, _, rfl, _, _, _, _, rfl, rfl, SqT.of hp, hl, ?_⟩
          refine ⟨_, rfl, α.nd p.dropLast, _, rfl, dg, α.inn p.dropLast, _, rfl, dg2, ?_⟩
          have hin : p.getLastD 0 ∈ ns ↔ (Fm p).isSome = true := by
            have := h5 (p.getLastD 0)
            rw [← hsn] at this
            exact this
          by_cases hF : (Fm p).isSome = true
          · rw [if_pos (hin.mpr hF)]
            refine ⟨_, rfl, iteT ⟨szl rfl, fun q hq => ?_⟩⟩
            rw [dueMake_there hpe e hF] at k
            exact Fin1.stay t k (s1.trans (Same.new hq)) (Dt.tup upd_same (.cons (.str _) (.cons (.str _) .nil)))
          · rw [if_neg (fun z => hF (hin.mp z))]
            refine ⟨_, rfl, iteF ?_⟩
            cases b with
            | false =>
              refine ⟨_, rfl, rfl, _, rfl, iteT ⟨rfl, fun a d had ha hd H2 s2 hna hnd => ?_⟩⟩
              obtain ⟨g1, H3, g2, g3⟩ := make_done t1 few hpe e hF (k.at s1) had ha hd s2 (.inl ⟨rfl, hna, hnd⟩)
              refine ⟨_, rfl, _, _, rfl, g1, _, rfl, _, rfl, _, _, _, _, rfl, rfl, SqT.of (s2 _ _ hp), hl, _, H3, rfl, g2, szl rfl, g3⟩
            | true =>
              refine ⟨_, rfl, rfl, _, rfl, iteF fun a ha => ⟨szl rfl, fun d hd => ?_⟩⟩
              have s1' := Same.new (o := .dK []) ha
              have s2' := Same.new (o := .lst []) hd
              have ha2 := s2' _ _ (upd_same : (upd H1 a (.dK [])) a = some (.dK []))
              have hd2 : (upd (upd H1 a (.dK [])) d (.lst [])) d = some (.lst []) := upd_same
              have nad : a ≠ d := ne_of_none upd_same hd
              have s2 : Same H1 (upd (upd (upd H1 a (.dK [])) d (.lst [])) a (.dK [(kW, .ref d)])) := Same.mut (s1'.trans s2') ha
              obtain ⟨g1, H3, g2, g3⟩ := make_done t1 few hpe e hF (k.at s1) nad ha (s1'.free hd) s2 (.inr ⟨rfl, upd_same, by rw [upd_ne nad.symm]; exact hd2⟩)
              refine ⟨ha2, [(kW, .ref d)], rfl, show (1 : Nat) ≤ 15 by decide, ?_⟩
              refine ⟨_, rfl, _, _, rfl, g1, _, rfl, _, rfl, _, _, _, _, rfl, rfl, SqT.of (s2 _ _ hp), hl, _, H3, rfl, g2, szl rfl, g3⟩
end
end My

namespace My
open PySem L2
local macro_rules | `(tactic| walk_at "ne") => `(tactic| first | assumption | exact Ne.symm (by assumption) | exact ne_of_none (by assumption) (by assumption) | exact Ne.symm (ne_of_none (by assumption) (by assumption)))
local macro_rules | `(tactic| walk_at "hp") => `(tactic| first | assumption | with_reducible exact upd_same | (with_reducible refine Eq.trans (upd_ne ?_) ?_; rotate_left; walk_at "hp"; walk_at "ne"))
local macro_rules | `(tactic| walk_at "cnd") => `(tactic| first | omega | (show (0 : Int) < _; omega) | exact ⟨by omega, by omega⟩ | exact Or.inl ⟨by omega, by omega⟩ | exact Or.inr ⟨by omega, by omega⟩ | exact ⟨by omega, by omega, by decide⟩ | exact ⟨by omega, by omega, by omega⟩)
local macro_rules | `(tactic| walk_at "at") => `(tactic| first | exact atC 0 rfl rfl | exact atC 1 rfl rfl | exact atC 2 rfl rfl | exact atC 3 rfl rfl | exact atC 4 rfl rfl | exact atC 5 rfl rfl | exact atC 6 rfl rfl | exact atC 7 rfl rfl)
local macro_rules | `(tactic| walk_at "ix") => `(tactic| first | exact ixC 0 rfl (Nat.le_of_ble_eq_true rfl) | exact ixC 1 rfl (Nat.le_of_ble_eq_true rfl) | exact ixC 2 rfl (Nat.le_of_ble_eq_true rfl) | exact ixC 3 rfl (Nat.le_of_ble_eq_true rfl) | exact ixC 4 rfl (Nat.le_of_ble_eq_true rfl) | exact ixC 5 rfl (Nat.le_of_ble_eq_true rfl))
local macro_rules | `(tactic| walk_at "st") => `(tactic| first
  | refine ⟨_, rfl, ?_⟩
  | refine ⟨_, _, rfl, rfl, (by walk_at "cnd" : (_ : Prop)), ?_⟩
  | refine ⟨_, _, rfl, rfl, ?_⟩
  | refine ⟨rfl, ?_⟩
  | refine Or.inl ⟨_, rfl, ?_⟩
  | refine ⟨_, _, _, _, rfl, rfl, by exact SqL.of (by walk_at "hp"), by walk_at "at", ?_⟩
  | refine ⟨_, _, _, _, rfl, rfl, by exact SqT.of (by walk_at "hp"), by walk_at "at", ?_⟩
  | refine ⟨_, _, _, _, rfl, rfl, by walk_at "hp", by walk_at "ix", ?_⟩
  | refine ⟨_, _, rfl, Or.inl (by exact SqL.of (by walk_at "hp")), ?_⟩
  | refine ⟨_, _, rfl, Or.inr (by exact SqT.of (by walk_at "hp")), ?_⟩)
local macro_rules | `(tactic| walk_at "so") => `(tactic| first
  | refine ⟨_, _, _, _, _, rfl, by walk_at "hp", by assumption, by assumption, rfl, ?_⟩
  | refine ⟨_, _, _, _, rfl, by walk_at "hp", by assumption, by assumption, Nat.le_of_ble_eq_true rfl, ?_⟩
  | refine ⟨_, _, _, rfl, by walk_at "hp", rfl, ?_⟩
  | walk_at "st")
local macro_rules | `(tactic| walk_at "ro") => `(tactic| repeat walk_at "so")
local macro_rules | `(tactic| walk_at "run") => `(tactic| repeat walk_at "st")

theorem Dt.tup1 {H : Hp} {v : V} {d : PyData} (h : Dt H v (.tuple [d])) : ∃ a x, v = .ref a ∧ H a = some (.tup [x]) ∧ Dt H x d := by
  cases h with
  | @tup a xs ds ha hs =>
    match xs, hs with
    | [x], .cons h1 .nil => exact ⟨a, x, rfl, ha, h1⟩
theorem Dt.tup2 {H : Hp} {v : V} {d e : PyData} (h : Dt H v (.tuple [d, e])) : ∃ a x y, v = .ref a ∧ H a = some (.tup [x, y]) ∧ Dt H x d ∧ Dt H y e := by
  cases h with
  | @tup a xs ds ha hs =>
    match xs, hs with
    | [x, y], .cons h1 (.cons h2 .nil) => exact ⟨a, x, y, rfl, ha, h1, h2⟩
theorem ints_of {H : Hp} : ∀ {p : List Int} {xs : List V}, DtAll H xs (p.map PyData.int) → xs = p.map V.int
  | [], _, h => by cases h; rfl
  | n :: p, _, h => by
    cases h with
    | cons h1 h2 =>
      cases h1
      rw [ints_of h2]; rfl
theorem path_of {H : Hp} {v : V} {p : List Int} (h : Dt H v (pthD p)) : PathV H v p := by
  cases h with
  | @tup a xs ds ha hs =>
    rw [ints_of hs] at ha
    exact ⟨a, rfl, ha⟩
theorem dt_path {H : Hp} {v : V} {p : List Int} (h : PathV H v p) : Dt H v (pthD p) := by
  obtain ⟨a, rfl, ha⟩ := h
  exact .tup ha (DtAll.ints p)
theorem own_del {F : Fm} {α : TA} {p : List Int} {n : Int} {ns : List Int} (hp : F p = some (.dir ns)) {b : Addr} (h : Own (delF F p n) α b) : Own F α b := by
  obtain ⟨q, hq, hb⟩ := h
  refine ⟨q, ?_, hb⟩
  unfold delF at hq
  by_cases h1 : q = p ++ [n]
  · rw [if_pos h1] at hq; cases hq
  · rw [if_neg h1] at hq
    by_cases h2 : q = p
    · rw [h2, hp]; rfl
    · rw [if_neg h2] at hq; exact hq
theorem own_set {F : Fm} {α : TA} {p : List Int} {ws ws' : List Int} (hp : F p = some (.file ws)) {b : Addr} (h : Own (setF F p ws') α b) : Own F α b := by
  obtain ⟨q, hq, hb⟩ := h
  refine ⟨q, ?_, hb⟩
  unfold setF at hq
  by_cases h1 : q = p
  · rw [h1, hp]; rfl
  · rw [if_neg h1] at hq; exact hq
def spDrop : Sp := fun vs H Q _ => ∃ (a0 : Addr) (F : Fm) (α : TA) (v : V) (p : List Int), vs = [.ref a0, v, .ref (α.nd p)] ∧ TR H a0 F α ∧ PathV H v p ∧ (F p).isSome = true ∧ Fin1 Q H a0 F α (dueDrop F p)
theorem drop_done {Q : VK} {H : Hp} {a0 : Addr} {F : Fm} {α : TA} {p ns : List Int} (t : TR H a0 F α) (hpe : p ≠ []) (e : F p.dropLast = some (.dir ns)) (hx : ∀ m, F (p ++ [m]) = none) (k : Fin1 Q H a0 F α (okD, delF F p.dropLast (p.getLastD 0))) :
    ∀ q, (upd H (α.inn p.dropLast) (.dK (dropK (ns.map fun n => ((Sum.inl n : L2.Key), V.ref (α.nd (p.dropLast ++ [n])))) (Sum.inl (p.getLastD 0))))) q = none → Q (.ref q) (upd (upd H (α.inn p.dropLast) (.dK (dropK (ns.map fun n => ((Sum.inl n : L2.Key), V.ref (α.nd (p.dropLast ++ [n])))) (Sum.inl (p.getLastD 0))))) q (.tup [.str "ok", .non])) := by
  intro q hq
  have hsn := last_snoc hpe
  have old : ∀ b o, H b = some o → b ≠ α.inn p.dropLast → (upd H (α.inn p.dropLast) (.dK (dropK (ns.map fun n => ((Sum.inl n : L2.Key), V.ref (α.nd (p.dropLast ++ [n])))) (Sum.inl (p.getLastD 0))))) b = some o := fun b o q n => by rw [upd_ne n]; exact q
  have tr := TR.del t e (n := p.getLastD 0) (fun m => by rw [← hsn]; exact hx m) upd_same old
  exact k _ _ _ (tr.same (Same.new hq)) (fun b o q n => Same.new hq _ _ (old b o q (n _ (by rw [e]; rfl)))) (fun b q => .inl (own_del e q)) (.tup upd_same (.cons (.str _) (.cons .non .nil)))
section
variable {P : Program} {w : World} {K : PySem.W.Frag} {mg : Str → Option Value} {base : Heap} {A_PARTS : Addr}
abbrev s_drop : Stmt := topS 24
abbrev ns_drop : List Str := ["tree", "path", "part", "around"]
theorem sc_drop : FnScope ns_drop ["tree", "path", "part"] (defScope s_drop) := ⟨rfl, rfl, rfl, by decide +kernel, rfl, by decide +kernel, by decide +kernel⟩

theorem ok_drop {f : Addr} {fd : FuncData} (F : Fun K "_drop" "_drop" s_drop f fd) (T : Txt K mg  w A_PARTS) (D_part_at : Dfn P w K mg base CX0 2 "part_at" ["tree", "path"] spAt) (D_is_directory : Dfn P w K mg base CX0 1 "is_directory" ["part"] spIsDir) : FnOk P w K mg base CX0 3 f fd ["tree", "path", "part"] spDrop := by
  refine F.ok sc_drop (fun vs H Q E h => ?_) (fun cdv A outer s H vs Q E hr h => ?_)
  · obtain ⟨a0, F, α, v, p, rfl, _⟩ := h
    rfl
  · obtain ⟨a0, Fm, α, v, p, rfl, t, hpv, hs, k⟩ := h
    refine ⟨_, (pss_cons (ps_if (pt_not (pt_truth (pv 1) (by intro _; rfl))) (pss_one (ps_ret (pe_tup (pa_cons pe_str (pa_cons pe_str pa_nil))))) pss_nil)
  (pss_cons (ps_if (PW.pt (pw_and (pt_val (pe_dcall D_is_directory (hr.mono (by decide)) (by rfl) pass0 (pa_cons (pv 2) pa_nil))) (pw_and1 (pt_truth (pe_dget (units1 hr) (pv 2) pe_str (fun _ _ => rfl)) (by intro _; rfl))))) (pss_one (ps_ret (pe_tup (pa_cons pe_str (pa_cons pe_str pa_nil))))) pss_nil)
  (pss_cons (ps_set (i := 3) sc_drop.nd rfl (Or.inl rfl) (pe_dcall D_part_at (hr.mono (by decide)) (by rfl) pass0 (pa_cons (pv 0) (pa_cons (pe_slice (kSlT K) (pv 1) po_none (po_some (pe_un un_neg pe_int))) pa_nil))))
  (pss_cons (ps_ddel (pe_dget (units1 hr) (pv 3) pe_str (fun _ _ => rfl)) (pe_ix (kIxT K) (pv 1) (pe_un un_neg pe_int) (fun _ _ => rfl)))
  (pss_one (ps_ret (pe_tup (pa_cons pe_str (pa_cons pe_non pa_nil))))))))), ?_⟩
    obtain ⟨pa, rfl, hp⟩ := id hpv
    by_cases hpe : p = []
    · subst hpe
      rw [dueDrop_nil] at k
      refine ⟨_, rfl, false, .inr (.inl ⟨_, SqT.of hp, rfl⟩), iteT ⟨szl rfl, fun q hq => ?_⟩⟩
      exact Fin1.stay t k (Same.new hq) (Dt.tup upd_same (.cons (.str _) (.cons (.str _) .nil)))
    · have ne : (p.map V.int).isEmpty = false := by cases p with | nil => exact absurd rfl hpe | cons a r => rfl
      have hl := at_last hpe
      have hsn := last_snoc hpe
      refine ⟨_, rfl, true, .inr (.inl ⟨_, SqT.of hp, by rw [ne]; rfl⟩), iteF ?_⟩
      obtain ⟨ns, hup⟩ := t.up p.dropLast (p.getLastD 0) (by rw [← hsn]; exact hs)
      have hin := ((t.dir _ _ hup).2.2.2.2 (p.getLastD 0)).mpr (by rw [← hsn]; exact hs)
      have e1 : partV Fm α p.dropLast = .ref (α.nd p.dropLast) := by unfold partV; rw [hup]; rfl
      obtain ⟨x, e⟩ := Option.isSome_iff_exists.mp hs
      have last : ∀ (Hx : Hp), Same H Hx → Fin1 Q Hx a0 Fm α (okD, delF Fm p.dropLast (p.getLastD 0)) → (∀ m, Fm (p ++ [m]) = none) →
          DGet Hx (α.nd p.dropLast) (kV kN) (some (.ref (α.inn p.dropLast))) ∧ Hx (α.inn p.dropLast) = some (.dK (ns.map fun n => ((Sum.inl n : L2.Key), V.ref (α.nd (p.dropLast ++ [n]))))) ∧ (valV (ns.map fun n => ((Sum.inl n : L2.Key), V.ref (α.nd (p.dropLast ++ [n])))) (Sum.inl (p.getLastD 0))).isSome = true := fun Hx s kk hx => by
        obtain ⟨h1, h2, h3, h4, h5⟩ := (t.same s).dir _ _ hup
        have dg := DGet.k (k := kN) h1
        rw [show valV [(kN, V.ref (α.inn p.dropLast))] kN = some (.ref (α.inn p.dropLast)) from valV_pos rfl] at dg
        exact ⟨dg, h2, by rw [val_names, if_pos hin]; rfl⟩
      cases x with
      | file ws =>
        rw [dueDrop_file hpe e] at k
        obtain ⟨h1, h2, _⟩ := t.file _ _ e
        refine ⟨_, rfl, _, _, rfl, h1, _, rfl, ?_⟩
        rw [show valV [(kW, V.ref (α.inn p))] kN = none by rw [valV_neg kWN]; rfl]
        refine iteF (iteF ?_)
        refine ⟨_, rfl, _, rfl, _, rfl, _, rfl, r_cutlast hpv fun v' H1 s1 pv1 => ?_⟩
        refine ⟨a0, Fm, α, v', _, rfl, t.same s1, pv1, ?_⟩
        rw [e1]
        have hx : ∀ m, Fm (p ++ [m]) = none := fun m => pre_file t e m []
        obtain ⟨dg, dh, dv⟩ := last H1 s1 (k.at s1) hx
        refine ⟨_, rfl, _, _, rfl, dg, _, rfl, _, rfl, _, _, _, _, rfl, rfl, SqT.of (s1 _ _ hp), hl, _, _, _, rfl, dh, rfl, dv, szl rfl, ?_⟩
        exact drop_done (t.same s1) hpe hup hx (k.at s1)
      | dir ms =>
        obtain ⟨h1, h2, h3, h4, h5⟩ := t.dir _ _ e
        have dg := DGet.k (k := kN) h1
        rw [show valV [(kN, V.ref (α.inn p))] kN = some (.ref (α.inn p)) from valV_pos rfl] at dg
        refine ⟨_, rfl, _, _, rfl, h1, _, rfl, ?_⟩
        rw [show valV [(kN, V.ref (α.inn p))] kN = some (.ref (α.inn p)) from valV_pos rfl]
        refine iteT ⟨_, rfl, _, _, rfl, dg, ?_⟩
        cases ms with
        | cons m ms =>
          rw [dueDrop_full hpe e] at k
          refine ⟨true, .inr (.inr ⟨_, h2, rfl⟩), iteT ⟨szl rfl, fun q hq => ?_⟩⟩
          exact Fin1.stay t k (Same.new hq) (Dt.tup upd_same (.cons (.str _) (.cons (.str _) .nil)))
        | nil =>
          rw [dueDrop_dir hpe e] at k
          refine ⟨false, .inr (.inr ⟨_, h2, rfl⟩), iteF ?_⟩
          refine ⟨_, rfl, _, rfl, _, rfl, _, rfl, r_cutlast hpv fun v' H1 s1 pv1 => ?_⟩
          refine ⟨a0, Fm, α, v', _, rfl, t.same s1, pv1, ?_⟩
          rw [e1]
          have hx : ∀ m, Fm (p ++ [m]) = none := fun m => by
            cases z : Fm (p ++ [m]) with
            | none => rfl
            | some y => exact absurd ((h5 m).mpr (by rw [z]; rfl)) (by simp)
          obtain ⟨dg2, dh, dv⟩ := last H1 s1 (k.at s1) hx
          refine ⟨_, rfl, _, _, rfl, dg2, _, rfl, _, rfl, _, _, _, _, rfl, rfl, SqT.of (s1 _ _ hp), hl, _, _, _, rfl, dh, rfl, dv, szl rfl, ?_⟩
          exact drop_done (t.same s1) hpe hup hx (k.at s1)
end
end My

namespace My
open PySem L2
local macro_rules | `(tactic| walk_at "ne") => `(tactic| first | assumption | exact Ne.symm (by assumption) | exact ne_of_none (by assumption) (by assumption) | exact Ne.symm (ne_of_none (by assumption) (by assumption)))
local macro_rules | `(tactic| walk_at "hp") => `(tactic| first | assumption | with_reducible exact upd_same | (with_reducible refine Eq.trans (upd_ne ?_) ?_; rotate_left; walk_at "hp"; walk_at "ne"))
local macro_rules | `(tactic| walk_at "cnd") => `(tactic| first | omega | (show (0 : Int) < _; omega) | exact ⟨by omega, by omega⟩ | exact Or.inl ⟨by omega, by omega⟩ | exact Or.inr ⟨by omega, by omega⟩ | exact ⟨by omega, by omega, by decide⟩ | exact ⟨by omega, by omega, by omega⟩)
local macro_rules | `(tactic| walk_at "at") => `(tactic| first | exact atC 0 rfl rfl | exact atC 1 rfl rfl | exact atC 2 rfl rfl | exact atC 3 rfl rfl | exact atC 4 rfl rfl | exact atC 5 rfl rfl | exact atC 6 rfl rfl | exact atC 7 rfl rfl)
local macro_rules | `(tactic| walk_at "ix") => `(tactic| first | exact ixC 0 rfl (Nat.le_of_ble_eq_true rfl) | exact ixC 1 rfl (Nat.le_of_ble_eq_true rfl) | exact ixC 2 rfl (Nat.le_of_ble_eq_true rfl) | exact ixC 3 rfl (Nat.le_of_ble_eq_true rfl) | exact ixC 4 rfl (Nat.le_of_ble_eq_true rfl) | exact ixC 5 rfl (Nat.le_of_ble_eq_true rfl))
local macro_rules | `(tactic| walk_at "st") => `(tactic| first
  | refine ⟨_, rfl, ?_⟩
  | refine ⟨_, _, rfl, rfl, (by walk_at "cnd" : (_ : Prop)), ?_⟩
  | refine ⟨_, _, rfl, rfl, ?_⟩
  | refine ⟨rfl, ?_⟩
  | refine Or.inl ⟨_, rfl, ?_⟩
  | refine ⟨_, _, _, _, rfl, rfl, by exact SqL.of (by walk_at "hp"), by walk_at "at", ?_⟩
  | refine ⟨_, _, _, _, rfl, rfl, by exact SqT.of (by walk_at "hp"), by walk_at "at", ?_⟩
  | refine ⟨_, _, _, _, rfl, rfl, by walk_at "hp", by walk_at "ix", ?_⟩
  | refine ⟨_, _, rfl, Or.inl (by exact SqL.of (by walk_at "hp")), ?_⟩
  | refine ⟨_, _, rfl, Or.inr (by exact SqT.of (by walk_at "hp")), ?_⟩)
local macro_rules | `(tactic| walk_at "so") => `(tactic| first
  | refine ⟨_, _, _, _, _, rfl, by walk_at "hp", by assumption, by assumption, rfl, ?_⟩
  | refine ⟨_, _, _, _, rfl, by walk_at "hp", by assumption, by assumption, Nat.le_of_ble_eq_true rfl, ?_⟩
  | refine ⟨_, _, _, rfl, by walk_at "hp", rfl, ?_⟩
  | walk_at "st")
local macro_rules | `(tactic| walk_at "ro") => `(tactic| repeat walk_at "so")
local macro_rules | `(tactic| walk_at "run") => `(tactic| repeat walk_at "st")

def isFileRq : Rq → Prop
  | .put _ _ => True
  | .get _ _ => True
  | .shrink _ => True
  | .size => True
  | _ => False
theorem cut_int (ws : List Int) (a n : Nat) : cutV (ws.map V.int) (some (a : Int)) (some ((a : Int) + (n : Int))) = ((ws.drop a).take n).map V.int := by
  unfold cutV
  rw [show (a : Int) + (n : Int) = ((a + n : Nat) : Int) by omega, HT.sIx_nat, HT.sIx_nat, List.length_map, List.map_take, List.map_drop]
  rcases Nat.le_total a ws.length with q | q
  · rw [Nat.min_eq_left q]
    rcases Nat.le_total (a + n) ws.length with r | r
    · rw [Nat.min_eq_left r, Nat.add_sub_cancel_left]
    · rw [Nat.min_eq_right r, List.take_of_length_le (by simp), List.take_of_length_le (by simp; omega)]
  · rw [Nat.min_eq_right q, List.drop_eq_nil_of_le (by simp), List.drop_eq_nil_of_le (by simpa using q), List.take_nil, List.take_nil]
def spAskFile : Sp := fun vs H Q _ => ∃ (a0 : Addr) (F : Fm) (α : TA) (v : V) (p : List Int) (r : Rq) (ws : List Int), vs = [.ref (α.inn p), .str (rqW r), v] ∧ TR H a0 F α ∧ F p = some (.file ws) ∧ Dt H v (.tuple (rqP r)) ∧ okRq r ∧ isFileRq r ∧ Fin1 Q H a0 F α (fileG F p r ws)
section
variable {P : Program} {w : World} {K : PySem.W.Frag} {mg : Str → Option Value} {base : Heap} {A_PARTS : Addr}
abbrev s_ask_file : Stmt := topS 26
abbrev ns_ask_file : List Str := ["words", "word", "parts"]
theorem sc_ask_file : FnScope ns_ask_file ["words", "word", "parts"] (defScope s_ask_file) := ⟨rfl, rfl, rfl, by decide +kernel, rfl, by decide +kernel, by decide +kernel⟩

theorem ok_ask_file {f : Addr} {fd : FuncData} (F : Fun K "_ask_file" "_ask_file" s_ask_file f fd) (T : Txt K mg  w A_PARTS) (D_put : Dfn P w K mg base CX0 1 "_put" ["words", "offset", "new"] spPut) : FnOk P w K mg base CX0 2 f fd ["words", "word", "parts"] spAskFile := by
  refine F.ok sc_ask_file (fun vs H Q E h => ?_) (fun cdv A outer s H vs Q E hr h => ?_)
  · obtain ⟨a0, F, α, v, p, r, ws, rfl, _⟩ := h
    rfl
  · obtain ⟨a0, Fm, α, v, p, r, ws, rfl, t, e, hd, okr, isf, k⟩ := h
    refine ⟨_, (pss_cons (ps_if (pt_cmpR op_eq (pv 1) pe_str (nomark _)) (pss_one (ps_ret (pe_dcall D_put (hr.mono (by decide)) (by rfl) pass0 (pa_cons (pv 0) (pa_cons (pe_ix (kIxT K) (pv 2) pe_int (fun _ _ => rfl)) (pa_cons (pe_ix (kIxT K) (pv 2) pe_int (fun _ _ => rfl)) pa_nil)))))) pss_nil)
  (pss_cons (ps_if (pt_cmpR op_eq (pv 1) pe_str (nomark _)) (pss_one (ps_ret (pe_tup (pa_cons pe_str (pa_cons (pe_callTy (kTupOf K) (by rfl) T.b_tuple (by decide +kernel) (pa_cons (pe_slice (kSlL K) (pv 0) (po_some (pe_ix (kIxT K) (pv 2) pe_int (fun _ _ => rfl))) (po_some (pe_op op_add (pe_ix (kIxT K) (pv 2) pe_int (fun _ _ => rfl)) (pe_ix (kIxT K) (pv 2) pe_int (fun _ _ => rfl))))) pa_nil)) pa_nil))))) pss_nil)
  (pss_cons (ps_if (pt_cmpR op_eq (pv 1) pe_str (nomark _)) (pss_cons (ps_delF (pv 0) (pe_ix (kIxT K) (pv 2) pe_int (fun _ _ => rfl)))
  (pss_one (ps_ret (pe_tup (pa_cons pe_str (pa_cons pe_non pa_nil)))))) pss_nil)
  (pss_one (ps_ret (pe_tup (pa_cons pe_str (pa_cons (pe_callB (kLen K) (by rfl) T.b_len (by decide +kernel) (pa_cons (pv 0) pa_nil)) pa_nil)))))))), ?_⟩
    obtain ⟨h1, h2, h3⟩ := t.file p ws e
    cases r with
    | make b => exact isf.elim
    | drop => exact isf.elim
    | list => exact isf.elim
    | put off new =>
      obtain ⟨pa, x, y, rfl, hpa, hx, hy⟩ := hd.tup2
      cases hx
      refine ⟨_, rfl, rfl, _, rfl, iteT ?_⟩
      refine ⟨_, rfl, _, rfl, _, _, _, _, rfl, rfl, SqT.of hpa, atC 0 rfl rfl, _, rfl, _, _, _, _, rfl, rfl, SqT.of hpa, atC 1 rfl rfl, ?_⟩
      refine ⟨_, ws, off, _, new, rfl, h2, path_of hy, h3, okr.1, okr.2, fun hh r H' s hr => ?_, fun hh r H' hl hi hr => ?_⟩
      · have e0 : fileG Fm p (.put off new) ws = (noD "long", Fm) := if_pos hh
        rw [e0] at k
        exact Fin1.stay t k s hr
      · have e0 : fileG Fm p (.put off new) ws = (okD, setF Fm p (putW ws off new)) := if_neg (by omega)
        rw [e0] at k
        refine k r H' α (TR.setW t e ?_ hi hl) (fun b o q n => hl b o q (n p (by rw [e]; rfl))) (fun b q => .inl (own_set e q)) hr
        have := okr.1
        unfold putW
        simp only [List.length_append, List.length_take, List.length_drop, List.length_replicate]
        omega
    | get a n =>
      obtain ⟨pa, x, y, rfl, hpa, hx, hy⟩ := hd.tup2
      cases hx
      cases hy
      refine ⟨_, rfl, rfl, _, rfl, iteF ⟨_, rfl, rfl, _, rfl, iteT ?_⟩⟩
      refine ⟨_, rfl, _, rfl, _, _, _, _, rfl, rfl, SqT.of hpa, atC 0 rfl rfl, _, rfl, _, rfl, _, _, _, _, rfl, rfl, SqT.of hpa, atC 0 rfl rfl, _, rfl, _, _, _, _, rfl, rfl, SqT.of hpa, atC 1 rfl rfl, _, _, rfl, rfl, _, rfl, _, _, rfl, SqL.of h2, fun q hq => ?_⟩
      have ec : cutV (ws.map V.int) (some (a : Int)) (some ((a : Int) + (n : Int))) = ((ws.drop a).take n).map V.int := cut_int ws a n
      rw [ec]
      refine ⟨_, _, rfl, .inl ⟨SqL.of upd_same, fun r hr => ⟨szl rfl, fun u hu => ?_⟩⟩⟩
      refine Fin1.stay t k (((Same.new hq).trans (Same.new hr)).trans (Same.new hu)) ?_
      exact Dt.tup upd_same (.cons (.str _) (.cons ((dt_path ⟨_, rfl, upd_same⟩).same (Same.new hu)) .nil))
    | shrink a =>
      obtain ⟨pa, x, rfl, hpa, hx⟩ := hd.tup1
      cases hx
      refine ⟨_, rfl, rfl, _, rfl, iteF ⟨_, rfl, rfl, _, rfl, iteF ⟨_, rfl, rfl, _, rfl, iteT ?_⟩⟩⟩
      refine ⟨_, rfl, _, rfl, _, _, _, _, rfl, rfl, SqT.of hpa, atC 0 rfl rfl, _, _, _, rfl, rfl, by omega, h2, ?_⟩
      have ee : (ws.map V.int).take ((a : Int)).toNat = (ws.take a).map V.int := by rw [Int.toNat_natCast, List.map_take]
      rw [ee]
      refine ⟨szl rfl, fun q hq => ?_⟩
      have old : ∀ b o, H b = some o → b ≠ α.inn p → (upd H (α.inn p) (.lst ((ws.take a).map V.int))) b = some o := fun b o q n => by rw [upd_ne n]; exact q
      refine k _ _ α ((TR.setW t e (by rw [List.length_take]; omega) upd_same old).same (Same.new hq)) (fun b o q n => Same.new hq _ _ (old b o q (n p (by rw [e]; rfl)))) (fun b q => .inl (own_set e q)) (.tup upd_same (.cons (.str _) (.cons .non .nil)))
    | size =>
      refine ⟨_, rfl, rfl, _, rfl, iteF ⟨_, rfl, rfl, _, rfl, iteF ⟨_, rfl, rfl, _, rfl, iteF ?_⟩⟩⟩
      refine ⟨_, rfl, _, _, rfl, .inl (SqL.of h2), szl rfl, fun q hq => ?_⟩
      refine Fin1.stay t k (Same.new hq) ?_
      refine Dt.tup upd_same (.cons (.str _) (.cons ?_ .nil))
      rw [List.length_map]
      exact .int _
end
end My

namespace My
open PySem L2
local macro_rules | `(tactic| walk_at "ne") => `(tactic| first | assumption | exact Ne.symm (by assumption) | exact ne_of_none (by assumption) (by assumption) | exact Ne.symm (ne_of_none (by assumption) (by assumption)))
local macro_rules | `(tactic| walk_at "hp") => `(tactic| first | assumption | with_reducible exact upd_same | (with_reducible refine Eq.trans (upd_ne ?_) ?_; rotate_left; walk_at "hp"; walk_at "ne"))
local macro_rules | `(tactic| walk_at "cnd") => `(tactic| first | omega | (show (0 : Int) < _; omega) | exact ⟨by omega, by omega⟩ | exact Or.inl ⟨by omega, by omega⟩ | exact Or.inr ⟨by omega, by omega⟩ | exact ⟨by omega, by omega, by decide⟩ | exact ⟨by omega, by omega, by omega⟩)
local macro_rules | `(tactic| walk_at "at") => `(tactic| first | exact atC 0 rfl rfl | exact atC 1 rfl rfl | exact atC 2 rfl rfl | exact atC 3 rfl rfl | exact atC 4 rfl rfl | exact atC 5 rfl rfl | exact atC 6 rfl rfl | exact atC 7 rfl rfl)
local macro_rules | `(tactic| walk_at "ix") => `(tactic| first | exact ixC 0 rfl (Nat.le_of_ble_eq_true rfl) | exact ixC 1 rfl (Nat.le_of_ble_eq_true rfl) | exact ixC 2 rfl (Nat.le_of_ble_eq_true rfl) | exact ixC 3 rfl (Nat.le_of_ble_eq_true rfl) | exact ixC 4 rfl (Nat.le_of_ble_eq_true rfl) | exact ixC 5 rfl (Nat.le_of_ble_eq_true rfl))
local macro_rules | `(tactic| walk_at "st") => `(tactic| first
  | refine ⟨_, rfl, ?_⟩
  | refine ⟨_, _, rfl, rfl, (by walk_at "cnd" : (_ : Prop)), ?_⟩
  | refine ⟨_, _, rfl, rfl, ?_⟩
  | refine ⟨rfl, ?_⟩
  | refine Or.inl ⟨_, rfl, ?_⟩
  | refine ⟨_, _, _, _, rfl, rfl, by exact SqL.of (by walk_at "hp"), by walk_at "at", ?_⟩
  | refine ⟨_, _, _, _, rfl, rfl, by exact SqT.of (by walk_at "hp"), by walk_at "at", ?_⟩
  | refine ⟨_, _, _, _, rfl, rfl, by walk_at "hp", by walk_at "ix", ?_⟩
  | refine ⟨_, _, rfl, Or.inl (by exact SqL.of (by walk_at "hp")), ?_⟩
  | refine ⟨_, _, rfl, Or.inr (by exact SqT.of (by walk_at "hp")), ?_⟩)
local macro_rules | `(tactic| walk_at "so") => `(tactic| first
  | refine ⟨_, _, _, _, _, rfl, by walk_at "hp", by assumption, by assumption, rfl, ?_⟩
  | refine ⟨_, _, _, _, rfl, by walk_at "hp", by assumption, by assumption, Nat.le_of_ble_eq_true rfl, ?_⟩
  | refine ⟨_, _, _, rfl, by walk_at "hp", rfl, ?_⟩
  | walk_at "st")
local macro_rules | `(tactic| walk_at "ro") => `(tactic| repeat walk_at "so")
local macro_rules | `(tactic| walk_at "run") => `(tactic| repeat walk_at "st")

theorem strNe {a b : Str} (h : a ≠ b) : ¬ V.str a = V.str b := fun e => h (by injection e)
def spAsk : Sp := fun vs H Q _ => ∃ (a0 : Addr) (F : Fm) (α : TA) (v : V) (p : List Int) (r : Rq), vs = [.ref a0, v] ∧ TR H a0 F α ∧ Few F ∧ Dt H v (rqD p r) ∧ okRq r ∧ Fin1 Q H a0 F α (due F p r)
theorem rq_of {H : Hp} {v : V} {p : List Int} {r : Rq} (h : Dt H v (rqD p r)) : ∃ a y rs, v = .ref a ∧ H a = some (.tup (.str (rqW r) :: y :: rs)) ∧ PathV H y p ∧ DtAll H rs (rqP r) := by
  cases h with
  | @tup a xs ds ha hs =>
    match xs, hs with
    | x :: y :: rs, .cons h1 (.cons h2 h3) =>
      cases h1
      exact ⟨a, y, rs, rfl, ha, path_of h2, h3⟩
section
variable {P : Program} {w : World} {K : PySem.W.Frag} {mg : Str → Option Value} {base : Heap} {A_PARTS : Addr}
abbrev s_ask : Stmt := topS 22
abbrev ns_ask : List Str := ["tree", "request", "word", "path", "parts", "part"]
theorem sc_ask : FnScope ns_ask ["tree", "request"] (defScope s_ask) := ⟨rfl, rfl, rfl, by decide +kernel, rfl, by decide +kernel, by decide +kernel⟩

theorem ok_ask {f : Addr} {fd : FuncData} (F : Fun K "ask" "ask" s_ask f fd) (T : Txt K mg  w A_PARTS) (D_make : Dfn P w K mg base CX0 3 "_make" ["tree", "path", "kind"] spMake) (D_part_at : Dfn P w K mg base CX0 2 "part_at" ["tree", "path"] spAt) (D_drop : Dfn P w K mg base CX0 3 "_drop" ["tree", "path", "part"] spDrop) (D_list : Dfn P w K mg base CX0 2 "_list" ["part"] spLst) (D_is_directory : Dfn P w K mg base CX0 1 "is_directory" ["part"] spIsDir) (D_ask_file : Dfn P w K mg base CX0 2 "_ask_file" ["words", "word", "parts"] spAskFile) : FnOk P w K mg base CX0 4 f fd ["tree", "request"] spAsk := by
  refine F.ok sc_ask (fun vs H Q E h => ?_) (fun cdv A outer s H vs Q E hr h => ?_)
  · obtain ⟨a0, F, α, v, p, r, rfl, _⟩ := h
    rfl
  · obtain ⟨a0, Fm, α, v, p, r, rfl, t, few, hd, okr, k⟩ := h
    refine ⟨_, (pss_cons (ps_par3 (i := 2) (j := 3) (l := 4) (by rfl) sc_ask.nd rfl rfl rfl (by decide) (by decide) (by decide) rfl rfl rfl (pa_cons (pe_ix (kIxT K) (pv 1) pe_int (fun _ _ => rfl)) (pa_cons (pe_ix (kIxT K) (pv 1) pe_int (fun _ _ => rfl)) (pa_cons (pe_slice (kSlT K) (pv 1) (po_some pe_int) po_none) pa_nil))) (by rfl))
  (pss_cons (ps_if (pt_cmpR op_eq (pv 2) pe_str (nomark _)) (pss_one (ps_ret (pe_dcall D_make (hr.mono (by decide)) (by rfl) pass0 (pa_cons (pv 0) (pa_cons (pv 3) (pa_cons (pe_ix (kIxT K) (pv 4) pe_int (fun _ _ => rfl)) pa_nil)))))) pss_nil)
  (pss_cons (ps_set (i := 5) sc_ask.nd rfl (Or.inl rfl) (pe_dcall D_part_at (hr.mono (by decide)) (by rfl) pass0 (pa_cons (pv 0) (pa_cons (pv 3) pa_nil))))
  (pss_cons (ps_if (pt_cmpR op_isN (pv 5) pe_non (nomark _)) (pss_one (ps_ret (pe_tup (pa_cons pe_str (pa_cons pe_str pa_nil))))) pss_nil)
  (pss_cons (ps_if (pt_cmpR op_eq (pv 2) pe_str (nomark _)) (pss_one (ps_ret (pe_dcall D_drop (hr.mono (by decide)) (by rfl) pass0 (pa_cons (pv 0) (pa_cons (pv 3) (pa_cons (pv 5) pa_nil)))))) pss_nil)
  (pss_cons (ps_if (pt_cmpR op_eq (pv 2) pe_str (nomark _)) (pss_one (ps_ret (pe_dcall D_list (hr.mono (by decide)) (by rfl) pass0 (pa_cons (pv 5) pa_nil)))) pss_nil)
  (pss_cons (ps_if (pt_val (pe_dcall D_is_directory (hr.mono (by decide)) (by rfl) pass0 (pa_cons (pv 5) pa_nil))) (pss_one (ps_ret (pe_tup (pa_cons pe_str (pa_cons pe_str pa_nil))))) pss_nil)
  (pss_one (ps_ret (pe_dcall D_ask_file (hr.mono (by decide)) (by rfl) pass0 (pa_cons (pe_dget (units1 hr) (pv 5) pe_str (fun _ _ => rfl)) (pa_cons (pv 2) (pa_cons (pv 4) pa_nil))))))))))))), ?_⟩
    obtain ⟨a, y, rs, rfl, ha, hy, hrs⟩ := rq_of hd
    refine ⟨_, rfl, _, _, _, _, rfl, rfl, SqT.of ha, atC 0 rfl rfl, _, rfl, _, _, _, _, rfl, rfl, SqT.of ha, atC 1 rfl rfl, _, rfl, _, rfl, a, _, rfl, SqT.of ha, fun h => absurd h.1 (sl2 _ _ _), fun _ q hq => ?_⟩
    rw [cut2]
    have s1 := Same.new (o := .tup rs) hq
    have hqs : (upd H q (.tup rs)) q = some (.tup rs) := upd_same
    generalize upd H q (.tup rs) = H1 at s1 hqs
    have t1 := t.same s1
    have hy1 := hy.same s1
    have k1 := k.at s1
    have hp1 : Dt H1 (.ref q) (.tuple (rqP r)) := .tup hqs (hrs.same s1)
    refine ⟨_, _, _, rfl, ?_⟩
    have fwd : ∀ (r : Rq), isFileRq r → due Fm p r = dueFile Fm p (fileG Fm p r) ∧ ¬ V.str (rqW r) = V.str "make" ∧ ¬ V.str (rqW r) = V.str "drop" ∧ ¬ V.str (rqW r) = V.str "list" := fun r h => by
      cases r with
      | make b => exact h.elim
      | drop => exact h.elim
      | list => exact h.elim
      | put _ _ => exact ⟨rfl, strNe (show (("put" : Str)) ≠ "make" by decide +kernel), strNe (show (("put" : Str)) ≠ "drop" by decide +kernel), strNe (show (("put" : Str)) ≠ "list" by decide +kernel)⟩
      | get _ _ => exact ⟨rfl, strNe (show (("get" : Str)) ≠ "make" by decide +kernel), strNe (show (("get" : Str)) ≠ "drop" by decide +kernel), strNe (show (("get" : Str)) ≠ "list" by decide +kernel)⟩
      | shrink _ => exact ⟨rfl, strNe (show (("shrink" : Str)) ≠ "make" by decide +kernel), strNe (show (("shrink" : Str)) ≠ "drop" by decide +kernel), strNe (show (("shrink" : Str)) ≠ "list" by decide +kernel)⟩
      | size => exact ⟨rfl, strNe (show (("size" : Str)) ≠ "make" by decide +kernel), strNe (show (("size" : Str)) ≠ "drop" by decide +kernel), strNe (show (("size" : Str)) ≠ "list" by decide +kernel)⟩
    have cs : (∃ b, r = .make b) ∨ r = .drop ∨ r = .list ∨ isFileRq r := by
      cases r with
      | make b => exact .inl ⟨b, rfl⟩
      | drop => exact .inr (.inl rfl)
      | list => exact .inr (.inr (.inl rfl))
      | _ => exact .inr (.inr (.inr trivial))
    rcases cs with ⟨b, rfl⟩ | rfl | rfl | isf
    · cases hrs with
      | cons h1 h2 =>
        cases h2
        cases h1
        refine ⟨_, rfl, rfl, _, rfl, iteT ?_⟩
        exact ⟨_, rfl, _, rfl, _, rfl, _, _, _, _, rfl, rfl, SqT.of hqs, atC 0 rfl rfl, a0, Fm, α, y, p, b, rfl, t1, few, hy1, k1⟩
    · refine ⟨_, rfl, rfl, _, rfl, iteF ⟨_, rfl, _, rfl, a0, Fm, α, y, p, rfl, t1, hy1, ?_⟩⟩
      have k2 : Fin1 Q H1 a0 Fm α (dueDrop Fm p) := k1
      cases e : Fm p with
      | none =>
        rw [show partV Fm α p = .non by unfold partV; rw [e]; rfl]
        have nn : p ≠ [] := fun z => by
          obtain ⟨ns, h0⟩ := t.top
          rw [← z, e] at h0
          cases h0
        rw [dueDrop_none nn e] at k2
        refine ⟨_, rfl, rfl, _, rfl, iteT ⟨szl rfl, fun q hq => ?_⟩⟩
        exact Fin1.stay t1 k2 (Same.new hq) (Dt.tup upd_same (.cons (.str _) (.cons (.str _) .nil)))
      | some x =>
        rw [show partV Fm α p = .ref (α.nd p) by unfold partV; rw [e]; rfl]
        refine ⟨_, rfl, rfl, _, rfl, iteF ⟨_, rfl, rfl, _, rfl, iteT ?_⟩⟩
        exact ⟨_, rfl, _, rfl, _, rfl, a0, Fm, α, y, p, rfl, t1, hy1, by rw [e]; rfl, k2⟩
    · refine ⟨_, rfl, rfl, _, rfl, iteF ⟨_, rfl, _, rfl, a0, Fm, α, y, p, rfl, t1, hy1, ?_⟩⟩
      have k2 : Fin1 Q H1 a0 Fm α (dueList Fm p) := k1
      cases e : Fm p with
      | none =>
        rw [show partV Fm α p = .non by unfold partV; rw [e]; rfl]
        rw [dueList_none e] at k2
        refine ⟨_, rfl, rfl, _, rfl, iteT ⟨szl rfl, fun q hq => ?_⟩⟩
        exact Fin1.stay t1 k2 (Same.new hq) (Dt.tup upd_same (.cons (.str _) (.cons (.str _) .nil)))
      | some x =>
        rw [show partV Fm α p = .ref (α.nd p) by unfold partV; rw [e]; rfl]
        refine ⟨_, rfl, rfl, _, rfl, iteF ⟨_, rfl, rfl, _, rfl, iteF ⟨_, rfl, rfl, _, rfl, iteT ?_⟩⟩⟩
        refine ⟨_, rfl, a0, Fm, α, p, rfl, t1, fun ⟨ws, z⟩ r H' s h => ?_, fun ns z r H' ys hp hsd s h => ?_, by rw [e]; rfl⟩
        · rw [dueList_file z] at k2
          exact Fin1.stay t1 k2 s h
        · rw [dueList_dir z] at k2
          obtain ⟨_, _, h3, _, h5⟩ := t1.dir _ _ z
          have es : lsOf Fm p = ys := lsOf_eq ⟨le_strict hsd (hp.nodup_iff.mpr h3), fun n => by rw [hp.mem_iff]; exact h5 n⟩
          rw [es] at k2
          exact Fin1.stay t1 k2 s h
    · obtain ⟨ed, nm, nd, nl⟩ := fwd r isf
      rw [ed] at k1
      refine ⟨_, rfl, rfl, _, rfl, iteD (fun z => absurd z nm) fun _ => ⟨_, rfl, _, rfl, a0, Fm, α, y, p, rfl, t1, hy1, ?_⟩⟩
      cases e : Fm p with
      | none =>
        rw [show partV Fm α p = .non by unfold partV; rw [e]; rfl]
        rw [dueFile_none e] at k1
        refine ⟨_, rfl, rfl, _, rfl, iteT ⟨szl rfl, fun q hq => ?_⟩⟩
        exact Fin1.stay t1 k1 (Same.new hq) (Dt.tup upd_same (.cons (.str _) (.cons (.str _) .nil)))
      | some x =>
        rw [show partV Fm α p = .ref (α.nd p) by unfold partV; rw [e]; rfl]
        refine ⟨_, rfl, rfl, _, rfl, iteF ⟨_, rfl, rfl, _, rfl, iteD (fun z => absurd z nd) fun _ => ⟨_, rfl, rfl, _, rfl, iteD (fun z => absurd z nl) fun _ => ?_⟩⟩⟩
        cases x with
        | dir ns =>
          rw [dueFile_dir e] at k1
          obtain ⟨h1, h2, _⟩ := t1.dir _ _ e
          refine ⟨_, rfl, _, _, rfl, h1, _, rfl, ?_⟩
          rw [show valV [(kN, V.ref (α.inn p))] kN = some (.ref (α.inn p)) from valV_pos rfl]
          refine iteT ⟨szl rfl, fun q hq => ?_⟩
          exact Fin1.stay t1 k1 (Same.new hq) (Dt.tup upd_same (.cons (.str _) (.cons (.str _) .nil)))
        | file ws =>
          rw [dueFile_file e] at k1
          obtain ⟨h1, h2, _⟩ := t1.file _ _ e
          refine ⟨_, rfl, _, _, rfl, h1, _, rfl, ?_⟩
          rw [show valV [(kW, V.ref (α.inn p))] kN = none by rw [valV_neg kWN]; rfl]
          refine iteF ?_
          have dg := DGet.k (k := kW) h1
          rw [show valV [(kW, V.ref (α.inn p))] kW = some (.ref (α.inn p)) from valV_pos rfl] at dg
          exact ⟨_, rfl, _, _, rfl, dg, _, rfl, _, rfl, a0, Fm, α, _, p, r, ws, rfl, t1, e, hp1, okr, isf, k1⟩
end
end My

namespace My
open PySem L2
local macro_rules | `(tactic| walk_at "ne") => `(tactic| first | assumption | exact Ne.symm (by assumption) | exact ne_of_none (by assumption) (by assumption) | exact Ne.symm (ne_of_none (by assumption) (by assumption)))
local macro_rules | `(tactic| walk_at "hp") => `(tactic| first | assumption | with_reducible exact upd_same | (with_reducible refine Eq.trans (upd_ne ?_) ?_; rotate_left; walk_at "hp"; walk_at "ne"))
local macro_rules | `(tactic| walk_at "cnd") => `(tactic| first | omega | (show (0 : Int) < _; omega) | exact ⟨by omega, by omega⟩ | exact Or.inl ⟨by omega, by omega⟩ | exact Or.inr ⟨by omega, by omega⟩ | exact ⟨by omega, by omega, by decide⟩ | exact ⟨by omega, by omega, by omega⟩)
local macro_rules | `(tactic| walk_at "at") => `(tactic| first | exact atC 0 rfl rfl | exact atC 1 rfl rfl | exact atC 2 rfl rfl | exact atC 3 rfl rfl | exact atC 4 rfl rfl | exact atC 5 rfl rfl | exact atC 6 rfl rfl | exact atC 7 rfl rfl)
local macro_rules | `(tactic| walk_at "ix") => `(tactic| first | exact ixC 0 rfl (Nat.le_of_ble_eq_true rfl) | exact ixC 1 rfl (Nat.le_of_ble_eq_true rfl) | exact ixC 2 rfl (Nat.le_of_ble_eq_true rfl) | exact ixC 3 rfl (Nat.le_of_ble_eq_true rfl) | exact ixC 4 rfl (Nat.le_of_ble_eq_true rfl) | exact ixC 5 rfl (Nat.le_of_ble_eq_true rfl))
local macro_rules | `(tactic| walk_at "st") => `(tactic| first
  | refine ⟨_, rfl, ?_⟩
  | refine ⟨_, _, rfl, rfl, (by walk_at "cnd" : (_ : Prop)), ?_⟩
  | refine ⟨_, _, rfl, rfl, ?_⟩
  | refine ⟨rfl, ?_⟩
  | refine Or.inl ⟨_, rfl, ?_⟩
  | refine ⟨_, _, _, _, rfl, rfl, by exact SqL.of (by walk_at "hp"), by walk_at "at", ?_⟩
  | refine ⟨_, _, _, _, rfl, rfl, by exact SqT.of (by walk_at "hp"), by walk_at "at", ?_⟩
  | refine ⟨_, _, _, _, rfl, rfl, by walk_at "hp", by walk_at "ix", ?_⟩
  | refine ⟨_, _, rfl, Or.inl (by exact SqL.of (by walk_at "hp")), ?_⟩
  | refine ⟨_, _, rfl, Or.inr (by exact SqT.of (by walk_at "hp")), ?_⟩)
local macro_rules | `(tactic| walk_at "so") => `(tactic| first
  | refine ⟨_, _, _, _, _, rfl, by walk_at "hp", by assumption, by assumption, rfl, ?_⟩
  | refine ⟨_, _, _, _, rfl, by walk_at "hp", by assumption, by assumption, Nat.le_of_ble_eq_true rfl, ?_⟩
  | refine ⟨_, _, _, rfl, by walk_at "hp", rfl, ?_⟩
  | walk_at "st")
local macro_rules | `(tactic| walk_at "ro") => `(tactic| repeat walk_at "so")
local macro_rules | `(tactic| walk_at "run") => `(tactic| repeat walk_at "st")

/-! ### streams -/
abbrev Deed := List Int × Rq
def isDeed : Rq → Prop
  | .make _ => True
  | .put _ _ => True
  | .shrink _ => True
  | .drop => True
  | _ => False
def encK : Rq → Int
  | .make b => if b = true then 2 else 1
  | .put _ _ => 3
  | .shrink _ => 4
  | _ => 5
def encR : Rq → List Int
  | .put off ws => (off : Int) :: (ws.length : Int) :: ws
  | .shrink a => [(a : Int)]
  | _ => []
def enc (d : Deed) : List Int := encK d.2 :: (d.1.length : Int) :: (d.1 ++ encR d.2)
theorem enc_pos (d : Deed) : 2 ≤ (enc d).length := by unfold enc; simp
theorem encK_ne (r : Rq) : encK r ≠ 0 := by
  cases r with
  | make b => cases b <;> decide
  | put _ _ => exact (by decide : (3 : Int) ≠ 0)
  | shrink _ => exact (by decide : (4 : Int) ≠ 0)
  | _ => exact (by decide : (5 : Int) ≠ 0)
def cnt : List Int → Option (List Int)
  | [] => none
  | c :: r => if c ≤ (r.length : Int) then some (r.take c.toNat) else none
def decD (n : Int) (s : List Int) : Option Deed :=
  match cnt s with
  | none => none
  | some p => if n = 1 ∨ n = 2 then some (p, .make (decide (n = 2))) else if n = 5 then some (p, .drop) else
    match s.drop (1 + p.length) with
    | [] => none
    | x :: r => if n = 4 then some (p, .shrink x.toNat) else
      match cnt r with
      | none => none
      | some ws => if n = 3 then some (p, .put x.toNat ws) else none
def goodD (d : Deed) : Bool := isReq (rqD d.1 d.2)
def decA : Nat → List Int → Option (List Deed)
  | _, [] => some []
  | 0, _ :: _ => none
  | k + 1, n :: s => if n = 0 then decA k s else
    match decD n s with
    | none => none
    | some d => if goodD d = true then (decA k ((n :: s).drop (enc d).length)).map (d :: ·) else none
theorem decA_fuel : ∀ (k : Nat) (s : List Int), s.length ≤ k → ∀ j, s.length ≤ j → decA k s = decA j s
  | 0, [], _, j, _ => by cases j <;> rfl
  | 0, _ :: _, h, _, _ => by simp at h
  | k + 1, [], _, j, _ => by cases j <;> rfl
  | k + 1, n :: s, h, 0, h' => by simp at h'
  | k + 1, n :: s, h, j + 1, h' => by
    have h1 : s.length ≤ k := by simpa using h
    have h2 : s.length ≤ j := by simpa using h'
    unfold decA
    by_cases e : n = 0
    · rw [if_pos e, if_pos e]
      exact decA_fuel k s h1 j h2
    · rw [if_neg e, if_neg e]
      cases decD n s with
      | none => rfl
      | some d =>
        dsimp only
        have := enc_pos d
        have l : ((n :: s).drop (enc d).length).length ≤ s.length := by rw [List.length_drop, List.length_cons]; omega
        rw [decA_fuel k _ (by omega) j (by omega)]
def dec (s : List Int) : Option (List Deed) := decA s.length s
theorem dec_nil : dec [] = some [] := rfl
theorem dec_zero (s : List Int) : dec (0 :: s) = dec s := by
  show decA (s.length + 1) (0 :: s) = decA s.length s
  unfold decA
  rw [if_pos rfl]
  cases s <;> rfl
theorem dec_cons {n : Int} (h : n ≠ 0) (s : List Int) : dec (n :: s) = match decD n s with
    | none => none
    | some d => if goodD d = true then (dec ((n :: s).drop (enc d).length)).map (d :: ·) else none := by
  have e0 : dec (n :: s) = decA (s.length + 1) (n :: s) := rfl
  rw [e0]
  show (if n = 0 then decA s.length s else _) = _
  rw [if_neg h]
  cases e : decD n s with
  | none => rfl
  | some d =>
    dsimp only
    have := enc_pos d
    rw [decA_fuel s.length _ (by rw [List.length_drop, List.length_cons]; omega) ((n :: s).drop (enc d).length).length (Nat.le_refl _)]
    rfl
theorem cnt_app (p s : List Int) : cnt ((p.length : Int) :: (p ++ s)) = some p := by
  unfold cnt
  dsimp only
  rw [if_pos (by rw [List.length_append]; omega), Int.toNat_natCast, List.take_left]
theorem decD_enc (d : Deed) (s : List Int) (h : isDeed d.2) : decD (encK d.2) ((d.1.length : Int) :: (d.1 ++ encR d.2 ++ s)) = some d := by
  obtain ⟨p, r⟩ := d
  unfold decD
  rw [List.append_assoc, cnt_app]
  dsimp only
  have ed : ((p.length : Int) :: (p ++ (encR r ++ s))).drop (1 + p.length) = encR r ++ s := by
    rw [Nat.add_comm, List.drop_succ_cons, List.drop_left]
  rw [ed]
  cases r with
  | make b =>
    cases b with
    | true => rw [if_pos (.inr rfl)]; rfl
    | false => rw [if_pos (.inl rfl)]; rfl
  | drop =>
    rw [show encK Rq.drop = 5 from rfl, if_neg (by decide), if_pos rfl]
  | shrink a =>
    rw [show encK (Rq.shrink a) = 4 from rfl, if_neg (by decide), if_neg (by decide)]
    show (if (4 : Int) = 4 then some (p, Rq.shrink ((a : Int)).toNat) else _) = _
    rw [if_pos rfl, Int.toNat_natCast]
  | put off ws =>
    rw [show encK (Rq.put off ws) = 3 from rfl, if_neg (by decide), if_neg (by decide)]
    show (if (3 : Int) = 4 then _ else match cnt ((ws.length : Int) :: (ws ++ s)) with
      | none => none
      | some ws => if (3 : Int) = 3 then some (p, Rq.put ((off : Int)).toNat ws) else none) = _
    rw [if_neg (by decide), cnt_app]
    dsimp only
    rw [if_pos rfl, Int.toNat_natCast]
  | get a n => exact h.elim
  | size => exact h.elim
  | list => exact h.elim
theorem dec_enc {d : Deed} (h : isDeed d.2) (g : goodD d = true) (s : List Int) : dec (enc d ++ s) = (dec s).map (d :: ·) := by
  have e : enc d ++ s = encK d.2 :: ((d.1.length : Int) :: (d.1 ++ encR d.2 ++ s)) := rfl
  rw [e, dec_cons (encK_ne _), decD_enc d s h]
  dsimp only
  rw [if_pos g, ← e, List.drop_left]
theorem dec_zeros (s : List Int) : ∀ k : Nat, dec (List.replicate k 0 ++ s) = dec s
  | 0 => rfl
  | k + 1 => by rw [List.replicate_succ, List.cons_append, dec_zero, dec_zeros s k]
theorem dec_flat {ds : List Deed} (h : ∀ d ∈ ds, isDeed d.2 ∧ goodD d = true) (s : List Int) : dec (ds.flatMap enc ++ s) = (dec s).map (ds ++ ·) := by
  induction ds with
  | nil => simp
  | cons d ds ih =>
    rw [List.flatMap_cons, List.append_assoc, dec_enc (h d List.mem_cons_self).1 (h d List.mem_cons_self).2, ih fun e he => h e (List.mem_cons_of_mem _ he)]
    cases dec s <;> rfl
/-! ### words -/
def Wd (x : Int) : Prop := 0 ≤ x ∧ x ≤ 4294967295
def Wds (s : List Int) : Prop := ∀ x ∈ s, Wd x
theorem Wds.app {s t : List Int} (h1 : Wds s) (h2 : Wds t) : Wds (s ++ t) := fun x hx => by
  rcases List.mem_append.mp hx with z | z
  · exact h1 x z
  · exact h2 x z
theorem Wds.sub {s t : List Int} (h : Wds s) (e : ∀ x ∈ t, x ∈ s) : Wds t := fun x hx => h x (e x hx)
theorem isNm_wd {x : Int} (h : Wd x) : isNm (.int x) = decide (x ≠ 0) := by
  show (decide ((1 : Int) ≤ x) && decide (x ≤ 4294967295)) = _
  rw [decide_eq_true h.2, Bool.and_true]
  have := h.1
  by_cases e : x = 0
  · rw [e]; rfl
  · rw [decide_eq_true (show (1 : Int) ≤ x by omega), decide_eq_true e]
theorem isPath_wds {p : List Int} (h : Wds p) : isPath (pthD p) = p.all fun x => decide (x ≠ 0) := by
  show (p.map PyData.int).all isNm = _
  rw [List.all_map]
  induction p with
  | nil => rfl
  | cons x p ih =>
    rw [List.all_cons, List.all_cons, ih fun y hy => h y (List.mem_cons_of_mem _ hy)]
    show (isNm (.int x) && _) = _
    rw [isNm_wd (h x List.mem_cons_self)]
theorem good_make {p : List Int} {b : Bool} (h : Wds p) : goodD (p, .make b) = p.all fun x => decide (x ≠ 0) := by
  show (isPath (pthD p) && pKind [.str (kindS b)]) = _
  rw [isPath_wds h]
  have : pKind [.str (kindS b)] = true := by cases b <;> decide +kernel
  rw [this, Bool.and_true]
theorem good_drop {p : List Int} (h : Wds p) : goodD (p, .drop) = p.all fun x => decide (x ≠ 0) := by
  show (isPath (pthD p) && pNone []) = _
  rw [isPath_wds h]
  exact Bool.and_true _
theorem num_nat (a : Nat) : isNum (.int (a : Int)) = decide (a ≤ 48) := by
  show (decide ((0 : Int) ≤ a) && decide ((a : Int) ≤ 48)) = _
  rw [decide_eq_true (show (0 : Int) ≤ a by omega), Bool.true_and]
  exact decide_eq_decide.mpr (by omega)
theorem good_shrink {p : List Int} {a : Nat} (h : Wds p) : goodD (p, .shrink a) = ((p.all fun x => decide (x ≠ 0)) && decide (a ≤ 48)) := by
  show (isPath (pthD p) && isNum (.int (a : Int))) = _
  rw [isPath_wds h, num_nat]
theorem good_put {p ws : List Int} {a : Nat} (h : Wds p) (hw : Wds ws) : goodD (p, .put a ws) = ((p.all fun x => decide (x ≠ 0)) && (decide (a ≤ 48) && decide (1 ≤ ws.length ∧ ws.length ≤ 48))) := by
  show (isPath (pthD p) && (isNum (.int (a : Int)) && (decide (1 ≤ (ws.map PyData.int).length ∧ (ws.map PyData.int).length ≤ 48) && (ws.map PyData.int).all fun d => isI d 0 4294967295))) = _
  rw [isPath_wds h, num_nat, List.length_map]
  have : (ws.map PyData.int).all (fun d => isI d 0 4294967295) = true := by
    rw [List.all_eq_true]
    intro d hd
    obtain ⟨n, hn, rfl⟩ := List.mem_map.mp hd
    obtain ⟨g1, g2⟩ := hw n hn
    show (decide ((0 : Int) ≤ n) && decide (n ≤ 4294967295)) = true
    rw [decide_eq_true g1, decide_eq_true g2]; rfl
  rw [this, Bool.and_true]
theorem cnt_sub {s p : List Int} (h : cnt s = some p) : ∃ c r, s = c :: r ∧ c ≤ (r.length : Int) ∧ p = r.take c.toNat := by
  cases s with
  | nil => cases h
  | cons c r =>
    unfold cnt at h
    dsimp only at h
    by_cases e : c ≤ (r.length : Int)
    · rw [if_pos e] at h
      exact ⟨c, r, rfl, e, (Option.some.inj h).symm⟩
    · rw [if_neg e] at h; cases h
end My

namespace My
open PySem L2
local macro_rules | `(tactic| walk_at "ne") => `(tactic| first | assumption | exact Ne.symm (by assumption) | exact ne_of_none (by assumption) (by assumption) | exact Ne.symm (ne_of_none (by assumption) (by assumption)))
local macro_rules | `(tactic| walk_at "hp") => `(tactic| first | assumption | with_reducible exact upd_same | (with_reducible refine Eq.trans (upd_ne ?_) ?_; rotate_left; walk_at "hp"; walk_at "ne"))
local macro_rules | `(tactic| walk_at "cnd") => `(tactic| first | omega | (show (0 : Int) < _; omega) | exact ⟨by omega, by omega⟩ | exact Or.inl ⟨by omega, by omega⟩ | exact Or.inr ⟨by omega, by omega⟩ | exact ⟨by omega, by omega, by decide⟩ | exact ⟨by omega, by omega, by omega⟩)
local macro_rules | `(tactic| walk_at "at") => `(tactic| first | exact atC 0 rfl rfl | exact atC 1 rfl rfl | exact atC 2 rfl rfl | exact atC 3 rfl rfl | exact atC 4 rfl rfl | exact atC 5 rfl rfl | exact atC 6 rfl rfl | exact atC 7 rfl rfl)
local macro_rules | `(tactic| walk_at "ix") => `(tactic| first | exact ixC 0 rfl (Nat.le_of_ble_eq_true rfl) | exact ixC 1 rfl (Nat.le_of_ble_eq_true rfl) | exact ixC 2 rfl (Nat.le_of_ble_eq_true rfl) | exact ixC 3 rfl (Nat.le_of_ble_eq_true rfl) | exact ixC 4 rfl (Nat.le_of_ble_eq_true rfl) | exact ixC 5 rfl (Nat.le_of_ble_eq_true rfl))
local macro_rules | `(tactic| walk_at "st") => `(tactic| first
  | refine ⟨_, rfl, ?_⟩
  | refine ⟨_, _, rfl, rfl, (by walk_at "cnd" : (_ : Prop)), ?_⟩
  | refine ⟨_, _, rfl, rfl, ?_⟩
  | refine ⟨rfl, ?_⟩
  | refine Or.inl ⟨_, rfl, ?_⟩
  | refine ⟨_, _, _, _, rfl, rfl, by exact SqL.of (by walk_at "hp"), by walk_at "at", ?_⟩
  | refine ⟨_, _, _, _, rfl, rfl, by exact SqT.of (by walk_at "hp"), by walk_at "at", ?_⟩
  | refine ⟨_, _, _, _, rfl, rfl, by walk_at "hp", by walk_at "ix", ?_⟩
  | refine ⟨_, _, rfl, Or.inl (by exact SqL.of (by walk_at "hp")), ?_⟩
  | refine ⟨_, _, rfl, Or.inr (by exact SqT.of (by walk_at "hp")), ?_⟩)
local macro_rules | `(tactic| walk_at "so") => `(tactic| first
  | refine ⟨_, _, _, _, _, rfl, by walk_at "hp", by assumption, by assumption, rfl, ?_⟩
  | refine ⟨_, _, _, _, rfl, by walk_at "hp", by assumption, by assumption, Nat.le_of_ble_eq_true rfl, ?_⟩
  | refine ⟨_, _, _, rfl, by walk_at "hp", rfl, ?_⟩
  | walk_at "st")
local macro_rules | `(tactic| walk_at "ro") => `(tactic| repeat walk_at "so")
local macro_rules | `(tactic| walk_at "run") => `(tactic| repeat walk_at "st")

theorem r_catI {H : Hp} {l b : Addr} {xs zs : List Int} {Q : VK} (h1 : H l = some (.lst (xs.map V.int))) (h2 : H b = some (.lst (zs.map V.int))) (hz : xs.length + zs.length ≤ 100000) (k : ∀ p H', Same H H' → H p = none → H' p = some (.lst ((xs ++ zs).map V.int)) → Q (.ref p) H') : rCat (.ref l) (.ref b) H Q :=
  ⟨l, b, _, _, rfl, rfl, h1, h2, szn (by rw [List.length_map, List.length_map]; exact hz), fun p hp => by rw [← List.map_append]; exact k p _ (Same.new hp) hp upd_same⟩
/-- the parts of a deed's data -/
def smallD (p : List Int) : Rq → Prop
  | .put _ ws => p.length ≤ 5000 ∧ ws.length ≤ 5000
  | _ => p.length ≤ 5000
theorem smallD.path {p : List Int} {r : Rq} (h : smallD p r) : p.length ≤ 5000 := by
  cases r with
  | put off ws => exact h.1
  | _ => exact h
def spWritten : Sp := fun vs H Q _ => ∃ (v : V) (p : List Int) (r : Rq), vs = [v] ∧ Dt H v (rqD p r) ∧ isDeed r ∧ smallD p r ∧ ∀ q H', Same H H' → H q = none → H' q = some (.lst ((enc (p, r)).map V.int)) → Q (.ref q) H'
section
variable {P : Program} {w : World} {K : PySem.W.Frag} {mg : Str → Option Value} {base : Heap} {A_PARTS : Addr}
abbrev s_written : Stmt := topS 35
abbrev ns_written : List Str := ["deed", "word", "path", "told"]
theorem sc_written : FnScope ns_written ["deed"] (defScope s_written) := ⟨rfl, rfl, rfl, by decide +kernel, rfl, by decide +kernel, by decide +kernel⟩

theorem ok_written {f : Addr} {fd : FuncData} (F : Fun K "written" "written" s_written f fd) (T : Txt K mg  w A_PARTS) : FnOk P w K mg base CX0 1 f fd ["deed"] spWritten := by
  refine F.ok sc_written (fun vs H Q E h => ?_) (fun cdv A outer s H vs Q E hr h => ?_)
  · obtain ⟨v, p, r, rfl, _⟩ := h
    rfl
  · obtain ⟨v, p, r, rfl, hd, isd, sm, k⟩ := h
    refine ⟨_, (pss_cons (ps_par (i := 1) (j := 2) (by rfl) sc_written.nd rfl rfl (by decide) rfl rfl (pa_cons (pe_ix (kIxT K) (pv 0) pe_int (fun _ _ => rfl)) (pa_cons (pe_ix (kIxT K) (pv 0) pe_int (fun _ _ => rfl)) pa_nil)) (by rfl))
  (pss_cons (ps_set (i := 3) sc_written.nd rfl (Or.inl rfl) (pe_op op_cat (pe_lst (pa_cons (pe_callB (kLen K) (by rfl) T.b_len (by decide +kernel) (pa_cons (pv 2) pa_nil)) pa_nil)) (pe_callTy (kListOf K) (by rfl) T.b_list (by decide +kernel) (pa_cons (pv 2) pa_nil))))
  (pss_cons (ps_if (pt_cmpR op_eq (pv 1) pe_str (nomark _)) (pss_one (ps_ret (pe_op op_cat (pe_lst (pa_cons (pe_ifExp (pt_cmpR op_eq (pe_ix (kIxT K) (pv 0) pe_int (fun _ _ => rfl)) pe_str (nomark _)) (pe_gint (by rfl) T.c__MAKE_DIRECTORY) (pe_gint (by rfl) T.c__MAKE_FILE)) pa_nil)) (pv 3)))) pss_nil)
  (pss_cons (ps_if (pt_cmpR op_eq (pv 1) pe_str (nomark _)) (pss_one (ps_ret (pe_op op_cat (pe_op op_cat (pe_op op_cat (pe_lst (pa_cons (pe_gint (by rfl) T.c__PUT) pa_nil)) (pv 3)) (pe_lst (pa_cons (pe_ix (kIxT K) (pv 0) pe_int (fun _ _ => rfl)) (pa_cons (pe_callB (kLen K) (by rfl) T.b_len (by decide +kernel) (pa_cons (pe_ix (kIxT K) (pv 0) pe_int (fun _ _ => rfl)) pa_nil)) pa_nil)))) (pe_callTy (kListOf K) (by rfl) T.b_list (by decide +kernel) (pa_cons (pe_ix (kIxT K) (pv 0) pe_int (fun _ _ => rfl)) pa_nil))))) pss_nil)
  (pss_cons (ps_if (pt_cmpR op_eq (pv 1) pe_str (nomark _)) (pss_one (ps_ret (pe_op op_cat (pe_op op_cat (pe_lst (pa_cons (pe_gint (by rfl) T.c__SHRINK) pa_nil)) (pv 3)) (pe_lst (pa_cons (pe_ix (kIxT K) (pv 0) pe_int (fun _ _ => rfl)) pa_nil))))) pss_nil)
  (pss_one (ps_ret (pe_op op_cat (pe_lst (pa_cons (pe_gint (by rfl) T.c__DROP) pa_nil)) (pv 3))))))))), ?_⟩
    obtain ⟨ra, y, rs, rfl, hra, hy, hrs⟩ := rq_of hd
    obtain ⟨ya, rfl, hya⟩ := hy
    have pl := sm.path
    refine ⟨_, rfl, _, _, _, _, rfl, rfl, SqT.of hra, atC 0 rfl rfl, _, rfl, _, _, _, _, rfl, rfl, SqT.of hra, atC 1 rfl rfl, _, _, rfl, ?_⟩
    refine ⟨_, rfl, _, _, rfl, .inr (SqT.of hya), szl rfl, fun l1 hl1 => ?_⟩
    have s1 := Same.new (o := .lst [.int ((p.map V.int).length : Nat)]) hl1
    have g1 : (upd H l1 (.lst [.int ((p.map V.int).length : Nat)])) l1 = some (.lst ([(p.length : Int)].map V.int)) := by rw [upd_same, List.length_map]; rfl
    generalize upd H l1 (.lst [.int ((p.map V.int).length : Nat)]) = H1 at s1 g1
    refine ⟨_, rfl, _, _, rfl, .inr (SqT.of (s1 _ _ hya)), fun l2 hl2 => ?_⟩
    have s2 := Same.new (o := .lst (p.map V.int)) hl2
    have g2 : (upd H1 l2 (.lst (p.map V.int))) l2 = some (.lst (p.map V.int)) := upd_same
    generalize upd H1 l2 (.lst (p.map V.int)) = H2 at s2 g2
    refine r_catI (s2 _ _ g1) g2 (by simp; omega) fun tl H3 s3 ht0 ht => ?_
    have s03 := (s1.trans s2).trans s3
    have fr := (s1.trans s2).free ht0
    have hra3 := s03 _ _ hra
    cases r with
    | get a n => exact isd.elim
    | size => exact isd.elim
    | list => exact isd.elim
    | make b =>
      match rs, hrs with
      | [x1], .cons c1 .nil =>
      cases c1
      refine ⟨_, rfl, rfl, _, rfl, iteT ?_⟩
      have hfin : ∀ z : Int, z = encK (.make b) → ∀ l4, H3 l4 = none → rCat (.ref l4) (.ref tl) (upd H3 l4 (.lst [.int z])) Q := fun z hz l4 hl4 => by
        have s4 := Same.new (o := .lst [.int z]) hl4
        refine r_catI (xs := [z]) upd_same (s4 _ _ ht) (by simp; omega) fun q H5 s5 hq0 hq => ?_
        refine k q H5 (s03.trans (s4.trans s5)) ((s03.trans s4).free hq0) ?_
        rw [hq, hz]
        unfold enc
        simp [encR]
      cases b with
      | false => exact ⟨_, rfl, _, _, _, _, rfl, rfl, SqT.of hra3, atC 2 rfl rfl, rfl, _, rfl, iteT ⟨szl rfl, fun l4 hl4 => ⟨_, rfl, hfin 1 rfl l4 hl4⟩⟩⟩
      | true => exact ⟨_, rfl, _, _, _, _, rfl, rfl, SqT.of hra3, atC 2 rfl rfl, rfl, _, rfl, iteF ⟨szl rfl, fun l4 hl4 => ⟨_, rfl, hfin 2 rfl l4 hl4⟩⟩⟩
    | put off ws =>
      match rs, hrs with
      | [x1, x2], .cons c1 (.cons c2 .nil) =>
      cases c1
      obtain ⟨wa, rfl, hwa⟩ := path_of c2
      have wl : ws.length ≤ 5000 := sm.2
      refine ⟨_, rfl, rfl, _, rfl, iteF ⟨_, rfl, rfl, _, rfl, iteT ⟨szl rfl, fun l4 hl4 => ⟨_, rfl, ?_⟩⟩⟩⟩
      have s4 := Same.new (o := .lst [.int 3]) hl4
      refine r_catI (xs := [3]) upd_same (s4 _ _ ht) (by simp; omega) fun l5 H5 s5 hl5 g5 => ?_
      have s05 := s03.trans (s4.trans s5)
      refine ⟨_, rfl, _, _, _, _, rfl, rfl, SqT.of (s05 _ _ hra), atC 2 rfl rfl, _, rfl, _, _, _, _, rfl, rfl, SqT.of (s05 _ _ hra), atC 3 rfl rfl, _, _, rfl, .inr (SqT.of (s05 _ _ hwa)), szl rfl, fun l6 hl6 => ?_⟩
      have s6 := Same.new (o := .lst [.int (off : Int), .int ((ws.map V.int).length : Nat)]) hl6
      have g6 : (upd H5 l6 (.lst [.int (off : Int), .int ((ws.map V.int).length : Nat)])) l6 = some (.lst ([(off : Int), (ws.length : Int)].map V.int)) := by rw [upd_same, List.length_map]; rfl
      generalize upd H5 l6 (.lst [.int (off : Int), .int ((ws.map V.int).length : Nat)]) = H6 at s6 g6
      refine r_catI (s6 _ _ g5) g6 (by simp; omega) fun l7 H7 s7 hl7 g7 => ?_
      have s07 := (s05.trans s6).trans s7
      refine ⟨_, rfl, _, _, _, _, rfl, rfl, SqT.of (s07 _ _ hra), atC 3 rfl rfl, _, _, rfl, .inr (SqT.of (s07 _ _ hwa)), fun l8 hl8 => ?_⟩
      have s8 := Same.new (o := .lst (ws.map V.int)) hl8
      refine r_catI (s8 _ _ g7) upd_same (by simp; omega) fun q H9 s9 hq0 hq => ?_
      refine k q H9 (s07.trans (s8.trans s9)) ((s07.trans s8).free hq0) ?_
      rw [hq]
      unfold enc
      simp [encR, encK]
    | shrink n =>
      match rs, hrs with
      | [x1], .cons c1 .nil =>
      cases c1
      refine ⟨_, rfl, rfl, _, rfl, iteF ⟨_, rfl, rfl, _, rfl, iteF ⟨_, rfl, rfl, _, rfl, iteT ⟨szl rfl, fun l4 hl4 => ⟨_, rfl, ?_⟩⟩⟩⟩⟩
      have s4 := Same.new (o := .lst [.int 4]) hl4
      refine r_catI (xs := [4]) upd_same (s4 _ _ ht) (by simp; omega) fun l5 H5 s5 hl5 g5 => ?_
      have s05 := s03.trans (s4.trans s5)
      refine ⟨_, rfl, _, _, _, _, rfl, rfl, SqT.of (s05 _ _ hra), atC 2 rfl rfl, szl rfl, fun l6 hl6 => ?_⟩
      have s6 := Same.new (o := .lst [.int (n : Int)]) hl6
      refine r_catI (zs := [(n : Int)]) (s6 _ _ g5) upd_same (by simp; omega) fun q H7 s7 hq0 hq => ?_
      refine k q H7 (s05.trans (s6.trans s7)) ((s05.trans s6).free hq0) ?_
      rw [hq]
      unfold enc
      simp [encR, encK]
    | drop =>
      refine ⟨_, rfl, rfl, _, rfl, iteF ⟨_, rfl, rfl, _, rfl, iteF ⟨_, rfl, rfl, _, rfl, iteF ⟨szl rfl, fun l4 hl4 => ⟨_, rfl, ?_⟩⟩⟩⟩⟩
      have s4 := Same.new (o := .lst [.int 5]) hl4
      refine r_catI (xs := [5]) upd_same (s4 _ _ ht) (by simp; omega) fun q H5 s5 hq0 hq => ?_
      refine k q H5 (s03.trans (s4.trans s5)) ((s03.trans s4).free hq0) ?_
      rw [hq]
      unfold enc
      simp [encR, encK]
end
end My

namespace My
open PySem L2
local macro_rules | `(tactic| walk_at "ne") => `(tactic| first | assumption | exact Ne.symm (by assumption) | exact ne_of_none (by assumption) (by assumption) | exact Ne.symm (ne_of_none (by assumption) (by assumption)))
local macro_rules | `(tactic| walk_at "hp") => `(tactic| first | assumption | with_reducible exact upd_same | (with_reducible refine Eq.trans (upd_ne ?_) ?_; rotate_left; walk_at "hp"; walk_at "ne"))
local macro_rules | `(tactic| walk_at "cnd") => `(tactic| first | omega | (show (0 : Int) < _; omega) | exact ⟨by omega, by omega⟩ | exact Or.inl ⟨by omega, by omega⟩ | exact Or.inr ⟨by omega, by omega⟩ | exact ⟨by omega, by omega, by decide⟩ | exact ⟨by omega, by omega, by omega⟩)
local macro_rules | `(tactic| walk_at "at") => `(tactic| first | exact atC 0 rfl rfl | exact atC 1 rfl rfl | exact atC 2 rfl rfl | exact atC 3 rfl rfl | exact atC 4 rfl rfl | exact atC 5 rfl rfl | exact atC 6 rfl rfl | exact atC 7 rfl rfl)
local macro_rules | `(tactic| walk_at "ix") => `(tactic| first | exact ixC 0 rfl (Nat.le_of_ble_eq_true rfl) | exact ixC 1 rfl (Nat.le_of_ble_eq_true rfl) | exact ixC 2 rfl (Nat.le_of_ble_eq_true rfl) | exact ixC 3 rfl (Nat.le_of_ble_eq_true rfl) | exact ixC 4 rfl (Nat.le_of_ble_eq_true rfl) | exact ixC 5 rfl (Nat.le_of_ble_eq_true rfl))
local macro_rules | `(tactic| walk_at "st") => `(tactic| first
  | refine ⟨_, rfl, ?_⟩
  | refine ⟨_, _, rfl, rfl, (by walk_at "cnd" : (_ : Prop)), ?_⟩
  | refine ⟨_, _, rfl, rfl, ?_⟩
  | refine ⟨rfl, ?_⟩
  | refine Or.inl ⟨_, rfl, ?_⟩
  | refine ⟨_, _, _, _, rfl, rfl, by exact SqL.of (by walk_at "hp"), by walk_at "at", ?_⟩
  | refine ⟨_, _, _, _, rfl, rfl, by exact SqT.of (by walk_at "hp"), by walk_at "at", ?_⟩
  | refine ⟨_, _, _, _, rfl, rfl, by walk_at "hp", by walk_at "ix", ?_⟩
  | refine ⟨_, _, rfl, Or.inl (by exact SqL.of (by walk_at "hp")), ?_⟩
  | refine ⟨_, _, rfl, Or.inr (by exact SqT.of (by walk_at "hp")), ?_⟩)
local macro_rules | `(tactic| walk_at "so") => `(tactic| first
  | refine ⟨_, _, _, _, _, rfl, by walk_at "hp", by assumption, by assumption, rfl, ?_⟩
  | refine ⟨_, _, _, _, rfl, by walk_at "hp", by assumption, by assumption, Nat.le_of_ble_eq_true rfl, ?_⟩
  | refine ⟨_, _, _, rfl, by walk_at "hp", rfl, ?_⟩
  | walk_at "st")
local macro_rules | `(tactic| walk_at "ro") => `(tactic| repeat walk_at "so")
local macro_rules | `(tactic| walk_at "run") => `(tactic| repeat walk_at "st")

def spCounted : Sp := fun vs H Q _ => ∃ (a : Addr) (st : List Int) (i : Nat), vs = [.ref a, .int (i : Int)] ∧ H a = some (.lst (st.map V.int)) ∧ Wds st ∧ st.length ≤ 4000 ∧ i ≤ 10000 ∧ (cnt (st.drop i) = none → Q .non H) ∧ ∀ p, cnt (st.drop i) = some p → ∀ v H', Same H H' → PathV H' v p → Q v H'
def spDeedAt : Sp := fun vs H Q _ => ∃ (a : Addr) (st : List Int) (i : Nat) (n : Int), vs = [.ref a, .int (i : Int)] ∧ H a = some (.lst (st.map V.int)) ∧ Wds st ∧ st.length ≤ 4000 ∧ st[i]? = some n ∧ (decD n (st.drop (i + 1)) = none → ∀ H', Same H H' → Q .non H') ∧ ∀ d, decD n (st.drop (i + 1)) = some d → ∀ v H', Same H H' → Dt H' v (rqD d.1 d.2) → Q v H'
theorem drop_cons {st : List Int} {i : Nat} {n : Int} (h : st[i]? = some n) : st.drop i = n :: st.drop (i + 1) := by
  obtain ⟨hi, e⟩ := List.getElem?_eq_some_iff.mp h
  rw [List.drop_eq_getElem_cons hi, e]
theorem at_int {st : List Int} {i : Nat} {n : Int} (h : st[i]? = some n) : (st.map V.int)[i]? = some (.int n) := by rw [List.getElem?_map, h]; rfl
theorem cut_two (st : List Int) (i k : Nat) : cutV (st.map V.int) (some ((i : Int) + 1)) (some ((i : Int) + 1 + (k : Int))) = ((st.drop (i + 1)).take k).map V.int := by
  have := cut_int st (i + 1) k
  rw [show ((i + 1 : Nat) : Int) = (i : Int) + 1 by omega] at this
  exact this
section
variable {P : Program} {w : World} {K : PySem.W.Frag} {mg : Str → Option Value} {base : Heap} {A_PARTS : Addr}
abbrev s_counted : Stmt := topS 38
abbrev ns_counted : List Str := ["stream", "at"]
theorem sc_counted : FnScope ns_counted ["stream", "at"] (defScope s_counted) := ⟨rfl, rfl, rfl, by decide +kernel, rfl, by decide +kernel, by decide +kernel⟩

theorem ok_counted {f : Addr} {fd : FuncData} (F : Fun K "_counted" "_counted" s_counted f fd) (T : Txt K mg  w A_PARTS) : FnOk P w K mg base CX0 1 f fd ["stream", "at"] spCounted := by
  refine F.ok sc_counted (fun vs H Q E h => ?_) (fun cdv A outer s H vs Q E hr h => ?_)
  · obtain ⟨a, st, i, rfl, _⟩ := h
    rfl
  · obtain ⟨a, st, i, rfl, ha, wd, sl, il, k1, k2⟩ := h
    refine ⟨_, (pss_cons (ps_if (PW.pt (pw_or (pt_cmpR op_ge (pv 1) (pe_callB (kLen K) (by rfl) T.b_len (by decide +kernel) (pa_cons (pv 0) pa_nil)) (nomark _)) (pw_or1 (pt_cmpR op_ge (pe_op op_add (pv 1) (pe_ix (kIxL K) (pv 0) (pv 1) (fun _ _ => rfl))) (pe_callB (kLen K) (by rfl) T.b_len (by decide +kernel) (pa_cons (pv 0) pa_nil)) (nomark _))))) (pss_one (ps_ret pe_non)) pss_nil)
  (pss_one (ps_ret (pe_callTy (kTupOf K) (by rfl) T.b_tuple (by decide +kernel) (pa_cons (pe_slice (kSlL K) (pv 0) (po_some (pe_op op_add (pv 1) pe_int)) (po_some (pe_op op_add (pe_op op_add (pv 1) pe_int) (pe_ix (kIxL K) (pv 0) (pv 1) (fun _ _ => rfl))))) pa_nil))))), ?_⟩
    refine ⟨_, rfl, _, rfl, _, _, rfl, .inl (SqL.of ha), _, _, rfl, rfl, _, rfl, ?_⟩
    rw [List.length_map]
    refine iteD (fun h => iteT ?_) (fun h => ?_)
    · refine k1 ?_
      rw [List.drop_eq_nil_of_le (by omega)]; rfl
    · have hi : i < st.length := by omega
      have hn : st[i]? = some st[i] := List.getElem?_eq_getElem hi
      have hw := wd st[i] (List.getElem_mem hi)
      generalize st[i] = c at hn hw
      have ed := drop_cons hn
      have dl : (st.drop (i + 1)).length = st.length - (i + 1) := List.length_drop
      refine ⟨_, rfl, _, rfl, _, rfl, _, _, _, _, rfl, rfl, SqL.of ha, atC i rfl (at_int hn), _, _, rfl, rfl, _, rfl, _, _, rfl, .inl (SqL.of ha), _, _, rfl, rfl, _, rfl, ?_⟩
      rw [List.length_map]
      refine iteD (fun h2 => ?_) (fun h2 => ?_)
      · refine k1 ?_
        rw [ed]
        unfold cnt
        dsimp only
        rw [if_neg (by rw [dl]; omega)]
      · obtain ⟨m, rfl⟩ := Int.eq_ofNat_of_zero_le hw.1
        refine ⟨_, rfl, _, rfl, _, _, rfl, rfl, _, rfl, _, rfl, _, _, rfl, rfl, _, rfl, _, rfl, _, _, _, _, rfl, rfl, SqL.of ha, atC i rfl (at_int hn), _, _, rfl, rfl, _, rfl, _, _, rfl, SqL.of ha, fun l hl => ?_⟩
        rw [cut_two]
        refine ⟨_, _, rfl, .inl ⟨SqL.of upd_same, fun q hq => ?_⟩⟩
        refine k2 ((st.drop (i + 1)).take m) ?_ _ _ ((Same.new hl).trans (Same.new hq)) ⟨q, rfl, upd_same⟩
        rw [ed]
        unfold cnt
        dsimp only
        rw [if_pos (by rw [dl]; omega), Int.toNat_natCast]
abbrev s_deed_at : Stmt := topS 37
abbrev ns_deed_at : List Str := ["stream", "at", "number", "path", "behind", "words"]
theorem sc_deed_at : FnScope ns_deed_at ["stream", "at"] (defScope s_deed_at) := ⟨rfl, rfl, rfl, by decide +kernel, rfl, by decide +kernel, by decide +kernel⟩

theorem ok_deed_at {f : Addr} {fd : FuncData} (F : Fun K "_deed_at" "_deed_at" s_deed_at f fd) (T : Txt K mg  w A_PARTS) (D_counted : Dfn P w K mg base CX0 1 "_counted" ["stream", "at"] spCounted) : FnOk P w K mg base CX0 2 f fd ["stream", "at"] spDeedAt := by
  refine F.ok sc_deed_at (fun vs H Q E h => ?_) (fun cdv A outer s H vs Q E hr h => ?_)
  · obtain ⟨a, st, i, n, rfl, _⟩ := h
    rfl
  · obtain ⟨a, st, i, n, rfl, ha, wd, sl, hn, k1, k2⟩ := h
    refine ⟨_, (pss_cons (ps_set (i := 2) sc_deed_at.nd rfl (Or.inl rfl) (pe_ix (kIxL K) (pv 0) (pv 1) (fun _ _ => rfl)))
  (pss_cons (ps_set (i := 3) sc_deed_at.nd rfl (Or.inl rfl) (pe_dcall D_counted (hr.mono (by decide)) (by rfl) pass0 (pa_cons (pv 0) (pa_cons (pe_op op_add (pv 1) pe_int) pa_nil))))
  (pss_cons (ps_if (pt_cmpR op_isN (pv 3) pe_non (nomark _)) (pss_one (ps_ret pe_non)) pss_nil)
  (pss_cons (ps_if (PW.pt (pw_or (pt_cmpR op_eq (pv 2) (pe_gint (by rfl) T.c__MAKE_DIRECTORY) (nomark _)) (pw_or1 (pt_cmpR op_eq (pv 2) (pe_gint (by rfl) T.c__MAKE_FILE) (nomark _))))) (pss_one (ps_ret (pe_tup (pa_cons pe_str (pa_cons (pv 3) (pa_cons (pe_ifExp (pt_cmpR op_eq (pv 2) (pe_gint (by rfl) T.c__MAKE_DIRECTORY) (nomark _)) pe_str pe_str) pa_nil)))))) pss_nil)
  (pss_cons (ps_if (pt_cmpR op_eq (pv 2) (pe_gint (by rfl) T.c__DROP) (nomark _)) (pss_one (ps_ret (pe_tup (pa_cons pe_str (pa_cons (pv 3) pa_nil))))) pss_nil)
  (pss_cons (ps_set (i := 4) sc_deed_at.nd rfl (Or.inl rfl) (pe_op op_add (pe_op op_add (pv 1) pe_int) (pe_callB (kLen K) (by rfl) T.b_len (by decide +kernel) (pa_cons (pv 3) pa_nil))))
  (pss_cons (ps_if (pt_cmpR op_ge (pv 4) (pe_callB (kLen K) (by rfl) T.b_len (by decide +kernel) (pa_cons (pv 0) pa_nil)) (nomark _)) (pss_one (ps_ret pe_non)) pss_nil)
  (pss_cons (ps_if (pt_cmpR op_eq (pv 2) (pe_gint (by rfl) T.c__SHRINK) (nomark _)) (pss_one (ps_ret (pe_tup (pa_cons pe_str (pa_cons (pv 3) (pa_cons (pe_ix (kIxL K) (pv 0) (pv 4) (fun _ _ => rfl)) pa_nil)))))) pss_nil)
  (pss_cons (ps_set (i := 5) sc_deed_at.nd rfl (Or.inl rfl) (pe_dcall D_counted (hr.mono (by decide)) (by rfl) pass0 (pa_cons (pv 0) (pa_cons (pe_op op_add (pv 4) pe_int) pa_nil))))
  (pss_cons (ps_if (PW.pt (pw_or (pt_cmpR op_ne (pv 2) (pe_gint (by rfl) T.c__PUT) (nomark _)) (pw_or1 (pt_cmpR op_isN (pv 5) pe_non (nomark _))))) (pss_one (ps_ret pe_non)) pss_nil)
  (pss_one (ps_ret (pe_tup (pa_cons pe_str (pa_cons (pv 3) (pa_cons (pe_ix (kIxL K) (pv 0) (pv 4) (fun _ _ => rfl)) (pa_cons (pv 5) pa_nil))))))))))))))))), ?_⟩
    have hi := (List.getElem?_eq_some_iff.mp hn).1
    refine ⟨_, rfl, _, rfl, _, _, _, _, rfl, rfl, SqL.of ha, atC i rfl (at_int hn), _, rfl, _, rfl, _, _, rfl, rfl, ?_⟩
    refine ⟨a, st, i + 1, by show [V.ref a, V.int ((i : Int) + 1)] = [V.ref a, V.int ((i + 1 : Nat) : Int)]; rw [show (i : Int) + 1 = ((i + 1 : Nat) : Int) by omega], ha, wd, sl, by omega, fun e => ?_, fun p e v1 H1 s1 hp1 => ?_⟩
    · have ed : decD n (st.drop (i + 1)) = none := by unfold decD; rw [e]
      exact ⟨_, rfl, rfl, _, rfl, iteT (k1 ed H (Same.refl H))⟩
    · have pne : ∃ pa, v1 = .ref pa ∧ H1 pa = some (.tup (p.map V.int)) := hp1
      obtain ⟨pa, rfl, hpa⟩ := pne
      have ha1 := s1 _ _ ha
      obtain ⟨c, r0, ec, cl, ep⟩ := cnt_sub e
      have plen : p.length ≤ 4000 := by
        have h1 := congrArg List.length ec
        rw [List.length_drop, List.length_cons] at h1
        rw [ep, List.length_take]
        omega
      have dd : (st.drop (i + 1)).drop (1 + p.length) = st.drop (i + 2 + p.length) := by rw [List.drop_drop]; congr 1; omega
      have ed : decD n (st.drop (i + 1)) = if n = 1 ∨ n = 2 then some (p, .make (decide (n = 2))) else if n = 5 then some (p, .drop) else
          match st.drop (i + 2 + p.length) with
          | [] => none
          | x :: r => if n = 4 then some (p, .shrink x.toNat) else match cnt r with
            | none => none
            | some ws => if n = 3 then some (p, .put x.toNat ws) else none := by
        unfold decD
        rw [e]
        dsimp only
        rw [dd]
        try rfl
      refine ⟨_, rfl, rfl, _, rfl, iteF ?_⟩
      have vne : ∀ m : Int, decide (V.int n = V.int m) = decide (n = m) := fun m => decide_eq_decide.mpr ⟨fun z => by injection z, fun z => by rw [z]⟩
      refine ⟨_, rfl, rfl, _, rfl, ?_⟩
      rw [vne]
      have mk : ∀ b : Bool, (n = if b = true then 2 else 1) → ∀ q, H1 q = none → Q (.ref q) (upd H1 q (.tup [.str "make", .ref pa, .str (kindS b)])) := fun b hb q hq => by
        refine k2 (p, .make b) ?_ _ _ (s1.trans (Same.new hq)) (.tup upd_same (.cons (.str _) (.cons ((dt_path ⟨pa, rfl, hpa⟩).same (Same.new hq)) (.cons (.str _) .nil))))
        rw [ed]
        cases b with
        | true => rw [hb]; rfl
        | false => rw [hb]; rfl
      refine iteD (fun h1 => iteT ?_) (fun h1 => ⟨_, rfl, rfl, _, rfl, ?_⟩)
      · refine ⟨_, rfl, _, rfl, rfl, _, rfl, ?_⟩
        rw [vne]
        exact iteD (fun _ => ⟨szl rfl, fun q hq => mk false h1 q hq⟩) (fun z => absurd h1 z)
      · rw [vne]
        refine iteD (fun h2 => ?_) (fun h2 => ?_)
        · refine ⟨_, rfl, _, rfl, rfl, _, rfl, ?_⟩
          rw [vne]
          exact iteD (fun z => absurd z h1) (fun _ => ⟨szl rfl, fun q hq => mk true h2 q hq⟩)
        · rw [if_neg (by rintro (z | z) <;> contradiction)] at ed
          refine ⟨_, rfl, rfl, _, rfl, ?_⟩
          rw [vne]
          refine iteD (fun h5 => ?_) (fun h5 => ?_)
          · rw [if_pos h5] at ed
            refine ⟨_, rfl, szl rfl, fun q hq => ?_⟩
            exact k2 _ ed _ _ (s1.trans (Same.new hq)) (.tup upd_same (.cons (.str _) (.cons ((dt_path ⟨pa, rfl, hpa⟩).same (Same.new hq)) .nil)))
          · rw [if_neg h5] at ed
            refine ⟨_, rfl, _, _, rfl, rfl, _, rfl, _, _, rfl, .inr (SqT.of hpa), _, _, rfl, rfl, ?_⟩
            have eb : (i : Int) + 2 + (p.length : Int) = ((i + 2 + p.length : Nat) : Int) := by omega
            refine ⟨_, rfl, _, rfl, _, _, rfl, .inl (SqL.of ha1), _, _, rfl, rfl, _, rfl, ?_⟩
            rw [List.length_map]
            refine iteD (fun h6 => ?_) (fun h6 => ?_) <;> rw [eb, List.length_map] at h6
            · have z0 : st.drop (i + 2 + p.length) = [] := List.drop_eq_nil_of_le (by omega)
              rw [z0] at ed
              exact k1 ed H1 s1
            · have hb : i + 2 + p.length < st.length := by omega
              have hx : st[i + 2 + p.length]? = some st[i + 2 + p.length] := List.getElem?_eq_getElem hb
              have xw := wd _ (List.getElem_mem hb)
              generalize st[i + 2 + p.length] = x at hx xw
              rw [drop_cons hx] at ed
              dsimp only at ed
              obtain ⟨xn, rfl⟩ := Int.eq_ofNat_of_zero_le xw.1
              rw [Int.toNat_natCast] at ed
              refine ⟨_, rfl, rfl, _, rfl, ?_⟩
              rw [vne]
              refine iteD (fun h4 => ?_) (fun h4 => ?_)
              · rw [if_pos h4] at ed
                refine ⟨_, rfl, _, rfl, _, rfl, _, _, _, _, rfl, rfl, SqL.of ha1, atC (i + 2 + p.length) eb (at_int hx), szl rfl, fun q hq => ?_⟩
                exact k2 _ ed _ _ (s1.trans (Same.new hq)) (.tup upd_same (.cons (.str _) (.cons ((dt_path ⟨pa, rfl, hpa⟩).same (Same.new hq)) (.cons (.int _) .nil))))
              · rw [if_neg h4] at ed
                refine ⟨_, rfl, _, rfl, _, _, rfl, rfl, ?_⟩
                refine ⟨a, st, i + 2 + p.length + 1, by show [V.ref a, V.int ((i : Int) + 2 + (p.length : Int) + 1)] = _; rw [eb]; rfl, ha1, wd, sl, by omega, fun e2 => ?_, fun ws e2 v2 H2 s2 hv2 => ?_⟩
                · rw [e2] at ed
                  refine ⟨_, rfl, rfl, _, rfl, ?_⟩
                  refine iteB (fun _ => iteT (k1 ed H1 s1)) (fun _ => ?_)
                  exact ⟨_, rfl, rfl, _, rfl, iteT (k1 ed H1 s1)⟩
                · rw [e2] at ed
                  dsimp only at ed
                  obtain ⟨wa, rfl, hwa⟩ := hv2
                  refine ⟨_, rfl, rfl, _, rfl, ?_⟩
                  have vn3 : (!decide (V.int n = V.int 3)) = !decide (n = 3) := by rw [vne]
                  rw [vn3]
                  refine iteDn (fun h3 => ?_) (fun h3 => ?_)
                  · rw [if_neg h3] at ed
                    exact iteT (k1 ed H2 (s1.trans s2))
                  · rw [if_pos h3] at ed
                    refine ⟨_, rfl, rfl, _, rfl, iteF ?_⟩
                    refine ⟨_, rfl, _, rfl, _, rfl, _, _, _, _, rfl, rfl, SqL.of (s2 _ _ ha1), atC (i + 2 + p.length) eb (at_int hx), _, rfl, szl rfl, fun q hq => ?_⟩
                    exact k2 _ ed _ _ ((s1.trans s2).trans (Same.new hq)) (.tup upd_same (.cons (.str _) (.cons ((dt_path ⟨pa, rfl, s2 _ _ hpa⟩).same (Same.new hq)) (.cons (.int _) (.cons ((dt_path ⟨wa, rfl, hwa⟩).same (Same.new hq)) .nil)))))
end
end My

namespace My
open PySem L2
local macro_rules | `(tactic| walk_at "ne") => `(tactic| first | assumption | exact Ne.symm (by assumption) | exact ne_of_none (by assumption) (by assumption) | exact Ne.symm (ne_of_none (by assumption) (by assumption)))
local macro_rules | `(tactic| walk_at "hp") => `(tactic| first | assumption | with_reducible exact upd_same | (with_reducible refine Eq.trans (upd_ne ?_) ?_; rotate_left; walk_at "hp"; walk_at "ne"))
local macro_rules | `(tactic| walk_at "cnd") => `(tactic| first | omega | (show (0 : Int) < _; omega) | exact ⟨by omega, by omega⟩ | exact Or.inl ⟨by omega, by omega⟩ | exact Or.inr ⟨by omega, by omega⟩ | exact ⟨by omega, by omega, by decide⟩ | exact ⟨by omega, by omega, by omega⟩)
local macro_rules | `(tactic| walk_at "at") => `(tactic| first | exact atC 0 rfl rfl | exact atC 1 rfl rfl | exact atC 2 rfl rfl | exact atC 3 rfl rfl | exact atC 4 rfl rfl | exact atC 5 rfl rfl | exact atC 6 rfl rfl | exact atC 7 rfl rfl)
local macro_rules | `(tactic| walk_at "ix") => `(tactic| first | exact ixC 0 rfl (Nat.le_of_ble_eq_true rfl) | exact ixC 1 rfl (Nat.le_of_ble_eq_true rfl) | exact ixC 2 rfl (Nat.le_of_ble_eq_true rfl) | exact ixC 3 rfl (Nat.le_of_ble_eq_true rfl) | exact ixC 4 rfl (Nat.le_of_ble_eq_true rfl) | exact ixC 5 rfl (Nat.le_of_ble_eq_true rfl))
local macro_rules | `(tactic| walk_at "st") => `(tactic| first
  | refine ⟨_, rfl, ?_⟩
  | refine ⟨_, _, rfl, rfl, (by walk_at "cnd" : (_ : Prop)), ?_⟩
  | refine ⟨_, _, rfl, rfl, ?_⟩
  | refine ⟨rfl, ?_⟩
  | refine Or.inl ⟨_, rfl, ?_⟩
  | refine ⟨_, _, _, _, rfl, rfl, by exact SqL.of (by walk_at "hp"), by walk_at "at", ?_⟩
  | refine ⟨_, _, _, _, rfl, rfl, by exact SqT.of (by walk_at "hp"), by walk_at "at", ?_⟩
  | refine ⟨_, _, _, _, rfl, rfl, by walk_at "hp", by walk_at "ix", ?_⟩
  | refine ⟨_, _, rfl, Or.inl (by exact SqL.of (by walk_at "hp")), ?_⟩
  | refine ⟨_, _, rfl, Or.inr (by exact SqT.of (by walk_at "hp")), ?_⟩)
local macro_rules | `(tactic| walk_at "so") => `(tactic| first
  | refine ⟨_, _, _, _, _, rfl, by walk_at "hp", by assumption, by assumption, rfl, ?_⟩
  | refine ⟨_, _, _, _, rfl, by walk_at "hp", by assumption, by assumption, Nat.le_of_ble_eq_true rfl, ?_⟩
  | refine ⟨_, _, _, rfl, by walk_at "hp", rfl, ?_⟩
  | walk_at "st")
local macro_rules | `(tactic| walk_at "ro") => `(tactic| repeat walk_at "so")
local macro_rules | `(tactic| walk_at "run") => `(tactic| repeat walk_at "st")

def rqDD (d : Deed) : PyData := rqD d.1 d.2
def dsD (ds : List Deed) : PyData := .list (ds.map rqDD)
theorem cnt_len {s p : List Int} (h : cnt s = some p) (wd : Wds s) : 1 + p.length ≤ s.length ∧ s = (p.length : Int) :: (p ++ s.drop (1 + p.length)) := by
  obtain ⟨c, r, rfl, cl, rfl⟩ := cnt_sub h
  have c0 := (wd c List.mem_cons_self).1
  obtain ⟨m, rfl⟩ := Int.eq_ofNat_of_zero_le c0
  have e : (r.take ((m : Int)).toNat).length = m := by rw [List.length_take, Int.toNat_natCast]; omega
  rw [e, List.length_cons]
  refine ⟨by omega, ?_⟩
  rw [Nat.add_comm, List.drop_succ_cons, Int.toNat_natCast, List.take_append_drop]
/-- what decD says of its stream -/
theorem decD_inv {n : Int} {s : List Int} {d : Deed} (h : decD n s = some d) (wd : Wds s) : isDeed d.2 ∧ encK d.2 = n ∧ ∃ r, s = (d.1.length : Int) :: (d.1 ++ encR d.2 ++ r) := by
  unfold decD at h
  cases e : cnt s with
  | none => rw [e] at h; cases h
  | some p =>
    rw [e] at h
    dsimp only at h
    obtain ⟨l1, l2⟩ := cnt_len e wd
    by_cases h1 : n = 1 ∨ n = 2
    · rw [if_pos h1] at h
      cases h
      refine ⟨trivial, ?_, s.drop (1 + p.length), by show s = (p.length : Int) :: (p ++ [] ++ _); rw [List.append_nil]; exact l2⟩
      rcases h1 with rfl | rfl <;> rfl
    · rw [if_neg h1] at h
      by_cases h5 : n = 5
      · rw [if_pos h5] at h
        cases h
        exact ⟨trivial, h5.symm, s.drop (1 + p.length), by show s = (p.length : Int) :: (p ++ [] ++ _); rw [List.append_nil]; exact l2⟩
      · rw [if_neg h5] at h
        cases ed : s.drop (1 + p.length) with
        | nil => rw [ed] at h; cases h
        | cons x r =>
          rw [ed] at h l2
          dsimp only at h
          have x0 := (wd x (by rw [l2]; simp)).1
          by_cases h4 : n = 4
          · rw [if_pos h4] at h
            cases h
            refine ⟨trivial, h4.symm, r, ?_⟩
            show s = (p.length : Int) :: (p ++ [((x.toNat : Nat) : Int)] ++ r)
            rw [Int.toNat_of_nonneg x0, List.append_assoc]
            exact l2
          · rw [if_neg h4] at h
            cases e2 : cnt r with
            | none => rw [e2] at h; cases h
            | some ws =>
              rw [e2] at h
              dsimp only at h
              by_cases h3 : n = 3
              · rw [if_pos h3] at h
                cases h
                obtain ⟨m1, m2⟩ := cnt_len e2 (wd.sub fun y hy => by rw [l2]; simp [hy])
                refine ⟨trivial, h3.symm, r.drop (1 + ws.length), ?_⟩
                show s = (p.length : Int) :: (p ++ (((x.toNat : Nat) : Int) :: (ws.length : Int) :: ws) ++ r.drop (1 + ws.length))
                rw [Int.toNat_of_nonneg x0, List.append_assoc]
                rw [show ((x :: (ws.length : Int) :: ws) ++ r.drop (1 + ws.length)) = x :: ((ws.length : Int) :: (ws ++ r.drop (1 + ws.length))) from rfl, ← m2]
                exact l2
              · rw [if_neg h3] at h; cases h
theorem decD_small {n : Int} {s : List Int} {d : Deed} (h : decD n s = some d) (wd : Wds s) (hl : s.length ≤ 4000) : isDeed d.2 ∧ smallD d.1 d.2 ∧ (enc d).length ≤ s.length + 1 ∧ Wds d.1 := by
  obtain ⟨h1, h2, r, h3⟩ := decD_inv h wd
  obtain ⟨p, q⟩ := d
  have l := congrArg List.length h3
  simp only [List.length_cons, List.length_append] at l
  refine ⟨h1, ?_, ?_, wd.sub fun x hx => by rw [h3]; simp [hx]⟩
  · cases q with
    | put off ws =>
      have : (encR (.put off ws)).length = ws.length + 2 := rfl
      exact ⟨by show p.length ≤ 5000; omega, by show ws.length ≤ 5000; omega⟩
    | _ => show p.length ≤ 5000; omega
  · unfold enc
    simp only [List.length_cons, List.length_append]
    omega
theorem okReq_d {p : List Int} {r : Rq} (h : smallD p r) : okReq (rqD p r) := by
  have hp := h.path
  have hpl : ∀ (q : List Int), q.length ≤ 5000 → ∀ es, pthD q = .tuple es → es.length ≤ 5000 := fun q hq es e => by
    cases e
    rw [List.length_map]; exact hq
  refine ⟨fun z ds e => ?_, fun ds e => ?_⟩
  · cases e
    cases r <;> simp [rqW, words8]
  · cases e
    refine ⟨by cases r <;> simp [rqP], fun d hd es e => ?_⟩
    rcases List.mem_cons.mp hd with z | hd
    · rw [z] at e; cases e
    · rcases List.mem_cons.mp hd with z | hd
      · rw [z] at e; exact hpl p hp es e
      · cases r with
        | put off ws =>
          rcases List.mem_cons.mp hd with z | hd
          · rw [z] at e; cases e
          · have : d = pthD ws := by simpa using hd
            rw [this] at e
            exact hpl ws h.2 es e
        | make b =>
          have : d = .str (kindS b) := by simpa [rqP] using hd
          rw [this] at e; cases e
        | get a n =>
          rcases List.mem_cons.mp hd with z | hd
          · rw [z] at e; cases e
          · have : d = .int n := by simpa using hd
            rw [this] at e; cases e
        | shrink a =>
          have : d = .int a := by simpa [rqP] using hd
          rw [this] at e; cases e
        | _ => cases hd
theorem tonly_rq {p : List Int} {r : Rq} : tonly (rqD p r) = true := by
  have tonly_ints : ∀ p : List Int, tonlyAll (p.map PyData.int) = true := fun p => by
    induction p with
    | nil => unfold tonlyAll; rfl
    | cons n p ih =>
      rw [List.map_cons]
      unfold tonlyAll tonly
      rw [ih]; rfl
  have tp : ∀ q : List Int, tonly (pthD q) = true := fun q => by unfold pthD tonly; exact tonly_ints q
  have ts : ∀ z : Str, tonly (.str z) = true := fun z => by unfold tonly; rfl
  have ti : ∀ z : Int, tonly (.int z) = true := fun z => by unfold tonly; rfl
  have t0 : tonlyAll [] = true := by unfold tonlyAll; rfl
  have tc : ∀ d ds, tonly d = true → tonlyAll ds = true → tonlyAll (d :: ds) = true := fun d ds a b => by unfold tonlyAll; rw [a, b]; rfl
  have tt : ∀ ds, tonlyAll ds = true → tonly (.tuple ds) = true := fun ds h => by unfold tonly; exact h
  unfold rqD
  refine tt _ (tc _ _ (ts _) (tc _ _ (tp _) ?_))
  cases r with
  | make b => exact tc _ _ (ts _) t0
  | put off ws => exact tc _ _ (ti _) (tc _ _ (tp _) t0)
  | get a n => exact tc _ _ (ti _) (tc _ _ (ti _) t0)
  | shrink a => exact tc _ _ (ti _) t0
  | _ => exact t0
theorem tonly_rqs : ∀ ds : List Deed, tonlyAll (ds.map rqDD) = true
  | [] => by unfold tonlyAll; rfl
  | d :: ds => by
    rw [List.map_cons]
    unfold tonlyAll
    rw [show tonly (rqDD d) = true from tonly_rq, tonly_rqs ds]; rfl
def spDeeds : Sp := fun vs H Q _ => ∃ (a : Addr) (st : List Int), vs = [.ref a] ∧ H a = some (.lst (st.map V.int)) ∧ Wds st ∧ st.length ≤ 4000 ∧ (dec st = none → ∀ H', Same H H' → Q .non H') ∧ ∀ ds, dec st = some ds → ∀ q H', Same H H' → H q = none → Dt H' (.ref q) (dsD ds) → Q (.ref q) H'
theorem DtAll.snoc {H : Hp} {vs : List V} {ds : List PyData} {v : V} {d : PyData} (h : DtAll H vs ds) (hv : Dt H v d) : DtAll H (vs ++ [v]) (ds ++ [d]) := h.append (.cons hv .nil)
section
variable {P : Program} {w : World} {K : PySem.W.Frag} {mg : Str → Option Value} {base : Heap} {A_PARTS : Addr}
abbrev s_deeds_of : Stmt := topS 36
abbrev ns_deeds_of : List Str := ["stream", "word", "deeds", "at", "deed"]
theorem sc_deeds_of : FnScope ns_deeds_of ["stream"] (defScope s_deeds_of) := ⟨rfl, rfl, rfl, by decide +kernel, rfl, by decide +kernel, by decide +kernel⟩

theorem ok_deeds_of {f : Addr} {fd : FuncData} (F : Fun K "deeds_of" "deeds_of" s_deeds_of f fd) (T : Txt K mg  w A_PARTS) (D_is_word : Dfn P w K mg base CX0 3 "is_word" ["value"] spWord) (D_deed_at : Dfn P w K mg base CX0 2 "_deed_at" ["stream", "at"] spDeedAt) (D_is_request : Dfn P w K mg base CX0 6 "is_request" ["value"] spReq) (D_written : Dfn P w K mg base CX0 1 "written" ["deed"] spWritten) : FnOk P w K mg base CX0 7 f fd ["stream"] spDeeds := by
  refine F.ok sc_deeds_of (fun vs H Q E h => ?_) (fun cdv A outer s H vs Q E hr h => ?_)
  · obtain ⟨a, st, rfl, _⟩ := h
    rfl
  · obtain ⟨a, st, rfl, ha, wd, sl, k1, k2⟩ := h
    refine ⟨_, (pss_cons (ps_if (pt_not (pt_val (pe_callB (kAll K rfl) (by rfl) T.b_all (by decide +kernel) (pa_cons (pe_lc (own := [("word", 1)]) (by rfl) sc_deeds_of.nd (kpiL K (pv 0)) (blkOk_by (N := ns_deeds_of) (sc := defScope s_deeds_of) (by decide +kernel)) (fun _ _ _ _ _ => (pg_name (i := 1) sc_deeds_of.nd rfl (Or.inl rfl))) (fun _ _ _ _ _ => pts_nil) (fun _ _ _ _ _ => (pe_dcall D_is_word (hr.mono (by decide)) (by rfl) pass0 (pa_cons (pv 1) pa_nil)))) pa_nil)))) (pss_one (ps_ret pe_non)) pss_nil)
  (pss_cons (ps_set (i := 2) sc_deeds_of.nd rfl (Or.inl rfl) (pe_lst pa_nil))
  (pss_cons (ps_set (i := 3) sc_deeds_of.nd rfl (Or.inl rfl) pe_int)
  (pss_cons (ps_while PassesOwn.never (pt_cmpR op_lt (pv 3) (pe_callB (kLen K) (by rfl) T.b_len (by decide +kernel) (pa_cons (pv 0) pa_nil)) (nomark _)) (pss_cons (ps_if (pt_cmpR op_eq (pe_ix (kIxL K) (pv 0) (pv 3) (fun _ _ => rfl)) pe_int (nomark _)) (pss_cons (ps_aug (i := 3) sc_deeds_of.nd rfl (Or.inl rfl) pe_int ip_add)
  (pss_one ps_continue)) pss_nil)
  (pss_cons (ps_set (i := 4) sc_deeds_of.nd rfl (Or.inl rfl) (pe_dcall D_deed_at (hr.mono (by decide)) (by rfl) pass0 (pa_cons (pv 0) (pa_cons (pv 3) pa_nil))))
  (pss_cons (ps_if (PW.pt (pw_or (pt_cmpR op_isN (pv 4) pe_non (nomark _)) (pw_or1 (pt_not (pt_val (pe_dcall D_is_request (hr.mono (by decide)) (by rfl) pass0 (pa_cons (pv 4) pa_nil))))))) (pss_one (ps_ret pe_non)) pss_nil)
  (pss_cons (ps_expr (kBM K PySem.F.plainAttrs_list PySem.F.slot_list_append PySem.F.type_list_append mt_append (pv 2) (pa_cons (pv 4) pa_nil)))
  (pss_one (ps_aug (i := 3) sc_deeds_of.nd rfl (Or.inl rfl) (pe_callB (kLen K) (by rfl) T.b_len (by decide +kernel) (pa_cons (pe_dcall D_written (hr.mono (by decide)) (by rfl) pass0 (pa_cons (pv 4) pa_nil)) pa_nil)) ip_add)))))))
  (pss_one (ps_ret (pv 2))))))), ?_⟩
    refine ⟨_, rfl, a, rfl, ⟨_, SqL.of ha⟩, fun D hD => ?_⟩
    refine lcL (xs := st.map V.int) (st.map fun x => V.bl (isI (.int x) 0 4294967295)) (by simp) (by simp; omega) ha hD ?_ ?_
    · intro j x y H1 Q' hx hy s1 q
      obtain ⟨n, hn, rfl⟩ := map_get hx
      rw [List.getElem?_map, hn] at hy
      cases hy
      refine ⟨rfl, ?_⟩
      walk_at "run"
      exact ⟨_, .int n, rfl, .int n, q H1 (Same.refl _)⟩
    · intro H1 s1 d1
      have el : st.map (fun x => V.bl (isI (.int x) 0 4294967295)) = (st.map fun x => isI (.int x) 0 4294967295).map V.bl := by rw [List.map_map]; rfl
      have ea : (st.map fun x => isI (.int x) 0 4294967295).all id = true := by
        rw [List.all_eq_true]
        intro b hb
        obtain ⟨x, hx, rfl⟩ := List.mem_map.mp hb
        obtain ⟨g1, g2⟩ := wd x hx
        show (decide ((0 : Int) ≤ x) && decide (x ≤ 4294967295)) = true
        rw [decide_eq_true g1, decide_eq_true g2]; rfl
      rw [el] at d1
      refine ⟨_, _, rfl, SqL.of d1, _, rfl, ?_⟩
      rw [ea]
      refine iteF ⟨szl rfl, fun A hA => ?_⟩
      have s2 := s1.trans (Same.new (o := .lst []) hA)
      have fA := s1.free hA
      have hA2 : (upd H1 A (.lst [])) A = some (.lst []) := upd_same
      generalize upd H1 A (.lst []) = H2 at s2 hA2
      clear d1 hD
      refine ⟨fun m σ H' => ∃ (i : Nat) (xs : List V) (ds : List Deed) (v4 : Option V), σ = [some (.ref a), none, some (.ref A), some (.int (i : Int)), v4] ∧ i ≤ st.length ∧ m = st.length - i ∧ Same H H' ∧ H' A = some (.lst xs) ∧ DtAll H' xs (ds.map rqDD) ∧ dec st = (dec (st.drop i)).map (ds ++ ·) ∧ ds.length ≤ i, ⟨_, 0, [], [], none, rfl, Nat.zero_le _, rfl, s2, hA2, .nil, by rw [List.drop_zero]; cases dec st <;> rfl, Nat.le_refl _⟩, ?_⟩
      rintro m σ H' ⟨i, xs, ds, v4, rfl, hi, rfl, sx, hx, hds, hdec, hlen⟩
      refine ⟨_, rfl, _, rfl, _, _, rfl, .inl (SqL.of (sx _ _ ha)), _, _, rfl, rfl, _, rfl, ?_⟩
      rw [List.length_map]
      refine iteD (fun hlt => ⟨fun σ' H'' => ∃ m', m' < st.length - i ∧ ∃ (i : Nat) (xs : List V) (ds : List Deed) (v4 : Option V), σ' = [some (.ref a), none, some (.ref A), some (.int (i : Int)), v4] ∧ i ≤ st.length ∧ m' = st.length - i ∧ Same H H'' ∧ H'' A = some (.lst xs) ∧ DtAll H'' xs (ds.map rqDD) ∧ dec st = (dec (st.drop i)).map (ds ++ ·) ∧ ds.length ≤ i, fun _ _ h => h, ?_⟩) (fun hge => ?_)
      · have hil : i < st.length := by omega
        have hn : st[i]? = some st[i] := List.getElem?_eq_getElem hil
        generalize st[i] = n at hn
        have ed := drop_cons hn
        refine ⟨_, rfl, _, rfl, _, _, _, _, rfl, rfl, SqL.of (sx _ _ ha), atC i rfl (at_int hn), rfl, _, rfl, ?_⟩
        have vne : decide (V.int n = V.int 0) = decide (n = 0) := decide_eq_decide.mpr ⟨fun z => by injection z, fun z => by rw [z]⟩
        rw [vne]
        refine iteD (fun h0 => ?_) (fun h0 => ?_)
        · refine ⟨_, rfl, _, _, rfl, rfl, ?_⟩
          refine ⟨_, (by omega : st.length - (i + 1) < st.length - i), i + 1, xs, ds, v4, rfl, by omega, rfl, sx, hx, hds, ?_, by omega⟩
          rw [hdec, ed, h0, dec_zero]
        · have e1 := dec_cons h0 (st.drop (i + 1))
          rw [← ed] at e1
          refine ⟨_, rfl, _, rfl, a, st, i, n, rfl, sx _ _ ha, wd, sl, hn, fun en H3 s3 => ?_, fun d en v H3 s3 hd => ?_⟩
          · rw [en] at e1
            refine ⟨_, rfl, rfl, _, rfl, iteT (iteT ?_)⟩
            exact k1 (by rw [hdec, e1]; rfl) _ (sx.trans s3)
          · rw [en] at e1
            dsimp only at e1
            have wdd : Wds (st.drop (i + 1)) := wd.sub fun y hy => List.mem_of_mem_drop hy
            have sll : (st.drop (i + 1)).length ≤ 4000 := by rw [List.length_drop]; omega
            obtain ⟨isd, sm, le, _⟩ := decD_small en wdd sll
            rw [List.length_drop] at le
            have vr : ∃ z, v = .ref z := by
              cases hd with
              | tup h1 h2 => exact ⟨_, rfl⟩
            obtain ⟨va, rfl⟩ := vr
            refine ⟨_, rfl, rfl, _, rfl, iteF ⟨_, rfl, _, _, rfl, hd, okReq_d sm, fun H4 s4 => ⟨_, rfl, ?_⟩⟩⟩
            cases g : isReq (rqD d.1 d.2) with
            | false =>
              rw [if_neg (show ¬ goodD d = true by show ¬ isReq (rqD d.1 d.2) = true; rw [g]; exact Bool.false_ne_true)] at e1
              refine iteT ?_
              exact k1 (by rw [hdec, e1]; rfl) _ ((sx.trans s3).trans s4)
            | true =>
              rw [if_pos (show goodD d = true from g)] at e1
              refine iteF ?_
              have s04 := (sx.trans s3).trans s4
              have s14 := s3.trans s4
              have hx4 := s14 _ _ hx
              have xl : xs.length = ds.length := by rw [hds.len, List.length_map]
              refine ⟨_, rfl, .inl ⟨rfl, _, SqL.of hx4⟩, _, rfl, A, xs, _, rfl, rfl, hx4, szt (by omega), ?_⟩
              have hd4 := hd.same s4
              have s5 : Same H (upd H4 A (.lst (xs ++ [.ref va]))) := Same.mut s04 fA
              have hx5 : (upd H4 A (.lst (xs ++ [.ref va]))) A = some (.lst (xs ++ [.ref va])) := upd_same
              have ts45 : TS H4 (upd H4 A (.lst (xs ++ [.ref va]))) := fun b ys e => by rw [upd_ne (ne_of e hx4 (by intro z; cases z))]; exact e
              have hd5 := hd4.ts ts45 tonly_rq
              have hds5 : DtAll (upd H4 A (.lst (xs ++ [.ref va]))) xs (ds.map rqDD) := DtAll.ts ts45 (tonly_rqs ds) (hds.same s14)
              generalize upd H4 A (.lst (xs ++ [.ref va])) = H5 at s5 hx5 hd5 hds5
              refine ⟨_, rfl, _, rfl, _, d.1, d.2, rfl, hd5, isd, sm, fun q H6 s6 _ hq => ?_⟩
              refine ⟨_, _, rfl, .inl (SqL.of hq), _, _, rfl, rfl, ?_⟩
              refine ⟨st.length - (i + (enc d).length), ?_, i + (enc d).length, xs ++ [.ref va], ds ++ [d], some (.ref va), ?_, by omega, rfl, s5.trans s6, s6 _ _ hx5, ?_, ?_, ?_⟩
              · have := enc_pos d
                omega
              · rw [List.length_map]
                show _ = [some (V.ref a), none, some (V.ref A), some (V.int (((i + (enc d).length : Nat) : Int))), some (V.ref va)]
                rw [show ((i + (enc d).length : Nat) : Int) = (i : Int) + ((enc d).length : Int) by omega]
                rfl
              · rw [List.map_append]
                exact (hds5.snoc hd5).same s6
              · rw [hdec, e1, List.drop_drop]
                cases dec (st.drop (i + (enc d).length)) with
                | none => rfl
                | some x => show some (ds ++ d :: x) = some (ds ++ [d] ++ x); rw [List.append_assoc]; rfl
              · have := enc_pos d
                rw [List.length_append, List.length_singleton]; omega
      · have ei : i = st.length := by omega
        subst ei
        rw [List.drop_length, dec_nil] at hdec
        have hdec : dec st = some ds := by rw [hdec]; show some (ds ++ []) = _; rw [List.append_nil]
        exact ⟨_, rfl, k2 ds hdec A H' sx fA (.lst hx hds)⟩
end
end My

namespace My
open PySem L2
local macro_rules | `(tactic| walk_at "ne") => `(tactic| first | assumption | exact Ne.symm (by assumption) | exact ne_of_none (by assumption) (by assumption) | exact Ne.symm (ne_of_none (by assumption) (by assumption)))
local macro_rules | `(tactic| walk_at "hp") => `(tactic| first | assumption | with_reducible exact upd_same | (with_reducible refine Eq.trans (upd_ne ?_) ?_; rotate_left; walk_at "hp"; walk_at "ne"))
local macro_rules | `(tactic| walk_at "cnd") => `(tactic| first | omega | (show (0 : Int) < _; omega) | exact ⟨by omega, by omega⟩ | exact Or.inl ⟨by omega, by omega⟩ | exact Or.inr ⟨by omega, by omega⟩ | exact ⟨by omega, by omega, by decide⟩ | exact ⟨by omega, by omega, by omega⟩)
local macro_rules | `(tactic| walk_at "at") => `(tactic| first | exact atC 0 rfl rfl | exact atC 1 rfl rfl | exact atC 2 rfl rfl | exact atC 3 rfl rfl | exact atC 4 rfl rfl | exact atC 5 rfl rfl | exact atC 6 rfl rfl | exact atC 7 rfl rfl)
local macro_rules | `(tactic| walk_at "ix") => `(tactic| first | exact ixC 0 rfl (Nat.le_of_ble_eq_true rfl) | exact ixC 1 rfl (Nat.le_of_ble_eq_true rfl) | exact ixC 2 rfl (Nat.le_of_ble_eq_true rfl) | exact ixC 3 rfl (Nat.le_of_ble_eq_true rfl) | exact ixC 4 rfl (Nat.le_of_ble_eq_true rfl) | exact ixC 5 rfl (Nat.le_of_ble_eq_true rfl))
local macro_rules | `(tactic| walk_at "st") => `(tactic| first
  | refine ⟨_, rfl, ?_⟩
  | refine ⟨_, _, rfl, rfl, (by walk_at "cnd" : (_ : Prop)), ?_⟩
  | refine ⟨_, _, rfl, rfl, ?_⟩
  | refine ⟨rfl, ?_⟩
  | refine Or.inl ⟨_, rfl, ?_⟩
  | refine ⟨_, _, _, _, rfl, rfl, by exact SqL.of (by walk_at "hp"), by walk_at "at", ?_⟩
  | refine ⟨_, _, _, _, rfl, rfl, by exact SqT.of (by walk_at "hp"), by walk_at "at", ?_⟩
  | refine ⟨_, _, _, _, rfl, rfl, by walk_at "hp", by walk_at "ix", ?_⟩
  | refine ⟨_, _, rfl, Or.inl (by exact SqL.of (by walk_at "hp")), ?_⟩
  | refine ⟨_, _, rfl, Or.inr (by exact SqT.of (by walk_at "hp")), ?_⟩)
local macro_rules | `(tactic| walk_at "so") => `(tactic| first
  | refine ⟨_, _, _, _, _, rfl, by walk_at "hp", by assumption, by assumption, rfl, ?_⟩
  | refine ⟨_, _, _, _, rfl, by walk_at "hp", by assumption, by assumption, Nat.le_of_ble_eq_true rfl, ?_⟩
  | refine ⟨_, _, _, rfl, by walk_at "hp", rfl, ?_⟩
  | walk_at "st")
local macro_rules | `(tactic| walk_at "ro") => `(tactic| repeat walk_at "so")
local macro_rules | `(tactic| walk_at "run") => `(tactic| repeat walk_at "st")

/-! ### deeds led through a tree -/
def isOkD : PyData → Bool
  | .tuple (.str z :: _) => decide (z = "ok")
  | _ => false
noncomputable def runD : Fm → List Deed → Option Fm
  | F, [] => some F
  | F, d :: ds => if isOkD (due F d.1 d.2).1 = true then runD (due F d.1 d.2).2 ds else none
theorem runD_snoc {F : Fm} {ds : List Deed} {d : Deed} {F' : Fm} (h : runD F ds = some F') : runD F (ds ++ [d]) = if isOkD (due F' d.1 d.2).1 = true then some (due F' d.1 d.2).2 else none := by
  induction ds generalizing F with
  | nil =>
    cases h
    rfl
  | cons e ds ih =>
    rw [List.cons_append]
    unfold runD at h ⊢
    by_cases c : isOkD (due F e.1 e.2).1 = true
    · rw [if_pos c] at h ⊢
      exact ih h
    · rw [if_neg c] at h; cases h
def F0 : Fm := fun p => if p = [] then some (.dir []) else none
def isMk : Rq → Bool
  | .make _ => true
  | _ => false
def mks (ds : List Deed) : Nat := ds.countP fun d => isMk d.2
def Cap (k : Nat) (F : Fm) : Prop := ∀ p ns, F p = some (.dir ns) → ns.length ≤ k
theorem Cap.mono {k j : Nat} {F : Fm} (h : Cap k F) (l : k ≤ j) : Cap j F := fun p ns e => Nat.le_trans (h p ns e) l
theorem Cap.set {k : Nat} {F : Fm} {p ws : List Int} (h : Cap k F) : Cap k (setF F p ws) := fun q ns e => by
  unfold setF at e
  by_cases z : q = p
  · rw [if_pos z] at e; cases e
  · rw [if_neg z] at e; exact h q ns e
theorem Cap.del {k : Nat} {F : Fm} {p : List Int} {n : Int} (h : Cap k F) : Cap k (delF F p n) := fun q ns e => by
  unfold delF at e
  by_cases z : q = p ++ [n]
  · rw [if_pos z] at e; cases e
  · rw [if_neg z] at e
    by_cases y : q = p
    · rw [if_pos y] at e
      cases ep : F p with
      | none => rw [ep] at e; cases e
      | some x =>
        rw [ep] at e
        cases x with
        | file ws => cases e
        | dir ms =>
          cases e
          exact Nat.le_trans (List.length_filter_le _ _) (h p ms ep)
    · rw [if_neg y] at e; exact h q ns e
theorem Cap.add {k : Nat} {F : Fm} {p : List Int} {n : Int} {b : Bool} (h : Cap k F) : Cap (k + 1) (addF F p n (if b = true then .file [] else .dir [])) := fun q ns e => by
  unfold addF at e
  by_cases z : q = p ++ [n]
  · rw [if_pos z] at e
    cases b with
    | true => cases e
    | false => cases e; exact Nat.zero_le _
  · rw [if_neg z] at e
    by_cases y : q = p
    · rw [if_pos y] at e
      cases ep : F p with
      | none => rw [ep] at e; cases e
      | some x =>
        rw [ep] at e
        cases x with
        | file ws => cases e
        | dir ms =>
          cases e
          have := h p ms ep
          simp; omega
    · rw [if_neg y] at e; exact Nat.le_trans (h q ns e) (Nat.le_succ _)
theorem Cap.due {k : Nat} {F : Fm} {p : List Int} {r : Rq} (h : Cap k F) : Cap (if isMk r = true then k + 1 else k) (due F p r).2 := by
  have file : ∀ r, Cap k (dueFile F p (fileG F p r)).2 := fun r => by
    cases e : F p with
    | none => rw [dueFile_none e]; exact h
    | some x =>
      cases x with
      | dir ns => rw [dueFile_dir e]; exact h
      | file ws =>
        rw [dueFile_file e]
        cases r with
        | shrink a => exact h.set
        | put off new =>
          by_cases c : 48 < off + new.length
          · rw [show fileG F p (.put off new) ws = (noD "long", F) from if_pos c]; exact h
          · rw [show fileG F p (.put off new) ws = (okD, setF F p (putW ws off new)) from if_neg c]; exact h.set
        | _ => exact h
  cases r with
  | make b =>
    show Cap (k + 1) (dueMake F p b).2
    have h1 := h.mono (Nat.le_succ k)
    by_cases hpe : p = []
    · subst hpe; rw [dueMake_nil]; exact h1
    · cases e : F p.dropLast with
      | none => rw [dueMake_none hpe e]; exact h1
      | some x =>
        cases x with
        | file ws => rw [dueMake_file hpe e]; exact h1
        | dir ns =>
          by_cases hF : (F p).isSome = true
          · rw [dueMake_there hpe e hF]; exact h1
          · rw [dueMake_new hpe e hF]; exact h.add
  | drop =>
    show Cap k (dueDrop F p).2
    by_cases hpe : p = []
    · subst hpe; rw [dueDrop_nil]; exact h
    · cases e : F p with
      | none => rw [dueDrop_none hpe e]; exact h
      | some x =>
        cases x with
        | file ws => rw [dueDrop_file hpe e]; exact h.del
        | dir ns =>
          cases ns with
          | nil => rw [dueDrop_dir hpe e]; exact h.del
          | cons n ns => rw [dueDrop_full hpe e]; exact h
  | list =>
    show Cap k (dueList F p).2
    cases e : F p with
    | none => rw [dueList_none e]; exact h
    | some x =>
      cases x with
      | file ws => rw [dueList_file e]; exact h
      | dir ns => rw [dueList_dir e]; exact h
  | _ => exact file _
/-- the answer's first word -/
def head2 (d : PyData) : Prop := ∃ z r, d = .tuple [.str z, r] ∧ (z = "ok" ∨ z = "no")
theorem due_head {F : Fm} {p : List Int} {r : Rq} : head2 (due F p r).1 := by
  have no : ∀ z, head2 (noD z) := fun z => ⟨"no", .str z, rfl, .inr rfl⟩
  have ok : head2 okD := ⟨"ok", .none, rfl, .inl rfl⟩
  have okt : ∀ d, head2 (okT d) := fun d => ⟨"ok", d, rfl, .inl rfl⟩
  have file : ∀ r, head2 (dueFile F p (fileG F p r)).1 := fun r => by
    cases e : F p with
    | none => rw [dueFile_none e]; exact no _
    | some x =>
      cases x with
      | dir ns => rw [dueFile_dir e]; exact no _
      | file ws =>
        rw [dueFile_file e]
        cases r with
        | size => exact okt _
        | get a n => exact okt _
        | put off new =>
          by_cases c : 48 < off + new.length
          · rw [show fileG F p (.put off new) ws = (noD "long", F) from if_pos c]; exact no _
          · rw [show fileG F p (.put off new) ws = (okD, setF F p (putW ws off new)) from if_neg c]; exact ok
        | _ => exact ok
  cases r with
  | make b =>
    show head2 (dueMake F p b).1
    by_cases hpe : p = []
    · subst hpe; rw [dueMake_nil]; exact no _
    · cases e : F p.dropLast with
      | none => rw [dueMake_none hpe e]; exact no _
      | some x =>
        cases x with
        | file ws => rw [dueMake_file hpe e]; exact no _
        | dir ns =>
          by_cases hF : (F p).isSome = true
          · rw [dueMake_there hpe e hF]; exact no _
          · rw [dueMake_new hpe e hF]; exact ok
  | drop =>
    show head2 (dueDrop F p).1
    by_cases hpe : p = []
    · subst hpe; rw [dueDrop_nil]; exact no _
    · cases e : F p with
      | none => rw [dueDrop_none hpe e]; exact no _
      | some x =>
        cases x with
        | file ws => rw [dueDrop_file hpe e]; exact ok
        | dir ns =>
          cases ns with
          | nil => rw [dueDrop_dir hpe e]; exact ok
          | cons n ns => rw [dueDrop_full hpe e]; exact no _
  | list =>
    show head2 (dueList F p).1
    cases e : F p with
    | none => rw [dueList_none e]; exact no _
    | some x =>
      cases x with
      | file ws => rw [dueList_file e]; exact no _
      | dir ns => rw [dueList_dir e]; exact okt _
  | _ => exact file _
theorem good_ok {p : List Int} {r : Rq} (g : goodD (p, r) = true) (h : isDeed r) : okRq r := by
  cases r with
  | put off ws =>
    have h' : (isPath (pthD p) && (isNum (.int (off : Int)) && (decide (1 ≤ (ws.map PyData.int).length ∧ (ws.map PyData.int).length ≤ 48) && (ws.map PyData.int).all fun d => isI d 0 4294967295))) = true := g
    rw [Bool.and_eq_true, Bool.and_eq_true, Bool.and_eq_true, num_nat, List.length_map] at h'
    exact ⟨of_decide_eq_true h'.2.1, (of_decide_eq_true h'.2.2.1).2⟩
  | shrink a =>
    have h' : (isPath (pthD p) && isNum (.int (a : Int))) = true := g
    rw [Bool.and_eq_true, num_nat] at h'
    show a ≤ 48
    exact of_decide_eq_true h'.2
  | get a n => exact h.elim
  | _ => trivial
/-- what is decoded is good -/
theorem decA_good : ∀ (k : Nat) (s : List Int) (ds : List Deed), Wds s → decA k s = some ds → ∀ d ∈ ds, isDeed d.2 ∧ goodD d = true
  | k, [], ds, _, h => by cases k <;> (cases h; intro d hd; cases hd)
  | 0, _ :: _, ds, _, h => by cases h
  | k + 1, n :: s, ds, wd, h => by
    unfold decA at h
    by_cases e : n = 0
    · rw [if_pos e] at h
      exact decA_good k s ds (wd.sub fun x hx => List.mem_cons_of_mem _ hx) h
    · rw [if_neg e] at h
      cases en : decD n s with
      | none => rw [en] at h; cases h
      | some d =>
        rw [en] at h
        dsimp only at h
        by_cases g : goodD d = true
        · rw [if_pos g] at h
          cases e2 : decA k ((n :: s).drop (enc d).length) with
          | none => rw [e2] at h; cases h
          | some ds' =>
            rw [e2] at h
            cases h
            intro d' hd'
            rcases List.mem_cons.mp hd' with rfl | hd'
            · exact ⟨(decD_inv en (wd.sub fun x hx => List.mem_cons_of_mem _ hx)).1, g⟩
            · exact decA_good k _ ds' (wd.sub fun x hx => List.mem_of_mem_drop hx) e2 d' hd'
        · rw [if_neg g] at h; cases h
theorem TR.new0 {H : Hp} {a d : Addr} (had : a ≠ d) (h1 : H a = some (.dK [(kN, .ref d)])) (h2 : H d = some (.dK [])) : TR H a F0 ⟨fun _ => a, fun _ => d⟩ := by
  have e1 : ∀ p x, F0 p = some x → p = [] ∧ x = .dir [] := fun p x e => by
    unfold F0 at e
    by_cases z : p = []
    · rw [if_pos z] at e; cases e; exact ⟨z, rfl⟩
    · rw [if_neg z] at e; cases e
  have e2 : ∀ p, (F0 p).isSome = true → p = [] := fun p e => by
    obtain ⟨x, hx⟩ := Option.isSome_iff_exists.mp e
    exact (e1 p x hx).1
  refine ⟨rfl, ⟨[], if_pos rfl⟩, fun p ns e => ?_, fun p ws e => ?_, fun p n e => ?_, fun p q h1 h2 _ => by rw [e2 p h1, e2 q h2], fun p q h1 h2 _ => by rw [e2 p h1, e2 q h2], fun p q _ _ => had⟩
  · obtain ⟨rfl, z⟩ := e1 p _ e
    cases z
    exact ⟨h1, h2, List.nodup_nil, by decide, fun n => ⟨fun z => (by cases z), fun z => (by have := e2 _ z; simp at this)⟩⟩
  · obtain ⟨_, z⟩ := e1 p _ e
    cases z
  · have := e2 _ e
    simp at this
def spTree : Sp := fun vs H Q _ => ∃ (a : Addr) (st : List Int), vs = [.ref a] ∧ H a = some (.lst (st.map V.int)) ∧ Wds st ∧ st.length ≤ 4000 ∧ (∀ ds, dec st = some ds → mks ds < 60) ∧ ((dec st).bind (runD F0) = none → ∀ H', Same H H' → Q .non H') ∧ ∀ F', (dec st).bind (runD F0) = some F' → ∀ c β H', Same H H' → H c = none → TR H' c F' β → (∀ b, Own F' β b → H b = none) → Q (.ref c) H'
section
variable {P : Program} {w : World} {K : PySem.W.Frag} {mg : Str → Option Value} {base : Heap} {A_PARTS : Addr}
abbrev s_tree_of : Stmt := topS 40
abbrev ns_tree_of : List Str := ["stream", "deeds", "tree", "deed"]
theorem sc_tree_of : FnScope ns_tree_of ["stream"] (defScope s_tree_of) := ⟨rfl, rfl, rfl, by decide +kernel, rfl, by decide +kernel, by decide +kernel⟩

theorem ok_tree_of {f : Addr} {fd : FuncData} (F : Fun K "tree_of" "tree_of" s_tree_of f fd) (T : Txt K mg  w A_PARTS) (D_deeds_of : Dfn P w K mg base CX0 7 "deeds_of" ["stream"] spDeeds) (D_new_tree : Dfn P w K mg base CX0 1 "new_tree" [] spNew) (D_ask : Dfn P w K mg base CX0 4 "ask" ["tree", "request"] spAsk) : FnOk P w K mg base CX0 8 f fd ["stream"] spTree := by
  refine F.ok sc_tree_of (fun vs H Q E h => ?_) (fun cdv A outer s H vs Q E hr h => ?_)
  · obtain ⟨a, st, rfl, _⟩ := h
    rfl
  · obtain ⟨a, st, rfl, ha, wd, sl, hm, k1, k2⟩ := h
    refine ⟨_, (pss_cons (ps_set (i := 1) sc_tree_of.nd rfl (Or.inl rfl) (pe_dcall D_deeds_of (hr.mono (by decide)) (by rfl) pass0 (pa_cons (pv 0) pa_nil)))
  (pss_cons (ps_if (pt_cmpR op_isN (pv 1) pe_non (nomark _)) (pss_one (ps_ret pe_non)) pss_nil)
  (pss_cons (ps_set (i := 2) sc_tree_of.nd rfl (Or.inl rfl) (pe_dcall0 D_new_tree (hr.mono (by decide)) (by rfl) pass0))
  (pss_cons (ps_for PassesOwn.never (by rfl) (kpiL K (pv 1)) (pg_name (i := 3) sc_tree_of.nd rfl (Or.inl rfl)) (pss_one (ps_if (pt_cmpR op_eq (pe_ix (kIxT K) (pe_dcall D_ask (hr.mono (by decide)) (by rfl) pass0 (pa_cons (pv 2) (pa_cons (pv 3) pa_nil))) pe_int (fun _ _ => rfl)) pe_str (nomark _)) (pss_one (ps_ret pe_non)) pss_nil)))
  (pss_one (ps_ret (pv 2))))))), ?_⟩
    refine ⟨_, rfl, a, st, rfl, ha, wd, sl, fun en H1 s1 => ?_, fun ds en q H1 s1 hq0 hdd => ?_⟩
    · exact ⟨_, rfl, rfl, _, rfl, iteT (k1 (by rw [en]; rfl) H1 s1)⟩
    · refine ⟨_, rfl, rfl, _, rfl, iteF ?_⟩
      have hmk := hm ds en
      have good := decA_good _ _ _ wd en
      rw [en] at k1 k2
      have k1 : runD F0 ds = none → ∀ H', Same H H' → Q .non H' := k1
      have k2 : ∀ F', runD F0 ds = some F' → ∀ c β H', Same H H' → H c = none → TR H' c F' β → (∀ b, Own F' β b → H b = none) → Q (.ref c) H' := k2
      cases hdd with
      | @lst _ xs _ hx hxs =>
      have xl : xs.length = ds.length := by rw [hxs.len, List.length_map]
      refine ⟨rfl, fun tr d hd1 htr hd H2 s2 g1 g2 => ?_⟩
      refine ⟨_, rfl, q, rfl, ⟨_, SqL.of (s2 _ _ hx)⟩, for_list (xs := xs) (fun i σ H' => ∃ (F' : Fm) (β : TA) (v3 : Option V), σ = [some (.ref a), some (.ref q), some (.ref tr), v3] ∧ TR H' tr F' β ∧ Same H1 H' ∧ (∀ b, Own F' β b → H1 b = none) ∧ Cap (mks (ds.take i)) F' ∧ runD F0 (ds.take i) = some F') ?_ ?_ ?_ ?_⟩
      · refine ⟨F0, _, none, rfl, TR.new0 hd1 g1 g2, s2, fun b hb => ?_, fun p ns e => ?_, by rw [List.take_zero]; rfl⟩
        · obtain ⟨p, hp, hb⟩ := hb
          rcases hb with hb | hb
          · have : b = tr := hb
            rw [this]; exact htr
          · have : b = d := hb
            rw [this]; exact hd
        · unfold F0 at e
          by_cases z : p = []
          · rw [if_pos z] at e; cases e; exact Nat.zero_le _
          · rw [if_neg z] at e; cases e
      · rintro i σ H' _ ⟨_, _, _, _, _, sx, _⟩
        exact SqL.of (sx _ _ hx)
      · rintro i x σ H' hi ⟨F', β, v3, rfl, t, sx, own, cap, run⟩
        obtain ⟨dd, hdd, hxd⟩ := hxs.getV hi
        obtain ⟨de, hde, rfl⟩ := map_get hdd
        have gd := good de (List.mem_of_getElem? hde)
        have cap' : Few F' := fun p ns e => by
          have h1 := cap p ns e
          have h2 : mks (ds.take i) ≤ mks ds := (List.take_sublist i ds).countP_le
          omega
        obtain ⟨p, r⟩ := de
        have ha : due F' p r = due F' p r := rfl
        have step : runD F0 (ds.take (i + 1)) = if isOkD (due F' p r).1 = true then some (due F' p r).2 else none := by rw [← take_snoc hde]; exact runD_snoc run
        refine ⟨_, rfl, _, rfl, tr, F', β, x, p, r, rfl, t, cap', hxd.same sx, good_ok gd.2 gd.1, fun v H3 β' t3 lf own3 hv => ?_⟩
        obtain ⟨z, rr, ez, hz⟩ := due_head (F := F') (p := p) (r := r)
        rw [ez] at hv
        obtain ⟨va, y1, y2, rfl, hva, hy1, hy2⟩ := hv.tup2
        cases hy1
        have s13 : Same H1 H3 := fun b o e => lf b o (sx b o e) fun q hq z => by
          have := own b ⟨q, hq, .inr z⟩
          rw [e] at this; cases this
        refine ⟨_, _, _, _, rfl, rfl, SqT.of hva, atC 0 rfl rfl, rfl, _, rfl, ?_⟩
        rcases hz with rfl | rfl
        · have ok : isOkD (due F' p r).1 = true := by rw [ez]; rfl
          rw [if_pos ok] at step
          refine iteF ⟨(due F' p r).2, β', _, rfl, t3, s13, fun b hb => ?_, ?_, step⟩
          · rcases own3 b hb with w | w
            · exact own b w
            · exact sx.free w
          · have := cap.due (p := p) (r := r)
            refine this.mono ?_
            rw [← take_snoc hde]
            unfold mks
            rw [List.countP_append, List.countP_cons, List.countP_nil]
            cases isMk r <;> simp
        · have nok : ¬ isOkD (due F' p r).1 = true := by
            rw [ez]
            intro z
            have z' : decide (("no" : Str) = "ok") = true := z
            revert z'
            decide +kernel
          rw [if_neg nok] at step
          refine iteT ?_
          refine k1 ?_ _ (s1.trans s13)
          -- a prefix that fails
          have pre : ∀ (as bs : List Deed) (G : Fm), runD G as = none → runD G (as ++ bs) = none := fun as => by
            induction as with
            | nil => intro bs G h; cases h
            | cons e as ih =>
              intro bs G h
              rw [List.cons_append]
              unfold runD at h ⊢
              by_cases c : isOkD (due G e.1 e.2).1 = true
              · rw [if_pos c] at h ⊢
                exact ih bs _ h
              · rw [if_neg c]
          rw [← List.take_append_drop (i + 1) ds]
          exact pre _ _ _ step
      · rintro σ H' ⟨F', β, v3, rfl, t, sx, own, cap, run⟩
        rw [xl, List.take_length] at run
        exact ⟨_, rfl, k2 F' run tr β H' (s1.trans sx) (s1.free htr) t fun b hb => s1.free (own b hb)⟩
end
end My

namespace My
open PySem L2
local macro_rules | `(tactic| walk_at "ne") => `(tactic| first | assumption | exact Ne.symm (by assumption) | exact ne_of_none (by assumption) (by assumption) | exact Ne.symm (ne_of_none (by assumption) (by assumption)))
local macro_rules | `(tactic| walk_at "hp") => `(tactic| first | assumption | with_reducible exact upd_same | (with_reducible refine Eq.trans (upd_ne ?_) ?_; rotate_left; walk_at "hp"; walk_at "ne"))
local macro_rules | `(tactic| walk_at "cnd") => `(tactic| first | omega | (show (0 : Int) < _; omega) | exact ⟨by omega, by omega⟩ | exact Or.inl ⟨by omega, by omega⟩ | exact Or.inr ⟨by omega, by omega⟩ | exact ⟨by omega, by omega, by decide⟩ | exact ⟨by omega, by omega, by omega⟩)
local macro_rules | `(tactic| walk_at "at") => `(tactic| first | exact atC 0 rfl rfl | exact atC 1 rfl rfl | exact atC 2 rfl rfl | exact atC 3 rfl rfl | exact atC 4 rfl rfl | exact atC 5 rfl rfl | exact atC 6 rfl rfl | exact atC 7 rfl rfl)
local macro_rules | `(tactic| walk_at "ix") => `(tactic| first | exact ixC 0 rfl (Nat.le_of_ble_eq_true rfl) | exact ixC 1 rfl (Nat.le_of_ble_eq_true rfl) | exact ixC 2 rfl (Nat.le_of_ble_eq_true rfl) | exact ixC 3 rfl (Nat.le_of_ble_eq_true rfl) | exact ixC 4 rfl (Nat.le_of_ble_eq_true rfl) | exact ixC 5 rfl (Nat.le_of_ble_eq_true rfl))
local macro_rules | `(tactic| walk_at "st") => `(tactic| first
  | refine ⟨_, rfl, ?_⟩
  | refine ⟨_, _, rfl, rfl, (by walk_at "cnd" : (_ : Prop)), ?_⟩
  | refine ⟨_, _, rfl, rfl, ?_⟩
  | refine ⟨rfl, ?_⟩
  | refine Or.inl ⟨_, rfl, ?_⟩
  | refine ⟨_, _, _, _, rfl, rfl, by exact SqL.of (by walk_at "hp"), by walk_at "at", ?_⟩
  | refine ⟨_, _, _, _, rfl, rfl, by exact SqT.of (by walk_at "hp"), by walk_at "at", ?_⟩
  | refine ⟨_, _, _, _, rfl, rfl, by walk_at "hp", by walk_at "ix", ?_⟩
  | refine ⟨_, _, rfl, Or.inl (by exact SqL.of (by walk_at "hp")), ?_⟩
  | refine ⟨_, _, rfl, Or.inr (by exact SqT.of (by walk_at "hp")), ?_⟩)
local macro_rules | `(tactic| walk_at "so") => `(tactic| first
  | refine ⟨_, _, _, _, _, rfl, by walk_at "hp", by assumption, by assumption, rfl, ?_⟩
  | refine ⟨_, _, _, _, rfl, by walk_at "hp", by assumption, by assumption, Nat.le_of_ble_eq_true rfl, ?_⟩
  | refine ⟨_, _, _, rfl, by walk_at "hp", rfl, ?_⟩
  | walk_at "st")
local macro_rules | `(tactic| walk_at "ro") => `(tactic| repeat walk_at "so")
local macro_rules | `(tactic| walk_at "run") => `(tactic| repeat walk_at "st")

theorem nodup_lenD {α : Type} [DecidableEq α] : ∀ {l ns : List α}, l.Nodup → (∀ x ∈ l, x ∈ ns) → l.length ≤ ns.length
  | [], _, _, _ => Nat.zero_le _
  | x :: l, ns, h, s => by
    obtain ⟨h1, h2⟩ := List.nodup_cons.mp h
    have hx := s x List.mem_cons_self
    have := nodup_lenD (l := l) (ns := ns.erase x) h2 fun y hy => (List.mem_erase_of_ne (fun e => h1 (by rw [← e]; exact hy))).mpr (s y (List.mem_cons_of_mem _ hy))
    rw [List.length_erase_of_mem hx] at this
    have : 0 < ns.length := List.length_pos_of_mem hx
    rw [List.length_cons]; omega
theorem upd_none_of {H : Hp} {a b : Addr} {o : HO} (h : upd H a o b = none) : H b = none := by
  by_cases z : b = a
  · rw [z, upd_same] at h; cases h
  · rw [upd_ne z] at h; exact h
theorem val_none {f : Int → V} {n : Int} : ∀ {xs : List Int}, n ∉ xs → valV (xs.map fun n => ((Sum.inl n : L2.Key), f n)) (Sum.inl n : L2.Key) = none
  | [], _ => rfl
  | m :: xs, h => by
    rw [List.map_cons, valV_neg (fun z => h (by rw [Sum.inl.inj z]; exact List.mem_cons_self))]
    exact val_none fun z => h (List.mem_cons_of_mem _ z)
theorem val_some {f : Int → V} {n : Int} : ∀ {xs : List Int}, n ∈ xs → valV (xs.map fun n => ((Sum.inl n : L2.Key), f n)) (Sum.inl n : L2.Key) = some (f n)
  | m :: xs, h => by
    rw [List.map_cons]
    by_cases z : m = n
    · rw [z, valV_pos rfl]
    · rw [valV_neg (fun w => z (Sum.inl.inj w))]
      exact val_some ((List.mem_cons.mp h).resolve_left fun w => z w.symm)
theorem take_nin {xs : List Int} {j : Nat} {n : Int} (h : xs.Nodup) (e : xs[j]? = some n) : n ∉ xs.take j := fun z => by
  have h2 : (xs.take (j + 1)).Nodup := h.sublist (List.take_sublist _ _)
  rw [← take_snoc e] at h2
  exact (List.nodup_append.mp h2).2.2 n z n (by simp) rfl
theorem PathV.ts {H H' : Hp} {v : V} {p : List Int} (h : PathV H v p) (s : TS H H') : PathV H' v p := by
  obtain ⟨a, e, ha⟩ := h
  exact ⟨a, e, s _ _ ha⟩
/-! ### the image's deeds -/
def isFileB (F : Fm) (q : List Int) : Bool := match F q with
  | some (.file _) => true
  | _ => false
def wordsOf (F : Fm) (q : List Int) : List Int := match F q with
  | some (.file ws) => ws
  | _ => []
def imgP (F : Fm) (q : List Int) : List Deed := (if q = [] then [] else [(q, .make (isFileB F q))]) ++ (if wordsOf F q = [] then [] else [(q, .put 0 (wordsOf F q))])
def imgD (F : Fm) (L : List (List Int)) : List Deed := L.flatMap (imgP F)
theorem lex_ext (q : List Int) (n : Int) (r : List Int) : lexL q (q ++ n :: r) = true := by
  induction q with
  | nil => rfl
  | cons x q ih =>
    rw [List.cons_append]
    unfold lexL
    rw [if_pos rfl]
    exact ih
theorem lex_sib (q : List Int) {n m : Int} (r s : List Int) (h : n < m) : lexL (q ++ n :: r) (q ++ m :: s) = true := by
  induction q with
  | nil =>
    show lexL (n :: r) (m :: s) = true
    unfold lexL
    rw [if_neg (by omega)]
    exact decide_eq_true h
  | cons x q ih =>
    rw [List.cons_append, List.cons_append]
    unfold lexL
    rw [if_pos rfl]
    exact ih
/-- the walk: L are walked, ps stand ahead, the last one first -/
structure II (F : Fm) (L ps : List (List Int)) : Prop where
  nod : (L ++ ps).Nodup
  inF : ∀ p ∈ L ++ ps, (F p).isSome = true
  cov : ∀ p, (F p).isSome = true → p ∈ L ∨ ∃ q ∈ ps, ∃ r, p = q ++ r
  par : ∀ p n, p ++ [n] ∈ L ++ ps → p ∈ L
  asc : L.Pairwise fun a b => lexL a b = true
  lt : ∀ a ∈ L, ∀ b ∈ ps, lexL a b = true
  stk : ps.Pairwise fun a b => ∀ r, lexL (b ++ r) a = true
theorem II.start {F : Fm} {ns : List Int} (h : F [] = some (.dir ns)) : II F [] [[]] := by
  refine ⟨by simp, fun p hp => ?_, fun p _ => .inr ⟨[], by simp, p, rfl⟩, fun p n hp => ?_, .nil, fun a ha => (by cases ha), List.pairwise_singleton _ _⟩
  · have : p = [] := by simpa using hp
    rw [this, h]; rfl
  · have : p ++ [n] = [] := by simpa using hp
    simp at this
theorem II.step {H : Hp} {a0 : Addr} {F : Fm} {α : TA} (t : TR H a0 F α) {L ps : List (List Int)} {q : List Int} {x : Part} {ms : List Int} (h : II F L (ps ++ [q])) (hq : F q = some x) (hm : (∃ ws, x = .file ws ∧ ms = []) ∨ ∃ ns, x = .dir ns ∧ ms.Perm ns ∧ ms.Pairwise (· ≥ ·)) :
    II F (L ++ [q]) (ps ++ ms.map fun n => q ++ [n]) := by
  have kid : ms.Nodup ∧ ms.Pairwise (· > ·) ∧ ∀ n, n ∈ ms ↔ (F (q ++ [n])).isSome = true := by
    rcases hm with ⟨ws, rfl, rfl⟩ | ⟨ns, rfl, hp, hs⟩
    · exact ⟨List.nodup_nil, .nil, fun n => ⟨fun z => (by cases z), fun z => (by rw [pre_file t hq n []] at z; cases z)⟩⟩
    · obtain ⟨_, _, h3, _, h5⟩ := t.dir q ns hq
      have nd := hp.nodup_iff.mpr h3
      refine ⟨nd, ?_, fun n => by rw [hp.mem_iff]; exact h5 n⟩
      exact (List.pairwise_and_iff.mpr ⟨hs, nd⟩ : ms.Pairwise fun a b => a ≥ b ∧ a ≠ b).imp fun {a b} z => by omega
  obtain ⟨knd, kgt, kmem⟩ := kid
  have nod := h.nod
  have qL : q ∉ L := fun z => (List.nodup_append.mp nod).2.2 q z q (by simp) rfl
  have kidN : ∀ n, q ++ [n] ∉ L ++ (ps ++ [q]) := fun n z => qL (h.par q n z)
  have stk := List.pairwise_append.mp h.stk
  have sub : ∀ p, p ∈ L ++ [q] ++ (ps ++ ms.map fun n => q ++ [n]) ↔ p ∈ L ++ (ps ++ [q]) ∨ ∃ n ∈ ms, p = q ++ [n] := fun p => by
    simp only [List.mem_append, List.mem_map, List.mem_singleton]
    constructor
    · rintro ((z | z) | z | ⟨n, hn, z⟩)
      · exact .inl (.inl z)
      · exact .inl (.inr (.inr z))
      · exact .inl (.inr (.inl z))
      · exact .inr ⟨n, hn, z.symm⟩
    · rintro ((z | z | z) | ⟨n, hn, z⟩)
      · exact .inl (.inl z)
      · exact .inr (.inl z)
      · exact .inl (.inr z)
      · exact .inr (.inr ⟨n, hn, z.symm⟩)
  refine ⟨?_, fun p hp => ?_, fun p hp => ?_, fun p n hp => ?_, ?_, fun a ha b hb => ?_, ?_⟩
  · have n2 : (ms.map fun n => q ++ [n]).Nodup := List.pairwise_map.mpr (knd.imp fun {a b} ne e => ne (snoc_inj e).2)
    have n1 : (L ++ [q] ++ ps).Nodup := (List.Perm.nodup_iff (by rw [List.append_assoc]; exact (List.perm_append_comm (l₁ := ps) (l₂ := [q])).append_left L |>.symm)).mpr nod
    rw [← List.append_assoc]
    refine List.nodup_append.mpr ⟨n1, n2, fun a ha b hb e => ?_⟩
    obtain ⟨n, _, rfl⟩ := List.mem_map.mp hb
    subst e
    refine kidN n ?_
    simp only [List.mem_append, List.mem_singleton] at ha ⊢
    rcases ha with (z | z) | z
    · exact .inl z
    · exact .inr (.inr z)
    · exact .inr (.inl z)
  · rcases (sub p).mp hp with z | ⟨n, hn, rfl⟩
    · exact h.inF p z
    · exact (kmem n).mp hn
  · rcases h.cov p hp with z | ⟨r, hr, s, e⟩
    · exact .inl (List.mem_append_left _ z)
    · rcases List.mem_append.mp hr with z | z
      · exact .inr ⟨r, List.mem_append_left _ z, s, e⟩
      · have er : r = q := by simpa using z
        subst er
        cases s with
        | nil => exact .inl (by rw [e]; simp)
        | cons n s =>
          refine .inr ⟨r ++ [n], List.mem_append_right _ (List.mem_map.mpr ⟨n, (kmem n).mpr ?_, rfl⟩), s, by rw [e]; simp⟩
          cases w : F (r ++ [n]) with
          | some y => rfl
          | none =>
            have := pre_none t s _ w
            rw [e, show r ++ n :: s = r ++ [n] ++ s by simp, this] at hp
            cases hp
  · rcases (sub _).mp hp with z | ⟨m, hm, e⟩
    · exact List.mem_append_left _ (h.par p n z)
    · rw [(snoc_inj e).1]; simp
  · refine List.pairwise_append.mpr ⟨h.asc, List.pairwise_singleton _ _, fun a ha b hb => ?_⟩
    have : b = q := by simpa using hb
    rw [this]
    exact h.lt a ha q (by simp)
  · rcases List.mem_append.mp hb with z | z
    · rcases List.mem_append.mp ha with w | w
      · exact h.lt a w b (List.mem_append_left _ z)
      · have : a = q := by simpa using w
        rw [this]
        have := stk.2.2 b z q (by simp) []
        rw [List.append_nil] at this
        exact this
    · obtain ⟨n, hn, rfl⟩ := List.mem_map.mp z
      rcases List.mem_append.mp ha with w | w
      · exact lexL_trans _ _ _ (h.lt a w q (by simp)) (lex_ext q n [])
      · have : a = q := by simpa using w
        rw [this]; exact lex_ext q n []
  · refine List.pairwise_append.mpr ⟨stk.1, List.pairwise_map.mpr (kgt.imp fun {a b} g r => ?_), fun a ha b hb r => ?_⟩
    · rw [List.append_assoc]
      exact lex_sib q r [] g
    · obtain ⟨n, hn, rfl⟩ := List.mem_map.mp hb
      rw [List.append_assoc]
      exact stk.2.2 a ha q (by simp) ([n] ++ r)
/-! ### its length, its words -/
theorem imgP_len {F : Fm} {q : List Int} (h3 : q.length ≤ 3) (h48 : (wordsOf F q).length ≤ 48) : ((imgP F q).flatMap enc).length ≤ 62 := by
  unfold imgP
  rw [List.flatMap_append, List.length_append]
  have a : ((if q = [] then [] else [(q, Rq.make (isFileB F q))] : List Deed).flatMap enc).length ≤ 5 := by
    by_cases e : q = []
    · rw [if_pos e]; simp
    · rw [if_neg e]
      simp [enc, encR]
      omega
  have b : ((if wordsOf F q = [] then [] else [(q, Rq.put 0 (wordsOf F q))] : List Deed).flatMap enc).length ≤ 57 := by
    by_cases e : wordsOf F q = []
    · rw [if_pos e]; simp
    · rw [if_neg e]
      simp [enc, encR]
      omega
  omega
theorem imgD_len {F : Fm} : ∀ {L : List (List Int)}, (∀ q ∈ L, q.length ≤ 3 ∧ (wordsOf F q).length ≤ 48) → ((imgD F L).flatMap enc).length ≤ 62 * L.length
  | [], _ => Nat.le_refl _
  | q :: L, h => by
    have ih := imgD_len (F := F) (L := L) fun p hp => h p (List.mem_cons_of_mem _ hp)
    have h0 := imgP_len (h q List.mem_cons_self).1 (h q List.mem_cons_self).2
    unfold imgD at ih ⊢
    rw [List.flatMap_cons, List.flatMap_append, List.length_append, List.length_cons]
    omega
theorem imgD_snoc {F : Fm} {L : List (List Int)} {q : List Int} : imgD F (L ++ [q]) = imgD F L ++ imgP F q := by
  unfold imgD
  rw [List.flatMap_append]
  simp
end My

namespace My
open PySem L2
local macro_rules | `(tactic| walk_at "ne") => `(tactic| first | assumption | exact Ne.symm (by assumption) | exact ne_of_none (by assumption) (by assumption) | exact Ne.symm (ne_of_none (by assumption) (by assumption)))
local macro_rules | `(tactic| walk_at "hp") => `(tactic| first | assumption | with_reducible exact upd_same | (with_reducible refine Eq.trans (upd_ne ?_) ?_; rotate_left; walk_at "hp"; walk_at "ne"))
local macro_rules | `(tactic| walk_at "cnd") => `(tactic| first | omega | (show (0 : Int) < _; omega) | exact ⟨by omega, by omega⟩ | exact Or.inl ⟨by omega, by omega⟩ | exact Or.inr ⟨by omega, by omega⟩ | exact ⟨by omega, by omega, by decide⟩ | exact ⟨by omega, by omega, by omega⟩)
local macro_rules | `(tactic| walk_at "at") => `(tactic| first | exact atC 0 rfl rfl | exact atC 1 rfl rfl | exact atC 2 rfl rfl | exact atC 3 rfl rfl | exact atC 4 rfl rfl | exact atC 5 rfl rfl | exact atC 6 rfl rfl | exact atC 7 rfl rfl)
local macro_rules | `(tactic| walk_at "ix") => `(tactic| first | exact ixC 0 rfl (Nat.le_of_ble_eq_true rfl) | exact ixC 1 rfl (Nat.le_of_ble_eq_true rfl) | exact ixC 2 rfl (Nat.le_of_ble_eq_true rfl) | exact ixC 3 rfl (Nat.le_of_ble_eq_true rfl) | exact ixC 4 rfl (Nat.le_of_ble_eq_true rfl) | exact ixC 5 rfl (Nat.le_of_ble_eq_true rfl))
local macro_rules | `(tactic| walk_at "st") => `(tactic| first
  | refine ⟨_, rfl, ?_⟩
  | refine ⟨_, _, rfl, rfl, (by walk_at "cnd" : (_ : Prop)), ?_⟩
  | refine ⟨_, _, rfl, rfl, ?_⟩
  | refine ⟨rfl, ?_⟩
  | refine Or.inl ⟨_, rfl, ?_⟩
  | refine ⟨_, _, _, _, rfl, rfl, by exact SqL.of (by walk_at "hp"), by walk_at "at", ?_⟩
  | refine ⟨_, _, _, _, rfl, rfl, by exact SqT.of (by walk_at "hp"), by walk_at "at", ?_⟩
  | refine ⟨_, _, _, _, rfl, rfl, by walk_at "hp", by walk_at "ix", ?_⟩
  | refine ⟨_, _, rfl, Or.inl (by exact SqL.of (by walk_at "hp")), ?_⟩
  | refine ⟨_, _, rfl, Or.inr (by exact SqT.of (by walk_at "hp")), ?_⟩)
local macro_rules | `(tactic| walk_at "so") => `(tactic| first
  | refine ⟨_, _, _, _, _, rfl, by walk_at "hp", by assumption, by assumption, rfl, ?_⟩
  | refine ⟨_, _, _, _, rfl, by walk_at "hp", by assumption, by assumption, Nat.le_of_ble_eq_true rfl, ?_⟩
  | refine ⟨_, _, _, rfl, by walk_at "hp", rfl, ?_⟩
  | walk_at "st")
local macro_rules | `(tactic| walk_at "ro") => `(tactic| repeat walk_at "so")
local macro_rules | `(tactic| walk_at "run") => `(tactic| repeat walk_at "st")

def spImage : Sp := fun vs H Q _ => ∃ (a0 : Addr) (F : Fm) (α : TA) (LL : List (List Int)), vs = [.ref a0] ∧ TR H a0 F α ∧ LL.length ≤ 60 ∧ (∀ p, (F p).isSome = true → p ∈ LL) ∧ (∀ p, (F p).isSome = true → p.length ≤ 3) ∧ (∀ p ns, F p = some (.dir ns) → ns.length < 60) ∧
  ∀ L q H', Same H H' → H q = none → L.Pairwise (fun a b => lexL a b = true) → (∀ p, p ∈ L ↔ (F p).isSome = true) → H' q = some (.lst (((imgD F L).flatMap enc).map V.int)) → Q (.ref q) H'
theorem valV_pos1 {k : L2.Key} {v : V} : valV [(k, v)] k = some v := valV_pos rfl
section
variable {P : Program} {w : World} {K : PySem.W.Frag} {mg : Str → Option Value} {base : Heap} {A_PARTS : Addr}
abbrev s_image_of : Stmt := topS 39
abbrev ns_image_of : List Str := ["tree", "stream", "ahead", "path", "part", "name"]
theorem sc_image_of : FnScope ns_image_of ["tree"] (defScope s_image_of) := ⟨rfl, rfl, rfl, by decide +kernel, rfl, by decide +kernel, by decide +kernel⟩

theorem ok_image_of {f : Addr} {fd : FuncData} (F : Fun K "image_of" "image_of" s_image_of f fd) (T : Txt K mg  w A_PARTS) (D_is_directory : Dfn P w K mg base CX0 1 "is_directory" ["part"] spIsDir) (D_written : Dfn P w K mg base CX0 1 "written" ["deed"] spWritten) : FnOk P w K mg base CX0 2 f fd ["tree"] spImage := by
  refine F.ok sc_image_of (fun vs H Q E h => ?_) (fun cdv A outer s H vs Q E hr h => ?_)
  · obtain ⟨a0, F, α, LL, rfl, _⟩ := h
    rfl
  · obtain ⟨a0, Fm, α, LL, rfl, t, hLL, hN, hp3, few, k⟩ := h
    refine ⟨_, (pss_cons (ps_set (i := 1) sc_image_of.nd rfl (Or.inl rfl) (pe_lst pa_nil))
  (pss_cons (ps_set (i := 2) sc_image_of.nd rfl (Or.inl rfl) (pe_lst (pa_cons (pe_tup (pa_cons (pe_tup pa_nil) (pa_cons (pv 0) pa_nil))) pa_nil)))
  (pss_cons (ps_while PassesOwn.never (pt_truth (pv 2) (by intro _; rfl)) (pss_cons (ps_asg (kBM0 K PySem.F.plainAttrs_list PySem.F.slot_list_pop PySem.F.type_list_pop mt_pop (pv 2)) (kpgT K (n := 2) (by rfl) (pgs_cons (pg_name (i := 3) sc_image_of.nd rfl (Or.inr rfl)) (pgs_cons (pg_name (i := 4) sc_image_of.nd rfl (Or.inr rfl)) pgs_nil))))
  (C8.pss_cut (ps_if (pt_truth (pv 3) (by intro _; rfl)) (pss_one (ps_expr (kBM K PySem.F.plainAttrs_list PySem.F.slot_list_extend PySem.F.type_list_extend mt_extend (pv 1) (pa_cons (pe_dcall D_written (hr.mono (by decide)) (by rfl) pass0 (pa_cons (pe_tup (pa_cons pe_str (pa_cons (pv 3) (pa_cons (pe_ifExp (pt_val (pe_dcall D_is_directory (hr.mono (by decide)) (by rfl) pass0 (pa_cons (pv 4) pa_nil))) pe_str pe_str) pa_nil)))) pa_nil)) pa_nil)))) pss_nil)
  (pss_one (ps_if (pt_val (pe_dcall D_is_directory (hr.mono (by decide)) (by rfl) pass0 (pa_cons (pv 4) pa_nil))) (pss_one (ps_expr (kBM K PySem.F.plainAttrs_list PySem.F.slot_list_extend PySem.F.type_list_extend mt_extend (pv 2) (pa_cons (pe_lc (own := [("name", 5)]) (by rfl) sc_image_of.nd (kpiL K (pe_callBK (cr_sortedDR (by rfl)) (by rfl) T.b_sorted (by decide +kernel) (pa_cons (pe_dget (units1 hr) (pv 4) pe_str (fun _ _ => rfl)) pa_nil) (pk_cons pe_bl pk_nil))) (blkOk_by (N := ns_image_of) (sc := defScope s_image_of) (by decide +kernel)) (fun _ _ _ _ _ => (pg_name (i := 5) sc_image_of.nd rfl (Or.inl rfl))) (fun _ _ _ _ _ => pts_nil) (fun _ _ _ _ _ => (pe_tup (pa_cons (pe_op (kCatT K) (pv 3) (pe_tup (pa_cons (pv 5) pa_nil))) (pa_cons (pe_dget (units1 hr) (pe_dget (units1 hr) (pv 4) pe_str (fun _ _ => rfl)) (pv 5) (fun _ _ => rfl)) pa_nil))))) pa_nil)))) (pss_one (ps_if (pt_truth (pe_dget (units1 hr) (pv 4) pe_str (fun _ _ => rfl)) (by intro _; rfl)) (pss_one (ps_expr (kBM K PySem.F.plainAttrs_list PySem.F.slot_list_extend PySem.F.type_list_extend mt_extend (pv 1) (pa_cons (pe_dcall D_written (hr.mono (by decide)) (by rfl) pass0 (pa_cons (pe_tup (pa_cons pe_str (pa_cons (pv 3) (pa_cons pe_int (pa_cons (pe_callTy (kTupOf K) (by rfl) T.b_tuple (by decide +kernel) (pa_cons (pe_dget (units1 hr) (pv 4) pe_str (fun _ _ => rfl)) pa_nil)) pa_nil))))) pa_nil)) pa_nil)))) pss_nil)))))))
  (pss_one (ps_ret (pv 1)))))), ?_⟩
    refine ⟨szl rfl, fun S hS => ⟨szl rfl, fun e0 he0 => ⟨_, rfl, szl rfl, fun t0 ht0 => ⟨szl rfl, fun A0 hA0 => ?_⟩⟩⟩⟩
    have s1 := Same.new (o := .lst []) hS
    have hS1 : (upd H S (.lst [])) S = some (.lst []) := upd_same
    generalize upd H S (.lst []) = H1 at s1 hS1 he0 ht0 hA0 ⊢
    have s2 := Same.new (o := .tup []) he0
    have he2 : (upd H1 e0 (.tup [])) e0 = some (.tup []) := upd_same
    generalize upd H1 e0 (.tup []) = H2 at s2 he2 ht0 hA0 ⊢
    have s3 := Same.new (o := .tup [.ref e0, .ref a0]) ht0
    have ht3 : (upd H2 t0 (.tup [.ref e0, .ref a0])) t0 = some (.tup [.ref e0, .ref a0]) := upd_same
    generalize upd H2 t0 (.tup [.ref e0, .ref a0]) = H3 at s3 ht3 hA0 ⊢
    have s4 := Same.new (o := .lst [.ref t0]) hA0
    have hA4 : (upd H3 A0 (.lst [.ref t0])) A0 = some (.lst [.ref t0]) := upd_same
    have fA := ((s1.trans s2).trans s3).free hA0
    have nSA : S ≠ A0 := ne_of_none ((s2.trans s3) _ _ hS1) hA0
    generalize upd H3 A0 (.lst [.ref t0]) = H4 at s4 hA4
    have s04 := ((s1.trans s2).trans s3).trans s4
    obtain ⟨ns0, hroot⟩ := t.top
    refine ⟨fun m σ H' => ∃ (L ps : List (List Int)) (ts : List Addr) (v3 v4 v5 : Option V), σ = [some (.ref a0), some (.ref S), some (.ref A0), v3, v4, v5] ∧ II Fm L ps ∧ m = 60 - L.length ∧ Same H H' ∧ H' S = some (.lst (((imgD Fm L).flatMap enc).map V.int)) ∧ H' A0 = some (.lst (ts.map V.ref)) ∧ ts.length = ps.length ∧ ∀ (i : Nat) t' p, ts[i]? = some t' → ps[i]? = some p → ∃ va, PathV H' va p ∧ H' t' = some (.tup [va, .ref (α.nd p)]), ⟨_, [], [[]], [t0], none, none, none, rfl, II.start hroot, rfl, s04, ((s2.trans s3).trans s4) _ _ hS1, hA4, rfl, fun i t' p h1 h2 => ?_⟩, ?_⟩
    · cases i with
      | zero =>
        cases h1
        cases h2
        exact ⟨.ref e0, ⟨e0, rfl, (s3.trans s4) _ _ he2⟩, by rw [t.root]; exact s4 _ _ ht3⟩
      | succ i => cases h1
    · rintro m σ H' ⟨L, ps, ts, v3, v4, v5, rfl, ii, rfl, sx, hSx, hA, tl, ht⟩
      refine ⟨_, rfl, _, .inl ⟨_, SqL.of hA, rfl⟩, ?_⟩
      by_cases hps : ps = []
      · subst hps
        have : ts = [] := List.length_eq_zero_iff.mp tl
        subst this
        refine iteF ⟨_, rfl, k L S H' sx hS ii.asc (fun p => ⟨fun hp => ii.inF p (by simpa using hp), fun hp => ?_⟩) hSx⟩
        rcases ii.cov p hp with z | ⟨r, hr, _⟩
        · exact z
        · cases hr
      · have tne : ts ≠ [] := fun z => hps (List.length_eq_zero_iff.mp (by rw [← tl, z]; rfl))
        generalize eq : ps.getLast hps = q
        generalize et : ts.getLast tne = tq
        generalize eps : ps.dropLast = ps0
        generalize ets : ts.dropLast = ts0
        have e1 : ps = ps0 ++ [q] := by rw [← eps, ← eq]; exact (List.dropLast_concat_getLast hps).symm
        have e2 : ts = ts0 ++ [tq] := by rw [← ets, ← et]; exact (List.dropLast_concat_getLast tne).symm
        clear eq et eps ets
        subst e1
        subst e2
        have tl0 : ts0.length = ps0.length := by simpa using tl
        obtain ⟨vq, hvq, htq⟩ := ht ts0.length tq q (by simp) (by rw [tl0]; simp)
        have ht0' : ∀ (i : Nat) t' p, ts0[i]? = some t' → ps0[i]? = some p → ∃ va, PathV H' va p ∧ H' t' = some (.tup [va, .ref (α.nd p)]) := fun i t' p h1 h2 => ht i t' p (by rw [List.getElem?_append_left (List.getElem?_eq_some_iff.mp h1).1]; exact h1) (by rw [List.getElem?_append_left (List.getElem?_eq_some_iff.mp h2).1]; exact h2)
        have etr : (!((ts0 ++ [tq]).map V.ref).isEmpty) = true := by simp
        rw [etr]
        have lens : L.length + ps0.length < 60 := by
          have := nodup_lenD (l := L ++ (ps0 ++ [q])) (ns := LL) ii.nod fun p hp => hN p (ii.inF p hp)
          simp at this
          omega
        have hqs := ii.inF q (by simp)
        have q3 := hp3 q hqs
        have wl : ∀ p, (wordsOf Fm p).length ≤ 48 := fun p => by
          unfold wordsOf
          cases e : Fm p with
          | none => exact Nat.zero_le _
          | some x =>
            cases x with
            | dir ns => exact Nat.zero_le _
            | file ws => exact (t.file p ws e).2.2
        have imgl : ((imgD Fm L).flatMap enc).length ≤ 62 * L.length := imgD_len fun p hp => ⟨hp3 p (ii.inF p (List.mem_append_left _ hp)), wl p⟩
        refine iteT ⟨fun σ' H'' => ∃ m', m' < 60 - L.length ∧ ∃ (L ps : List (List Int)) (ts : List Addr) (v3 v4 v5 : Option V), σ' = [some (.ref a0), some (.ref S), some (.ref A0), v3, v4, v5] ∧ II Fm L ps ∧ m' = 60 - L.length ∧ Same H H'' ∧ H'' S = some (.lst (((imgD Fm L).flatMap enc).map V.int)) ∧ H'' A0 = some (.lst (ts.map V.ref)) ∧ ts.length = ps.length ∧ ∀ (i : Nat) t' p, ts[i]? = some t' → ps[i]? = some p → ∃ va, PathV H'' va p ∧ H'' t' = some (.tup [va, .ref (α.nd p)]), fun _ _ h => h, ?_⟩
        have h2A : (upd H' A0 (.lst (ts0.map V.ref))) A0 = some (.lst (ts0.map V.ref)) := upd_same
        have o2 : ∀ b o, H' b = some o → b ≠ A0 → (upd H' A0 (.lst (ts0.map V.ref))) b = some o := fun b o e n => by rw [upd_ne n]; exact e
        have ts2 : TS H' (upd H' A0 (.lst (ts0.map V.ref))) := fun b ys e => o2 b _ e (ne_of e hA (by intro z; cases z))
        have s2' : Same H (upd H' A0 (.lst (ts0.map V.ref))) := fun b o e => o2 b o (sx b o e) (ne_of_none e fA)
        have hS2 := o2 _ _ hSx nSA
        refine ⟨_, rfl, .inl ⟨rfl, _, SqL.of hA⟩, A0, (ts0 ++ [tq]).map V.ref, .ref tq, rfl, rfl, hA, by simp, ?_⟩
        rw [show ((ts0 ++ [tq]).map V.ref).dropLast = ts0.map V.ref by simp]
        have hvq2 := hvq.ts ts2
        have htq2 := ts2 _ _ htq
        have ht2 : ∀ (i : Nat) t' p, ts0[i]? = some t' → ps0[i]? = some p → ∃ va, PathV (upd H' A0 (.lst (ts0.map V.ref))) va p ∧ (upd H' A0 (.lst (ts0.map V.ref))) t' = some (.tup [va, .ref (α.nd p)]) := fun i t' p h1 h2 => by
          obtain ⟨va, g1, g2⟩ := ht0' i t' p h1 h2
          exact ⟨va, g1.ts ts2, ts2 _ _ g2⟩
        generalize upd H' A0 (.lst (ts0.map V.ref)) = G2 at h2A s2' hS2 hvq2 htq2 ht2
        refine ⟨tq, _, rfl, SqT.of htq2, rfl, _, _, rfl, _, _, rfl, rfl, ?_⟩
        obtain ⟨qa, rfl, hqa⟩ := id hvq2
        obtain ⟨x, hqx⟩ := Option.isSome_iff_exists.mp hqs
        have isdir : ∀ G, Same H G → ∃ kvs, G (α.nd q) = some (.dK kvs) ∧ (valV kvs kN).isSome = !isFileB Fm q := fun G sG => by
          unfold isFileB
          rw [hqx]
          cases x with
          | dir ns => exact ⟨_, sG _ _ (t.dir q ns hqx).1, by rw [valV_pos1]; rfl⟩
          | file ws => exact ⟨_, sG _ _ (t.file q ws hqx).1, by rw [valV_neg kWN]; rfl⟩
        -- the stream behind the first if
        refine ⟨fun σ' G => σ' = [some (.ref a0), some (.ref S), some (.ref A0), some (.ref qa), some (.ref (α.nd q)), v5] ∧ Same H G ∧ G S = some (.lst (((imgD Fm L).flatMap enc ++ (if q = [] then [] else enc (q, .make (isFileB Fm q)))).map V.int)) ∧ G A0 = some (.lst (ts0.map V.ref)) ∧ PathV G (.ref qa) q ∧ ∀ (i : Nat) t' p, ts0[i]? = some t' → ps0[i]? = some p → ∃ va, PathV G va p ∧ G t' = some (.tup [va, .ref (α.nd p)]), ?_, ?_⟩
        · refine ⟨_, rfl, _, .inr (.inl ⟨_, SqT.of hqa, rfl⟩), ?_⟩
          by_cases hqe : q = []
          · subst hqe
            refine iteF ⟨rfl, s2', ?_, h2A, hvq2, ht2⟩
            rw [hS2, if_pos rfl, List.append_nil]
          · have ne : (!(q.map V.int).isEmpty) = true := by cases q with | nil => exact absurd rfl hqe | cons a r => rfl
            rw [ne]
            refine iteT ⟨_, rfl, .inl ⟨rfl, _, SqL.of hS2⟩, ?_⟩
            obtain ⟨kvs, hk1, hk2⟩ := isdir G2 s2'
            refine ⟨_, rfl, _, rfl, _, _, rfl, hk1, _, rfl, ?_⟩
            rw [hk2]
            cases hb : isFileB Fm q with
            | false =>
              refine iteT ⟨szl rfl, fun dq hdq => ?_⟩
              have s5 := Same.new (o := .tup [.str "make", .ref qa, .str "dir"]) hdq
              have hd5 : Dt (upd G2 dq (.tup [.str "make", .ref qa, .str "dir"])) (.ref dq) (rqD q (.make false)) := .tup upd_same (.cons (.str _) (.cons ((dt_path hvq2).same s5) (.cons (.str _) .nil)))
              generalize upd G2 dq (.tup [.str "make", .ref qa, .str "dir"]) = G3 at s5 hd5
              refine ⟨.ref dq, q, .make false, rfl, hd5, trivial, (by show q.length ≤ 5000; omega), fun e He se he0' hel => ?_⟩
              have s56 := s5.trans se
              refine ⟨S, e, _, _, rfl, rfl, s56 _ _ hS2, hel, szn (by rw [List.length_map, List.length_map]; have : (enc (q, Rq.make false)).length ≤ 5 := (by simp [enc, encR]; omega); omega), ?_⟩
              rw [← List.map_append]
              have tsF : TS G2 (upd He S (.lst (((imgD Fm L).flatMap enc ++ enc (q, .make false)).map V.int))) := fun b ys e => by
                rw [upd_ne (ne_of (s56 _ _ e) (s56 _ _ hS2) (by intro z; cases z))]; exact s56 _ _ e
              refine ⟨rfl, Same.mut (s2'.trans s56) hS, ?_, by rw [upd_ne nSA.symm]; exact s56 _ _ h2A, hvq2.ts tsF, fun i t' p h1 h2 => ?_⟩
              · rw [upd_same, if_neg hqe]
              · obtain ⟨va, g1, g2⟩ := ht2 i t' p h1 h2
                exact ⟨va, g1.ts tsF, tsF _ _ g2⟩
            | true =>
              refine iteF ⟨szl rfl, fun dq hdq => ?_⟩
              have s5 := Same.new (o := .tup [.str "make", .ref qa, .str "file"]) hdq
              have hd5 : Dt (upd G2 dq (.tup [.str "make", .ref qa, .str "file"])) (.ref dq) (rqD q (.make true)) := .tup upd_same (.cons (.str _) (.cons ((dt_path hvq2).same s5) (.cons (.str _) .nil)))
              generalize upd G2 dq (.tup [.str "make", .ref qa, .str "file"]) = G3 at s5 hd5
              refine ⟨.ref dq, q, .make true, rfl, hd5, trivial, (by show q.length ≤ 5000; omega), fun e He se he0' hel => ?_⟩
              have s56 := s5.trans se
              refine ⟨S, e, _, _, rfl, rfl, s56 _ _ hS2, hel, szn (by rw [List.length_map, List.length_map]; have : (enc (q, Rq.make true)).length ≤ 5 := (by simp [enc, encR]; omega); omega), ?_⟩
              rw [← List.map_append]
              have tsF : TS G2 (upd He S (.lst (((imgD Fm L).flatMap enc ++ enc (q, .make true)).map V.int))) := fun b ys e => by
                rw [upd_ne (ne_of (s56 _ _ e) (s56 _ _ hS2) (by intro z; cases z))]; exact s56 _ _ e
              refine ⟨rfl, Same.mut (s2'.trans s56) hS, ?_, by rw [upd_ne nSA.symm]; exact s56 _ _ h2A, hvq2.ts tsF, fun i t' p h1 h2 => ?_⟩
              · rw [upd_same, if_neg hqe]
              · obtain ⟨va, g1, g2⟩ := ht2 i t' p h1 h2
                exact ⟨va, g1.ts tsF, tsF _ _ g2⟩
        · rintro σ' G ⟨rfl, sG, hSG, hAG, hqG, htG⟩
          have imgq : ∀ e2, imgP Fm q = (if q = [] then [] else [(q, .make (isFileB Fm q))]) ++ e2 → ((imgD Fm (L ++ [q])).flatMap enc) = ((imgD Fm L).flatMap enc ++ (if q = [] then [] else enc (q, .make (isFileB Fm q)))) ++ e2.flatMap enc := fun e2 he2 => by
            rw [imgD_snoc, List.flatMap_append, he2, List.flatMap_append, List.append_assoc]
            congr 2
            by_cases e : q = []
            · rw [if_pos e, if_pos e]; rfl
            · rw [if_neg e, if_neg e]; simp
          have slen : ((imgD Fm L).flatMap enc ++ (if q = [] then [] else enc (q, .make (isFileB Fm q)))).length ≤ 62 * L.length + 5 := by
            rw [List.length_append]
            by_cases e : q = []
            · rw [if_pos e, List.length_nil]; omega
            · rw [if_neg e]
              have : (enc (q, Rq.make (isFileB Fm q))).length ≤ 5 := by simp [enc, encR]; omega
              omega
          generalize hSt : (imgD Fm L).flatMap enc ++ (if q = [] then [] else enc (q, .make (isFileB Fm q))) = stn at hSG imgq slen
          cases x with
          | dir ns =>
            obtain ⟨h1, h2, h3, h4, h5⟩ := t.dir q ns hqx
            have hk := sG _ _ h1
            have dgA : ∀ G', Same G G' → DGet G' (α.nd q) (kV kN) (some (.ref (α.inn q))) := fun G' s => by
              have := DGet.k (k := kN) (s _ _ hk)
              rw [valV_pos1] at this
              exact this
            refine ⟨_, rfl, _, _, rfl, hk, _, rfl, ?_⟩
            rw [valV_pos1]
            refine iteT ⟨_, rfl, .inl ⟨rfl, _, SqL.of hAG⟩, _, rfl, α.nd q, _, rfl, dgA G (Same.refl _), α.inn q, _, ns, rfl, rfl, .inl (sG _ _ h2), by rw [List.map_map]; rfl, fun ms sr hperm hsrt hsr => ?_⟩
            have s5 := Same.new (o := .lst (ms.map V.int)) hsr
            have hsr5 : (upd G sr (.lst (ms.map V.int))) sr = some (.lst (ms.map V.int)) := upd_same
            generalize upd G sr (.lst (ms.map V.int)) = G5 at s5 hsr5
            have ml : ms.length ≤ 60 := by rw [hperm.length_eq]; exact h4
            refine ⟨sr, rfl, ⟨_, SqL.of hsr5⟩, fun D hD => lc_it (walk_list (xs := ms.map V.int)) (fun i G' => Same G5 G' ∧ ∃ ts2 : List Addr, ts2.length = i ∧ G' D = some (.lst (ts2.map V.ref)) ∧ ∀ (j : Nat) t' n, ts2[j]? = some t' → ms[j]? = some n → ∃ va, PathV G' va (q ++ [n]) ∧ G' t' = some (.tup [va, .ref (α.nd (q ++ [n]))])) ?_ ?_ ?_ ?_⟩
            · exact ⟨Same.new hD, [], rfl, upd_same, fun j t' n h => (by cases h)⟩
            · rintro i G' _ ⟨s, _⟩
              exact SqL.of (s _ _ hsr5)
            · rintro i y G' G'' hi ⟨s6, ts2, tl2, hx2, htt2⟩ ⟨rfl, hy⟩
              obtain ⟨n, hn, rfl⟩ := map_get hy
              have hnm : n ∈ ns := hperm.mem_iff.mp (List.mem_of_getElem? hn)
              have s56 := s5.trans s6
              refine ⟨rfl, ?_⟩
              refine (show _ from ?_)
              refine ⟨_, rfl, _, rfl, szl rfl, fun e1 he1 => ?_⟩
              refine r_catD (ds := q.map PyData.int) (es := [.int n]) ((dt_path (hqG.same s56)).same (Same.new he1)) (.tup upd_same (.cons (.int _) .nil)) (by simp; omega) fun vv H7 s7 hv => ?_
              have s67 := (Same.new (o := .tup [.int n]) he1).trans s7
              have hpv : PathV H7 vv (q ++ [n]) := path_of (by unfold pthD; rw [List.map_append]; exact hv)
              have dgB : DGet H7 (α.inn q) (.int n) (some (.ref (α.nd (q ++ [n])))) := .inl ⟨_, .inl n, .inl ((s56.trans s67) _ _ (sG _ _ h2)), rfl, (val_some (f := fun n => V.ref (α.nd (q ++ [n]))) hnm).symm⟩
              refine ⟨_, rfl, α.nd q, _, rfl, dgA _ (s56.trans s67), _, rfl, α.inn q, _, rfl, dgB, szl rfl, fun tt htt => ?_⟩
              have s8 := s67.trans (Same.new (o := .tup [vv, .ref (α.nd (q ++ [n]))]) htt)
              refine ⟨_, s8 _ _ hx2, by rw [List.length_map, tl2]; rw [List.length_map] at hi; exact szt (by omega), Same.mut (s6.trans s8) hD, ts2 ++ [tt], by simp [tl2], by rw [upd_same, List.map_append]; rfl, fun j t' n' z1 z2 => ?_⟩
              have tsF : TS H7 (upd (upd H7 tt (.tup [vv, .ref (α.nd (q ++ [n]))])) D (.lst (ts2.map V.ref ++ [.ref tt]))) := fun b ys e => by
                rw [upd_ne (ne_of (Same.new htt _ _ e) (s8 _ _ hx2) (by intro z; cases z))]; exact Same.new htt _ _ e
              rcases Nat.lt_or_ge j ts2.length with r | r
              · rw [List.getElem?_append_left r] at z1
                obtain ⟨va, g1, g2⟩ := htt2 j t' n' z1 z2
                exact ⟨va, (g1.same s67).ts tsF, tsF _ _ (s67 _ _ g2)⟩
              · rw [List.getElem?_append_right r] at z1
                have i0 : j - ts2.length = 0 := by
                  have := (List.getElem?_eq_some_iff.mp z1).1
                  simp at this
                  omega
                rw [i0] at z1
                cases z1
                have : j = i := by omega
                subst this
                rw [hn] at z2
                cases z2
                refine ⟨vv, hpv.ts tsF, ?_⟩
                rw [upd_ne (ne_of upd_same (s8 _ _ hx2) (by intro z; cases z)), upd_same]
            · rintro G' ⟨s6, ts2, tl2, hx2, htt2⟩
              rw [List.length_map] at tl2
              have s56 := s5.trans s6
              refine ⟨A0, D, _, _, rfl, rfl, s56 _ _ hAG, hx2, szn (by rw [List.length_map, List.length_map]; omega), ?_⟩
              rw [← List.map_append]
              have tsF : TS G' (upd G' A0 (.lst ((ts0 ++ ts2).map V.ref))) := fun b ys e => by
                rw [upd_ne (ne_of e (s56 _ _ hAG) (by intro z; cases z))]; exact e
              have st := II.step (ms := ms) t ii hqx (.inr ⟨ns, rfl, hperm, hsrt⟩)
              refine ⟨60 - (L ++ [q]).length, (by rw [List.length_append, List.length_singleton]; omega), L ++ [q], _, ts0 ++ ts2, _, _, _, rfl, st, rfl, Same.mut (sG.trans s56) fA, ?_, upd_same, by simp [tl0, tl2], fun j t' p z1 z2 => ?_⟩
              · rw [upd_ne nSA, imgq [] (by unfold imgP wordsOf; rw [hqx]; rfl)]
                rw [show ([] : List Deed).flatMap enc = [] from rfl, List.append_nil]
                exact s56 _ _ hSG
              · rcases Nat.lt_or_ge j ts0.length with r | r
                · rw [List.getElem?_append_left r] at z1
                  rw [List.getElem?_append_left (by omega)] at z2
                  obtain ⟨va, g1, g2⟩ := htG j t' p z1 z2
                  exact ⟨va, (g1.same s56).ts tsF, tsF _ _ (s56 _ _ g2)⟩
                · rw [List.getElem?_append_right r] at z1
                  rw [List.getElem?_append_right (by omega)] at z2
                  obtain ⟨n, hn, rfl⟩ := map_get z2
                  obtain ⟨va, g1, g2⟩ := htt2 (j - ts0.length) t' n z1 (by rw [tl0]; exact hn)
                  exact ⟨va, g1.ts tsF, tsF _ _ g2⟩
          | file ws =>
            obtain ⟨h1, h2, h3⟩ := t.file q ws hqx
            have hk := sG _ _ h1
            have dgW : ∀ G', Same G G' → DGet G' (α.nd q) (kV kW) (some (.ref (α.inn q))) := fun G' s => by
              have := DGet.k (k := kW) (s _ _ hk)
              rw [valV_pos1] at this
              exact this
            have ew : wordsOf Fm q = ws := by unfold wordsOf; rw [hqx]
            have st := II.step (ms := []) t ii hqx (.inl ⟨ws, rfl, rfl⟩)
            rw [List.map_nil, List.append_nil] at st
            refine ⟨_, rfl, _, _, rfl, hk, _, rfl, ?_⟩
            rw [valV_neg kWN]
            refine iteF ⟨_, rfl, α.nd q, _, rfl, dgW G (Same.refl _), _, .inl ⟨_, SqL.of (sG _ _ h2), rfl⟩, ?_⟩
            by_cases hw : ws = []
            · subst hw
              refine iteF ⟨60 - (L ++ [q]).length, (by rw [List.length_append, List.length_singleton]; omega), L ++ [q], ps0, ts0, _, _, _, rfl, st, rfl, sG, ?_, hAG, tl0, htG⟩
              rw [imgq [] (by unfold imgP; rw [ew]; rfl), show ([] : List Deed).flatMap enc = [] from rfl, List.append_nil]
              exact hSG
            · have ne : (!(ws.map V.int).isEmpty) = true := by cases ws with | nil => exact absurd rfl hw | cons a r => rfl
              rw [ne]
              refine iteT ⟨_, rfl, .inl ⟨rfl, _, SqL.of hSG⟩, _, rfl, _, rfl, α.nd q, _, rfl, dgW G (Same.refl _), _, _, rfl, .inl ⟨SqL.of (sG _ _ h2), fun wt hwt => ⟨szl rfl, fun dq hdq => ?_⟩⟩⟩
              have s5 := Same.new (o := .tup (ws.map V.int)) hwt
              have hw5 : (upd G wt (.tup (ws.map V.int))) wt = some (.tup (ws.map V.int)) := upd_same
              generalize upd G wt (.tup (ws.map V.int)) = G5 at s5 hw5 hdq ⊢
              have s6 := Same.new (o := .tup [.str "put", .ref qa, .int 0, .ref wt]) hdq
              have hd6 : Dt (upd G5 dq (.tup [.str "put", .ref qa, .int 0, .ref wt])) (.ref dq) (rqD q (.put 0 ws)) := .tup upd_same (.cons (.str _) (.cons ((dt_path (hqG.same s5)).same s6) (.cons (.int _) (.cons ((dt_path ⟨wt, rfl, hw5⟩).same s6) .nil))))
              generalize upd G5 dq (.tup [.str "put", .ref qa, .int 0, .ref wt]) = G6 at s6 hd6
              refine ⟨.ref dq, q, .put 0 ws, rfl, hd6, trivial, ⟨by omega, by omega⟩, fun e He se he0' hel => ?_⟩
              have s56 := (s5.trans s6).trans se
              have el : (enc (q, Rq.put 0 ws)).length ≤ 57 := by simp [enc, encR]; omega
              refine ⟨S, e, _, _, rfl, rfl, s56 _ _ hSG, hel, szn (by rw [List.length_map, List.length_map]; omega), ?_⟩
              rw [← List.map_append]
              have tsF : TS G (upd He S (.lst ((stn ++ enc (q, .put 0 ws)).map V.int))) := fun b ys e => by
                rw [upd_ne (ne_of (s56 _ _ e) (s56 _ _ hSG) (by intro z; cases z))]; exact s56 _ _ e
              refine ⟨60 - (L ++ [q]).length, (by rw [List.length_append, List.length_singleton]; omega), L ++ [q], ps0, ts0, _, _, _, rfl, st, rfl, Same.mut (sG.trans s56) hS, ?_, by rw [upd_ne nSA.symm]; exact s56 _ _ hAG, tl0, fun j t' p z1 z2 => ?_⟩
              · rw [upd_same, imgq [(q, .put 0 ws)] (by unfold imgP; rw [ew, if_neg hw])]
                simp
              · obtain ⟨va, g1, g2⟩ := htG j t' p z1 z2
                exact ⟨va, g1.ts tsF, tsF _ _ g2⟩
end
end My

namespace My
open PySem L2
local macro_rules | `(tactic| walk_at "ne") => `(tactic| first | assumption | exact Ne.symm (by assumption) | exact ne_of_none (by assumption) (by assumption) | exact Ne.symm (ne_of_none (by assumption) (by assumption)))
local macro_rules | `(tactic| walk_at "hp") => `(tactic| first | assumption | with_reducible exact upd_same | (with_reducible refine Eq.trans (upd_ne ?_) ?_; rotate_left; walk_at "hp"; walk_at "ne"))
local macro_rules | `(tactic| walk_at "cnd") => `(tactic| first | omega | (show (0 : Int) < _; omega) | exact ⟨by omega, by omega⟩ | exact Or.inl ⟨by omega, by omega⟩ | exact Or.inr ⟨by omega, by omega⟩ | exact ⟨by omega, by omega, by decide⟩ | exact ⟨by omega, by omega, by omega⟩)
local macro_rules | `(tactic| walk_at "at") => `(tactic| first | exact atC 0 rfl rfl | exact atC 1 rfl rfl | exact atC 2 rfl rfl | exact atC 3 rfl rfl | exact atC 4 rfl rfl | exact atC 5 rfl rfl | exact atC 6 rfl rfl | exact atC 7 rfl rfl)
local macro_rules | `(tactic| walk_at "ix") => `(tactic| first | exact ixC 0 rfl (Nat.le_of_ble_eq_true rfl) | exact ixC 1 rfl (Nat.le_of_ble_eq_true rfl) | exact ixC 2 rfl (Nat.le_of_ble_eq_true rfl) | exact ixC 3 rfl (Nat.le_of_ble_eq_true rfl) | exact ixC 4 rfl (Nat.le_of_ble_eq_true rfl) | exact ixC 5 rfl (Nat.le_of_ble_eq_true rfl))
local macro_rules | `(tactic| walk_at "st") => `(tactic| first
  | refine ⟨_, rfl, ?_⟩
  | refine ⟨_, _, rfl, rfl, (by walk_at "cnd" : (_ : Prop)), ?_⟩
  | refine ⟨_, _, rfl, rfl, ?_⟩
  | refine ⟨rfl, ?_⟩
  | refine Or.inl ⟨_, rfl, ?_⟩
  | refine ⟨_, _, _, _, rfl, rfl, by exact SqL.of (by walk_at "hp"), by walk_at "at", ?_⟩
  | refine ⟨_, _, _, _, rfl, rfl, by exact SqT.of (by walk_at "hp"), by walk_at "at", ?_⟩
  | refine ⟨_, _, _, _, rfl, rfl, by walk_at "hp", by walk_at "ix", ?_⟩
  | refine ⟨_, _, rfl, Or.inl (by exact SqL.of (by walk_at "hp")), ?_⟩
  | refine ⟨_, _, rfl, Or.inr (by exact SqT.of (by walk_at "hp")), ?_⟩)
local macro_rules | `(tactic| walk_at "so") => `(tactic| first
  | refine ⟨_, _, _, _, _, rfl, by walk_at "hp", by assumption, by assumption, rfl, ?_⟩
  | refine ⟨_, _, _, _, rfl, by walk_at "hp", by assumption, by assumption, Nat.le_of_ble_eq_true rfl, ?_⟩
  | refine ⟨_, _, _, rfl, by walk_at "hp", rfl, ?_⟩
  | walk_at "st")
local macro_rules | `(tactic| walk_at "ro") => `(tactic| repeat walk_at "so")
local macro_rules | `(tactic| walk_at "run") => `(tactic| repeat walk_at "st")

def chunk (st : List Int) (k : Nat) : List Int := (st.drop (7 * k)).take 7
def padd (st : List Int) (k : Nat) : List Int := chunk st k ++ List.replicate (7 - (chunk st k).length) 0
theorem r_repZ {K : PySem.W.Frag} {H : Hp} {z : Addr} {k : Int} {Q : VK} (hz : H z = some (.tup [.int 0])) (k0 : 0 ≤ k) (k7 : k ≤ 7) (q : ∀ u H', Same H H' → PathV H' u (List.replicate k.toNat 0) → Q u H') : rRepS K (.ref z) (.int k) H Q := by
  refine ⟨z, k, _, rfl, rfl, SqT.of hz, fun e => (by cases e), by omega, by omega, by decide, fun e => ?_, fun e p hp => ?_, fun e p hp => ?_⟩
  · subst e
    exact q _ H (Same.refl H) ⟨z, rfl, hz⟩
  · have : k = 0 := by omega
    subst this
    exact q _ _ (Same.new hp) ⟨p, rfl, upd_same⟩
  · refine q _ _ (Same.new hp) ⟨p, rfl, ?_⟩
    rw [upd_same]
    congr 2
    generalize k.toNat = m
    induction m with
    | zero => rfl
    | succ m ih => rw [List.replicate_succ, List.flatten_cons, ih, List.replicate_succ, List.map_cons]; rfl
theorem rg7 (n : Nat) (h : n ≤ 4000) : RgC 0 (n : Int) 7 ((n + 6) / 7) := by
  have e : Builtin.Range.rangeSize 0 (n : Int) 7 = (((n + 6) / 7 : Nat) : Int) := by
    unfold Builtin.Range.rangeSize
    rw [if_pos (by decide)]
    by_cases e : (0 : Int) < n
    · rw [if_pos e]
      omega
    · rw [if_neg e]
      omega
  refine ⟨by decide, by decide, ?_, e⟩
  unfold Builtin.Range.small
  rw [e]
  have f : ∀ m : Nat, m ≤ 5000 → Builtin.Range.rangeFitsLong (m : Int) = true := fun m hm => by
    unfold Builtin.Range.rangeFitsLong
    rw [decide_eq_true (show -(2 ^ 63) ≤ (m : Int) by omega), decide_eq_true (show (m : Int) < 2 ^ 63 by omega)]; rfl
  have f0 : Builtin.Range.rangeFitsLong 0 = true := f 0 (by decide)
  have f7 : Builtin.Range.rangeFitsLong 7 = true := f 7 (by decide)
  rw [f n (by omega), f ((n + 6) / 7) (by omega), f0, f7, if_pos (by decide), show (n : Int) + (7 - 1) = ((n + 6 : Nat) : Int) by omega, f (n + 6) (by omega)]
  simp
theorem cut7 (st : List Int) (j : Nat) : cutV (st.map V.int) (some ((0 : Int) + (j : Nat) * 7)) (some ((0 : Int) + (j : Nat) * 7 + 7)) = (chunk st j).map V.int := by
  have := cut_int st (7 * j) 7
  rw [show ((7 * j : Nat) : Int) = (0 : Int) + (j : Nat) * 7 by omega] at this
  exact this
def spParts7 : Sp := fun vs H Q _ => ∃ (a : Addr) (st : List Int), vs = [.ref a] ∧ H a = some (.lst (st.map V.int)) ∧ st.length ≤ 4000 ∧ ∀ q (ts : List Addr) H', Same H H' → H q = none → H' q = some (.lst (ts.map V.ref)) → ts.length = (st.length + 6) / 7 → (∀ (j : Nat) t, ts[j]? = some t → H' t = some (.tup ((padd st j).map V.int))) → Q (.ref q) H'
section
variable {P : Program} {w : World} {K : PySem.W.Frag} {mg : Str → Option Value} {base : Heap} {A_PARTS : Addr}
abbrev s_parts_of : Stmt := topS 41
abbrev ns_parts_of : List Str := ["stream", "parts", "at", "part"]
theorem sc_parts_of : FnScope ns_parts_of ["stream"] (defScope s_parts_of) := ⟨rfl, rfl, rfl, by decide +kernel, rfl, by decide +kernel, by decide +kernel⟩

theorem ok_parts_of {f : Addr} {fd : FuncData} (F : Fun K "parts_of" "parts_of" s_parts_of f fd) (T : Txt K mg  w A_PARTS) : FnOk P w K mg base CX0 1 f fd ["stream"] spParts7 := by
  refine F.ok sc_parts_of (fun vs H Q E h => ?_) (fun cdv A outer s H vs Q E hr h => ?_)
  · obtain ⟨a, st, rfl, _⟩ := h
    rfl
  · obtain ⟨a, st, rfl, ha, sl, k⟩ := h
    refine ⟨_, (pss_cons (ps_setLc (i := 1) (own := [("at", 2)]) (by rfl) sc_parts_of.nd rfl rfl (sw_true rfl rfl rfl (by decide +kernel)) (pi_range3 (by rfl) T.b_range (pa_cons pe_int (pa_cons (pe_callB (kLen K) (by rfl) T.b_len (by decide +kernel) (pa_cons (pv 0) pa_nil)) (pa_cons (pe_gint (by rfl) T.c__SIZE) pa_nil)))) (blkOk_by (N := ns_parts_of) (sc := defScope s_parts_of) (by decide +kernel)) (fun _ _ _ _ _ => (pg_name (i := 2) sc_parts_of.nd rfl (Or.inl rfl))) (fun _ _ _ _ _ => pts_nil) (fun _ _ _ _ _ => (pe_callTy (kTupOf K) (by rfl) T.b_tuple (by decide +kernel) (pa_cons (pe_slice (kSlL K) (pv 0) (po_some (pv 2)) (po_some (pe_op op_add (pv 2) (pe_gint (by rfl) T.c__SIZE)))) pa_nil))))
  (pss_one (ps_ret (pe_lc (own := [("part", 3)]) (by rfl) sc_parts_of.nd (kpiL K (pv 1)) (blkOk_by (N := ns_parts_of) (sc := defScope s_parts_of) (by decide +kernel)) (fun _ _ _ _ _ => (pg_name (i := 3) sc_parts_of.nd rfl (Or.inl rfl))) (fun _ _ _ _ _ => pts_nil) (fun _ _ _ _ _ => (pe_op (kCatT K) (pv 3) (pe_op (op_repS K) (pe_tup (pa_cons pe_int pa_nil)) (pe_op op_sub (pe_gint (by rfl) T.c__SIZE) (pe_callB (kLen K) (by rfl) T.b_len (by decide +kernel) (pa_cons (pv 3) pa_nil)))))))))), ?_⟩
    refine ⟨_, rfl, _, _, rfl, .inl (SqL.of ha), 0, _, 7, (st.length + 6) / 7, rfl, by rw [List.length_map]; exact rg7 _ sl, fun D hD => lc_it walk_rangeC (fun i H' => Same H H' ∧ ∃ ts : List Addr, ts.length = i ∧ H' D = some (.lst (ts.map V.ref)) ∧ ∀ (j : Nat) t, ts[j]? = some t → H' t = some (.tup ((chunk st j).map V.int))) ?_ ?_ ?_ ?_⟩
    · exact ⟨Same.new hD, [], rfl, upd_same, fun j t h => (by cases h)⟩
    · exact fun _ _ _ _ => trivial
    · rintro i x H' H'' hi ⟨sx, ts, tl, hx, ht⟩ ⟨rfl, rfl⟩
      refine ⟨rfl, ?_⟩
      refine (show _ from ?_)
      refine ⟨_, rfl, _, rfl, _, rfl, _, rfl, _, _, rfl, rfl, _, rfl, _, _, rfl, SqL.of (sx _ _ ha), fun l hl => ?_⟩
      rw [cut7]
      have s1 := Same.new (o := .lst ((chunk st i).map V.int)) hl
      refine ⟨_, _, rfl, .inl ⟨SqL.of upd_same, fun u hu => ?_⟩⟩
      have s2 := s1.trans (Same.new (o := .tup ((chunk st i).map V.int)) hu)
      have hu2 : (upd (upd H'' l (.lst ((chunk st i).map V.int))) u (.tup ((chunk st i).map V.int))) u = some (.tup ((chunk st i).map V.int)) := upd_same
      generalize upd (upd H'' l (.lst ((chunk st i).map V.int))) u (.tup ((chunk st i).map V.int)) = H3 at s2 hu2
      refine ⟨_, s2 _ _ hx, by rw [List.length_map, tl]; exact szt (by omega), Same.mut (sx.trans s2) hD, ts ++ [u], by simp [tl], by rw [upd_same, List.map_append]; rfl, fun j t h => ?_⟩
      rcases Nat.lt_or_ge j ts.length with r | r
      · rw [List.getElem?_append_left r] at h
        have := s2 _ _ (ht j t h)
        rw [upd_ne (ne_of this (s2 _ _ hx) (by intro z; cases z))]
        exact this
      · rw [List.getElem?_append_right r] at h
        have i0 : j - ts.length = 0 := by
          have := (List.getElem?_eq_some_iff.mp h).1
          simp at this
          omega
        rw [i0] at h
        cases h
        have : j = i := by omega
        subst this
        rw [upd_ne (ne_of hu2 (s2 _ _ hx) (by intro z; cases z))]
        exact hu2
    · rintro H1 ⟨s1, ts, tl, hx, ht⟩
      refine ⟨_, rfl, D, rfl, ⟨_, SqL.of hx⟩, fun D2 hD2 => lc_it (walk_list (xs := ts.map V.ref)) (fun i H' => Same H1 H' ∧ ∃ us : List Addr, us.length = i ∧ H' D2 = some (.lst (us.map V.ref)) ∧ ∀ (j : Nat) t, us[j]? = some t → H' t = some (.tup ((padd st j).map V.int))) ?_ ?_ ?_ ?_⟩
      · exact ⟨Same.new hD2, [], rfl, upd_same, fun j t h => (by cases h)⟩
      · rintro i H' _ ⟨sx, _⟩
        exact SqL.of (sx _ _ hx)
      · rintro i x H' H'' hi ⟨sx, us, ul, hxu, hu⟩ ⟨rfl, hxx⟩
        obtain ⟨t, htt, rfl⟩ := map_get hxx
        have hti := sx _ _ (ht i t htt)
        rw [List.length_map] at hi
        have cl : (chunk st i).length ≤ 7 := by unfold chunk; rw [List.length_take]; omega
        refine ⟨rfl, ?_⟩
        refine (show _ from ?_)
        refine ⟨_, rfl, szl rfl, fun z hz => ⟨_, rfl, _, _, rfl, .inr (SqT.of (Same.new hz _ _ hti)), _, _, rfl, rfl, ?_⟩⟩
        refine r_repZ upd_same (by rw [List.length_map]; omega) (by omega) fun u H3 s3 hpu => ?_
        have s13 := (Same.new (o := .tup [.int 0]) hz).trans s3
        have ez : ((7 : Int) - (((chunk st i).map V.int).length : Nat)).toNat = 7 - (chunk st i).length := by rw [List.length_map]; omega
        rw [ez] at hpu
        refine r_catD (ds := (chunk st i).map PyData.int) (es := (List.replicate (7 - (chunk st i).length) (0 : Int)).map PyData.int) (dt_path ⟨t, rfl, s13 _ _ hti⟩) (dt_path hpu) (by simp; omega) fun v H4 s4 hv => ?_
        have hpv : PathV H4 v (padd st i) := path_of (by unfold pthD padd; rw [List.map_append]; exact hv)
        obtain ⟨va, rfl, hva⟩ := hpv
        have s14 := s13.trans s4
        refine ⟨_, s14 _ _ hxu, by rw [List.length_map, ul]; exact szt (by omega), Same.mut (sx.trans s14) hD2, us ++ [va], by simp [ul], by rw [upd_same, List.map_append]; rfl, fun j t h => ?_⟩
        rcases Nat.lt_or_ge j us.length with r | r
        · rw [List.getElem?_append_left r] at h
          have := s14 _ _ (hu j t h)
          rw [upd_ne (ne_of this (s14 _ _ hxu) (by intro z; cases z))]
          exact this
        · rw [List.getElem?_append_right r] at h
          have i0 : j - us.length = 0 := by
            have := (List.getElem?_eq_some_iff.mp h).1
            simp at this
            omega
          rw [i0] at h
          cases h
          have : j = i := by omega
          subst this
          rw [upd_ne (ne_of hva (s14 _ _ hxu) (by intro z; cases z))]
          exact hva
      · rintro H' ⟨sx, us, ul, hxu, hu⟩
        rw [List.length_map, tl] at ul
        exact k D2 us H' (s1.trans sx) (s1.free hD2) hxu ul hu
end
end My

namespace My
open PySem L2
local macro_rules | `(tactic| walk_at "ne") => `(tactic| first | assumption | exact Ne.symm (by assumption) | exact ne_of_none (by assumption) (by assumption) | exact Ne.symm (ne_of_none (by assumption) (by assumption)))
local macro_rules | `(tactic| walk_at "hp") => `(tactic| first | assumption | with_reducible exact upd_same | (with_reducible refine Eq.trans (upd_ne ?_) ?_; rotate_left; walk_at "hp"; walk_at "ne"))
local macro_rules | `(tactic| walk_at "cnd") => `(tactic| first | omega | (show (0 : Int) < _; omega) | exact ⟨by omega, by omega⟩ | exact Or.inl ⟨by omega, by omega⟩ | exact Or.inr ⟨by omega, by omega⟩ | exact ⟨by omega, by omega, by decide⟩ | exact ⟨by omega, by omega, by omega⟩)
local macro_rules | `(tactic| walk_at "at") => `(tactic| first | exact atC 0 rfl rfl | exact atC 1 rfl rfl | exact atC 2 rfl rfl | exact atC 3 rfl rfl | exact atC 4 rfl rfl | exact atC 5 rfl rfl | exact atC 6 rfl rfl | exact atC 7 rfl rfl)
local macro_rules | `(tactic| walk_at "ix") => `(tactic| first | exact ixC 0 rfl (Nat.le_of_ble_eq_true rfl) | exact ixC 1 rfl (Nat.le_of_ble_eq_true rfl) | exact ixC 2 rfl (Nat.le_of_ble_eq_true rfl) | exact ixC 3 rfl (Nat.le_of_ble_eq_true rfl) | exact ixC 4 rfl (Nat.le_of_ble_eq_true rfl) | exact ixC 5 rfl (Nat.le_of_ble_eq_true rfl))
local macro_rules | `(tactic| walk_at "st") => `(tactic| first
  | refine ⟨_, rfl, ?_⟩
  | refine ⟨_, _, rfl, rfl, (by walk_at "cnd" : (_ : Prop)), ?_⟩
  | refine ⟨_, _, rfl, rfl, ?_⟩
  | refine ⟨rfl, ?_⟩
  | refine Or.inl ⟨_, rfl, ?_⟩
  | refine ⟨_, _, _, _, rfl, rfl, by exact SqL.of (by walk_at "hp"), by walk_at "at", ?_⟩
  | refine ⟨_, _, _, _, rfl, rfl, by exact SqT.of (by walk_at "hp"), by walk_at "at", ?_⟩
  | refine ⟨_, _, _, _, rfl, rfl, by walk_at "hp", by walk_at "ix", ?_⟩
  | refine ⟨_, _, rfl, Or.inl (by exact SqL.of (by walk_at "hp")), ?_⟩
  | refine ⟨_, _, rfl, Or.inr (by exact SqT.of (by walk_at "hp")), ?_⟩)
local macro_rules | `(tactic| walk_at "so") => `(tactic| first
  | refine ⟨_, _, _, _, _, rfl, by walk_at "hp", by assumption, by assumption, rfl, ?_⟩
  | refine ⟨_, _, _, _, rfl, by walk_at "hp", by assumption, by assumption, Nat.le_of_ble_eq_true rfl, ?_⟩
  | refine ⟨_, _, _, rfl, by walk_at "hp", rfl, ?_⟩
  | walk_at "st")
local macro_rules | `(tactic| walk_at "ro") => `(tactic| repeat walk_at "so")
local macro_rules | `(tactic| walk_at "run") => `(tactic| repeat walk_at "st")

/-! ### the law's own reading -/
def StV (H : Hp) (sa : Addr) (pos : Nat) (bad : Bool) : Prop := H sa = some (.lst [.int (pos : Int), .bl bad])
def spWrd : Sp := fun vs H Q _ => ∃ (a sa : Addr) (st : List Int) (pos : Nat) (bad : Bool), vs = [.ref a, .ref sa] ∧ H a = some (.lst (st.map V.int)) ∧ StV H sa pos bad ∧ ∀ H', StV H' sa (pos + 1) (bad || decide (st.length ≤ pos)) → Chg sa H H' → Q (.int (st.getD pos 0)) H'
theorem a_ne_sa {H : Hp} {a sa : Addr} {st : List Int} {pos : Nat} {bad : Bool} (h1 : H a = some (.lst (st.map V.int))) (h2 : StV H sa pos bad) : a ≠ sa := by
  refine ne_of h1 h2 fun e => ?_
  match st with
  | [] => cases e
  | [_] => cases e
  | _ :: _ :: _ => cases e
def rowOf (st : List Int) (pos m : Nat) : List Int := (List.range m).map fun k => st.getD (pos + k) 0
theorem rowOf_take {st : List Int} {pos m : Nat} (h : pos + m ≤ st.length) : rowOf st pos m = (st.drop pos).take m := by
  unfold rowOf
  refine List.ext_getElem? fun i => ?_
  rw [List.getElem?_map, List.getElem?_take, List.getElem?_drop]
  by_cases hi : i < m
  · rw [List.getElem?_range hi, if_pos hi, List.getElem?_eq_getElem (by omega)]
    simp [List.getD_eq_getElem?_getD, List.getElem?_eq_getElem (show pos + i < st.length by omega)]
  · rw [if_neg hi, List.getElem?_eq_none (by simp; omega)]; rfl
theorem wd_getD {st : List Int} (wd : Wds st) (pos : Nat) : Wd (st.getD pos 0) := by
  rw [List.getD_eq_getElem?_getD]
  cases e : st[pos]? with
  | none => exact ⟨by decide, by decide⟩
  | some x => exact wd x (List.mem_of_getElem? e)
theorem rowOf_wds {st : List Int} (wd : Wds st) (pos m : Nat) : Wds (rowOf st pos m) := fun x hx => by
  obtain ⟨k, _, rfl⟩ := List.mem_map.mp hx
  exact wd_getD wd _
def spRow : Sp := fun vs H Q _ => ∃ (a sa : Addr) (st : List Int) (pos : Nat) (bad : Bool), vs = [.ref a, .ref sa] ∧ H a = some (.lst (st.map V.int)) ∧ Wds st ∧ st.length ≤ 4000 ∧ StV H sa pos bad ∧ ∀ v H' row pos' bad', PathV H' v row → StV H' sa pos' bad' → Chg sa H H' → Wds row → row.length ≤ 4000 → (bad = true → bad' = true) →
  (bad' = false → cnt (st.drop pos) = some row ∧ pos' = pos + 1 + row.length ∧ pos' ≤ st.length) → (bad = false → bad' = true → cnt (st.drop pos) = none) → Q v H'
section
variable {P : Program} {w : World} {K : PySem.W.Frag} {mg : Str → Option Value} {base : Heap} {A_PARTS : Addr}
abbrev s_law_word : Stmt := topS 45
abbrev ns_law_word : List Str := ["stream", "state"]
theorem sc_law_word : FnScope ns_law_word ["stream", "state"] (defScope s_law_word) := ⟨rfl, rfl, rfl, by decide +kernel, rfl, by decide +kernel, by decide +kernel⟩

theorem ok_law_word {f : Addr} {fd : FuncData} (F : Fun K "_law_word" "_law_word" s_law_word f fd) (T : Txt K mg  w A_PARTS) : FnOk P w K mg base CX0 1 f fd ["stream", "state"] spWrd := by
  refine F.ok sc_law_word (fun vs H Q E h => ?_) (fun cdv A outer s H vs Q E hr h => ?_)
  · obtain ⟨a, sa, st, pos, bad, rfl, _⟩ := h
    rfl
  · obtain ⟨a, sa, st, pos, bad, rfl, ha, hs, k⟩ := h
    refine ⟨_, (pss_cons (ps_asg (pe_op op_add (pe_ix (kIxL K) (pv 1) pe_int (fun _ _ => rfl)) pe_int) (pg_sub (pv 1) pe_int set_list))
  (pss_cons (ps_if (pt_cmpR op_gt (pe_ix (kIxL K) (pv 1) pe_int (fun _ _ => rfl)) (pe_callB (kLen K) (by rfl) T.b_len (by decide +kernel) (pa_cons (pv 0) pa_nil)) (nomark _)) (pss_cons (ps_asg pe_bl (pg_sub (pv 1) pe_int set_list))
  (pss_one (ps_ret pe_int))) pss_nil)
  (pss_one (ps_ret (pe_ix (kIxL K) (pv 0) (pe_op op_sub (pe_ix (kIxL K) (pv 1) pe_int (fun _ _ => rfl)) pe_int) (fun _ _ => rfl)))))), ?_⟩
    have nas := a_ne_sa ha hs
    refine ⟨_, rfl, _, _, _, _, rfl, rfl, SqL.of hs, atC 0 rfl rfl, _, _, rfl, rfl, _, rfl, sa, _, _, 0, rfl, rfl, hs, ixC 0 rfl (Nat.le_of_ble_eq_true rfl), ?_⟩
    have h1 : (upd H sa (.lst ([V.int (pos : Int), V.bl bad].set 0 (V.int ((pos : Int) + 1))))) sa = some (.lst [.int ((pos : Int) + 1), .bl bad]) := by rw [upd_same]; rfl
    have c1 : Chg sa H (upd H sa (.lst ([V.int (pos : Int), V.bl bad].set 0 (V.int ((pos : Int) + 1))))) := Chg.upd
    generalize upd H sa (.lst ([V.int (pos : Int), V.bl bad].set 0 (V.int ((pos : Int) + 1)))) = H1 at h1 c1
    have ha1 := c1 _ _ nas ha
    refine ⟨_, rfl, _, _, _, _, rfl, rfl, SqL.of h1, atC 0 rfl rfl, _, rfl, _, _, rfl, .inl (SqL.of ha1), _, _, rfl, rfl, _, rfl, ?_⟩
    rw [List.length_map]
    refine iteD (fun h => ?_) (fun h => ?_)
    · refine ⟨_, rfl, sa, _, _, 1, rfl, rfl, h1, ixC 1 rfl (Nat.le_of_ble_eq_true rfl), ?_⟩
      have e0 : st.getD pos 0 = 0 := by rw [List.getD_eq_getElem?_getD, List.getElem?_eq_none (by omega)]; rfl
      rw [e0] at k
      refine k _ ?_ (c1.trans Chg.upd)
      show _ = _
      rw [upd_same, decide_eq_true (show st.length ≤ pos by omega), Bool.or_true]
      rfl
    · have hi : pos < st.length := by omega
      have e0 : st.getD pos 0 = st[pos] := by rw [List.getD_eq_getElem?_getD, List.getElem?_eq_getElem hi]; rfl
      rw [e0] at k
      refine ⟨_, rfl, _, rfl, _, _, _, _, rfl, rfl, SqL.of h1, atC 0 rfl rfl, _, _, rfl, rfl, _, _, _, _, rfl, rfl, SqL.of ha1, atC pos (by omega) (at_int (List.getElem?_eq_getElem hi)), ?_⟩
      refine k H1 ?_ c1
      show _ = _
      rw [h1, decide_eq_false (show ¬ st.length ≤ pos by omega), Bool.or_false]
      rfl
abbrev s_law_row : Stmt := topS 46
abbrev ns_law_row : List Str := ["stream", "state", "many", "k"]
theorem sc_law_row : FnScope ns_law_row ["stream", "state"] (defScope s_law_row) := ⟨rfl, rfl, rfl, by decide +kernel, rfl, by decide +kernel, by decide +kernel⟩

theorem ok_law_row {f : Addr} {fd : FuncData} (F : Fun K "_law_row" "_law_row" s_law_row f fd) (T : Txt K mg  w A_PARTS) (D_law_word : Dfn P w K mg base CX0 1 "_law_word" ["stream", "state"] spWrd) : FnOk P w K mg base CX0 2 f fd ["stream", "state"] spRow := by
  refine F.ok sc_law_row (fun vs H Q E h => ?_) (fun cdv A outer s H vs Q E hr h => ?_)
  · obtain ⟨a, sa, st, pos, bad, rfl, _⟩ := h
    rfl
  · obtain ⟨a, sa, st, pos, bad, rfl, ha, wd, sl, hs, k⟩ := h
    refine ⟨_, (pss_cons (ps_set (i := 2) sc_law_row.nd rfl (Or.inl rfl) (pe_dcall D_law_word (hr.mono (by decide)) (by rfl) pass0 (pa_cons (pv 0) (pa_cons (pv 1) pa_nil))))
  (pss_cons (ps_if (pt_cmpR op_gt (pv 2) (pe_callB (kLen K) (by rfl) T.b_len (by decide +kernel) (pa_cons (pv 0) pa_nil)) (nomark _)) (pss_cons (ps_asg pe_bl (pg_sub (pv 1) pe_int set_list))
  (pss_one (ps_ret (pe_tup pa_nil)))) pss_nil)
  (pss_one (ps_ret (pe_callTy (kTupOf K) (by rfl) T.b_tuple (by decide +kernel) (pa_cons (pe_lc (own := [("k", 3)]) (by rfl) sc_law_row.nd (pi_range1 (by rfl) T.b_range (pa_cons (pv 2) pa_nil)) (blkOk_by (N := ns_law_row) (sc := defScope s_law_row) (by decide +kernel)) (fun _ _ _ _ _ => (pg_name (i := 3) sc_law_row.nd rfl (Or.inl rfl))) (fun _ _ _ _ _ => pts_nil) (fun _ _ _ _ _ => (pe_dcall D_law_word (hr.mono (by decide)) (by rfl) pass0 (pa_cons (pv 0) (pa_cons (pv 1) pa_nil))))) pa_nil)))))), ?_⟩
    have nas := a_ne_sa ha hs
    refine ⟨_, rfl, _, rfl, a, sa, st, pos, bad, rfl, ha, hs, fun H1 hs1 c1 => ?_⟩
    have mw := wd_getD wd pos
    have ha1 := c1 _ _ nas ha
    obtain ⟨m, hm⟩ := Int.eq_ofNat_of_zero_le mw.1
    have ecnt : ∀ hi : pos < st.length, cnt (st.drop pos) = if pos + 1 + m ≤ st.length then some (rowOf st (pos + 1) m) else none := fun hi => by
      have e0 : st[pos]? = some (m : Int) := by
        rw [← hm, List.getD_eq_getElem?_getD, List.getElem?_eq_getElem hi]; rfl
      rw [drop_cons e0]
      unfold cnt
      dsimp only
      rw [List.length_drop, Int.toNat_natCast]
      by_cases c : pos + 1 + m ≤ st.length
      · rw [if_pos (by omega), if_pos c, rowOf_take c]
      · rw [if_neg (by omega), if_neg c]
    have egone : st.length ≤ pos → cnt (st.drop pos) = none := fun h => by rw [List.drop_eq_nil_of_le h]; rfl
    generalize hb1 : (bad || decide (st.length ≤ pos)) = bad1 at hs1
    rw [hm]
    refine ⟨_, rfl, _, rfl, _, _, rfl, .inl (SqL.of ha1), _, _, rfl, rfl, _, rfl, ?_⟩
    rw [List.length_map]
    refine iteD (fun h => ?_) (fun h => ?_)
    · refine ⟨_, rfl, sa, _, _, 1, rfl, rfl, hs1, ixC 1 rfl (Nat.le_of_ble_eq_true rfl), szl rfl, fun q hq => ?_⟩
      have hs2 : (upd H1 sa (.lst ([V.int ((pos + 1 : Nat) : Int), V.bl bad1].set 1 (V.bl true)))) sa = some (.lst [.int ((pos + 1 : Nat) : Int), .bl true]) := by rw [upd_same]; rfl
      refine k (.ref q) _ [] (pos + 1) true ⟨q, rfl, upd_same⟩ (Same.new hq _ _ hs2) ((c1.trans Chg.upd).trans (Same.chg (Same.new hq))) (fun x hx => (by cases hx)) (Nat.zero_le _) (fun _ => rfl) (fun e => (by cases e)) (fun _ _ => ?_)
      by_cases hi : pos < st.length
      · rw [ecnt hi, if_neg (by omega)]
      · exact egone (by omega)
    · have ml : m ≤ st.length := by omega
      refine ⟨_, rfl, _, rfl, by omega, by omega, ?_⟩
      rw [Int.toNat_natCast]
      refine fun D hD => lc_it walk_range (fun i H' => Chg sa H1 H' ∧ H' D = some (.lst ((rowOf st (pos + 1) i).map V.int)) ∧ ∃ bi, StV H' sa (pos + 1 + i) bi ∧ (bi = false ↔ bad1 = false ∧ pos + 1 + i ≤ st.length)) ?_ ?_ ?_ ?_
      · refine ⟨Same.chg (Same.new hD), by rw [upd_same]; rfl, bad1, Same.new hD _ _ hs1, ⟨fun e => ⟨e, ?_⟩, fun e => e.1⟩⟩
        rw [e] at hb1
        rw [Bool.or_eq_false_iff] at hb1
        have := of_decide_eq_false hb1.2
        omega
      · exact fun _ _ _ _ => trivial
      · rintro i x H' H'' hi ⟨c2, hx, bi, hsi, hbi⟩ ⟨rfl, rfl⟩
        have nDs : D ≠ sa := (ne_of_none hs1 hD).symm
        refine ⟨rfl, ?_⟩
        refine (show _ from ?_)
        refine ⟨_, rfl, _, rfl, a, sa, st, pos + 1 + i, bi, rfl, c2 _ _ nas ha1, hsi, fun H3 hs3 c3 => ?_⟩
        have hx3 := c3 _ _ nDs hx
        refine ⟨_, hx3, by rw [List.length_map]; unfold rowOf; rw [List.length_map, List.length_range]; exact szt (by omega), (c2.trans c3).mut hD, ?_, (bi || decide (st.length ≤ pos + 1 + i)), ?_, ?_⟩
        · rw [upd_same]
          unfold rowOf
          rw [List.range_succ, List.map_append, List.map_append]
          rfl
        · show (upd H3 D _) sa = _
          rw [upd_ne nDs.symm]
          exact hs3
        · rw [Bool.or_eq_false_iff, hbi]
          constructor
          · rintro ⟨⟨h1, h2⟩, h3⟩
            have := of_decide_eq_false h3
            exact ⟨h1, by omega⟩
          · rintro ⟨h1, h2⟩
            exact ⟨⟨h1, by omega⟩, decide_eq_false (by omega)⟩
      · rintro H' ⟨c2, hx, bi, hsi, hbi⟩
        refine ⟨_, _, rfl, .inl ⟨SqL.of hx, fun q hq => ?_⟩⟩
        have rl : (rowOf st (pos + 1) m).length = m := by unfold rowOf; rw [List.length_map, List.length_range]
        refine k (.ref q) _ (rowOf st (pos + 1) m) (pos + 1 + m) bi ⟨q, rfl, upd_same⟩ (Same.new hq _ _ hsi) ((c1.trans c2).trans (Same.chg (Same.new hq))) (rowOf_wds wd _ _) (by rw [rl]; omega) (fun e => ?_) (fun e => ?_) (fun e1 e2 => ?_)
        · cases bi with
          | true => rfl
          | false =>
            have := (hbi.mp rfl).1
            rw [← hb1, e] at this
            cases this
        · obtain ⟨e1, e2⟩ := hbi.mp e
          rw [← hb1, Bool.or_eq_false_iff] at e1
          have hi := of_decide_eq_false e1.2
          exact ⟨by rw [ecnt (by omega), if_pos e2], by rw [rl], e2⟩
        · by_cases hi : pos < st.length
          · rw [ecnt hi]
            refine if_neg fun c => ?_
            have : bi = false := hbi.mpr ⟨by rw [← hb1, e1, decide_eq_false (by omega)]; rfl, c⟩
            rw [this] at e2; cases e2
          · exact egone (by omega)
end
end My

namespace My
open PySem L2
local macro_rules | `(tactic| walk_at "ne") => `(tactic| first | assumption | exact Ne.symm (by assumption) | exact ne_of_none (by assumption) (by assumption) | exact Ne.symm (ne_of_none (by assumption) (by assumption)))
local macro_rules | `(tactic| walk_at "hp") => `(tactic| first | assumption | with_reducible exact upd_same | (with_reducible refine Eq.trans (upd_ne ?_) ?_; rotate_left; walk_at "hp"; walk_at "ne"))
local macro_rules | `(tactic| walk_at "cnd") => `(tactic| first | omega | (show (0 : Int) < _; omega) | exact ⟨by omega, by omega⟩ | exact Or.inl ⟨by omega, by omega⟩ | exact Or.inr ⟨by omega, by omega⟩ | exact ⟨by omega, by omega, by decide⟩ | exact ⟨by omega, by omega, by omega⟩)
local macro_rules | `(tactic| walk_at "at") => `(tactic| first | exact atC 0 rfl rfl | exact atC 1 rfl rfl | exact atC 2 rfl rfl | exact atC 3 rfl rfl | exact atC 4 rfl rfl | exact atC 5 rfl rfl | exact atC 6 rfl rfl | exact atC 7 rfl rfl)
local macro_rules | `(tactic| walk_at "ix") => `(tactic| first | exact ixC 0 rfl (Nat.le_of_ble_eq_true rfl) | exact ixC 1 rfl (Nat.le_of_ble_eq_true rfl) | exact ixC 2 rfl (Nat.le_of_ble_eq_true rfl) | exact ixC 3 rfl (Nat.le_of_ble_eq_true rfl) | exact ixC 4 rfl (Nat.le_of_ble_eq_true rfl) | exact ixC 5 rfl (Nat.le_of_ble_eq_true rfl))
local macro_rules | `(tactic| walk_at "st") => `(tactic| first
  | refine ⟨_, rfl, ?_⟩
  | refine ⟨_, _, rfl, rfl, (by walk_at "cnd" : (_ : Prop)), ?_⟩
  | refine ⟨_, _, rfl, rfl, ?_⟩
  | refine ⟨rfl, ?_⟩
  | refine Or.inl ⟨_, rfl, ?_⟩
  | refine ⟨_, _, _, _, rfl, rfl, by exact SqL.of (by walk_at "hp"), by walk_at "at", ?_⟩
  | refine ⟨_, _, _, _, rfl, rfl, by exact SqT.of (by walk_at "hp"), by walk_at "at", ?_⟩
  | refine ⟨_, _, _, _, rfl, rfl, by walk_at "hp", by walk_at "ix", ?_⟩
  | refine ⟨_, _, rfl, Or.inl (by exact SqL.of (by walk_at "hp")), ?_⟩
  | refine ⟨_, _, rfl, Or.inr (by exact SqT.of (by walk_at "hp")), ?_⟩)
local macro_rules | `(tactic| walk_at "so") => `(tactic| first
  | refine ⟨_, _, _, _, _, rfl, by walk_at "hp", by assumption, by assumption, rfl, ?_⟩
  | refine ⟨_, _, _, _, rfl, by walk_at "hp", by assumption, by assumption, Nat.le_of_ble_eq_true rfl, ?_⟩
  | refine ⟨_, _, _, rfl, by walk_at "hp", rfl, ?_⟩
  | walk_at "st")
local macro_rules | `(tactic| walk_at "ro") => `(tactic| repeat walk_at "so")
local macro_rules | `(tactic| walk_at "run") => `(tactic| repeat walk_at "st")

def spDeed : Sp := fun vs H Q _ => ∃ (a sa : Addr) (st : List Int) (pos : Nat) (n : Int), vs = [.ref a, .ref sa, .int n] ∧ H a = some (.lst (st.map V.int)) ∧ Wds st ∧ st.length ≤ 4000 ∧ StV H sa pos false ∧ 1 ≤ n ∧ n ≤ 5 ∧ ∀ v H' pos' bad', StV H' sa pos' bad' → Chg sa H H' →
  (bad' = false → ∃ d, decD n (st.drop pos) = some d ∧ goodD d = true ∧ pos' + 1 = pos + (enc d).length ∧ pos' ≤ st.length ∧ Dt H' v (rqDD d)) → (bad' = true → ∀ d, decD n (st.drop pos) = some d → goodD d = false) → Q v H'
theorem StV.setT {H : Hp} {sa : Addr} {pos : Nat} {bad : Bool} (h : StV H sa pos bad) : StV (upd H sa (.lst ([V.int (pos : Int), V.bl bad].set 1 (V.bl true)))) sa pos true := by
  show _ = _
  rw [upd_same]; rfl
section
variable {P : Program} {w : World} {K : PySem.W.Frag} {mg : Str → Option Value} {base : Heap} {A_PARTS : Addr}
abbrev s_law_deed : Stmt := topS 47
abbrev ns_law_deed : List Str := ["stream", "state", "number", "path", "name", "offset", "words", "size"]
theorem sc_law_deed : FnScope ns_law_deed ["stream", "state", "number"] (defScope s_law_deed) := ⟨rfl, rfl, rfl, by decide +kernel, rfl, by decide +kernel, by decide +kernel⟩

theorem ok_law_deed {f : Addr} {fd : FuncData} (F : Fun K "_law_deed" "_law_deed" s_law_deed f fd) (T : Txt K mg  w A_PARTS) (D_law_word : Dfn P w K mg base CX0 1 "_law_word" ["stream", "state"] spWrd) (D_law_row : Dfn P w K mg base CX0 2 "_law_row" ["stream", "state"] spRow) : FnOk P w K mg base CX0 3 f fd ["stream", "state", "number"] spDeed := by
  refine F.ok sc_law_deed (fun vs H Q E h => ?_) (fun cdv A outer s H vs Q E hr h => ?_)
  · obtain ⟨a, sa, st, pos, n, rfl, _⟩ := h
    rfl
  · obtain ⟨a, sa, st, pos, n, rfl, ha, wd, sl, hs, n1, n5, k⟩ := h
    refine ⟨_, (pss_cons (ps_set (i := 3) sc_law_deed.nd rfl (Or.inl rfl) (pe_dcall D_law_row (hr.mono (by decide)) (by rfl) pass0 (pa_cons (pv 0) (pa_cons (pv 1) pa_nil))))
  (C8.pss_cut (ps_if (pt_cmpR op_gt (pe_callB (kLen K) (by rfl) T.b_len (by decide +kernel) (pa_cons (pe_lc (own := [("name", 4)]) (by rfl) sc_law_deed.nd (kpiT K (pv 3)) (blkOk_by (N := ns_law_deed) (sc := defScope s_law_deed) (by decide +kernel)) (fun _ _ _ _ _ => (pg_name (i := 4) sc_law_deed.nd rfl (Or.inl rfl))) (fun _ _ _ _ _ => (pts_one (pt_cmpR op_eq (pv 4) pe_int (nomark _)))) (fun _ _ _ _ _ => (pv 4))) pa_nil)) pe_int (nomark _)) (pss_one (ps_asg pe_bl (pg_sub (pv 1) pe_int set_list))) pss_nil)
  (pss_cons (ps_if (pt_cmpR op_lt (pv 2) pe_int (nomark _)) (pss_one (ps_ret (pe_tup (pa_cons pe_str (pa_cons (pv 3) (pa_cons (pe_ix (kIxL K) (pe_lst (pa_cons pe_str (pa_cons pe_str (pa_cons pe_str pa_nil)))) (pv 2) (fun _ _ => rfl)) pa_nil)))))) pss_nil)
  (pss_cons (ps_if (pt_cmpR op_eq (pv 2) pe_int (nomark _)) (pss_cons (ps_set (i := 5) sc_law_deed.nd rfl (Or.inl rfl) (pe_dcall D_law_word (hr.mono (by decide)) (by rfl) pass0 (pa_cons (pv 0) (pa_cons (pv 1) pa_nil))))
  (pss_cons (ps_set (i := 6) sc_law_deed.nd rfl (Or.inl rfl) (pe_dcall D_law_row (hr.mono (by decide)) (by rfl) pass0 (pa_cons (pv 0) (pa_cons (pv 1) pa_nil))))
  (C8.pss_cut (ps_if (PW.pt (pw_or (pt_cmpR op_gt (pv 5) pe_int (nomark _)) (pw_or (pt_cmpR op_lt (pe_callB (kLen K) (by rfl) T.b_len (by decide +kernel) (pa_cons (pv 6) pa_nil)) pe_int (nomark _)) (pw_or1 (pt_cmpR op_gt (pe_callB (kLen K) (by rfl) T.b_len (by decide +kernel) (pa_cons (pv 6) pa_nil)) pe_int (nomark _)))))) (pss_one (ps_asg pe_bl (pg_sub (pv 1) pe_int set_list))) pss_nil)
  (pss_one (ps_ret (pe_tup (pa_cons pe_str (pa_cons (pv 3) (pa_cons (pv 5) (pa_cons (pv 6) pa_nil)))))))))) pss_nil)
  (pss_cons (ps_if (pt_cmpR op_eq (pv 2) pe_int (nomark _)) (pss_cons (ps_set (i := 7) sc_law_deed.nd rfl (Or.inl rfl) (pe_dcall D_law_word (hr.mono (by decide)) (by rfl) pass0 (pa_cons (pv 0) (pa_cons (pv 1) pa_nil))))
  (C8.pss_cut (ps_if (pt_cmpR op_gt (pv 7) pe_int (nomark _)) (pss_one (ps_asg pe_bl (pg_sub (pv 1) pe_int set_list))) pss_nil)
  (pss_one (ps_ret (pe_tup (pa_cons pe_str (pa_cons (pv 3) (pa_cons (pv 7) pa_nil)))))))) pss_nil)
  (pss_one (ps_ret (pe_tup (pa_cons pe_str (pa_cons (pv 3) pa_nil)))))))))), ?_⟩
    have nas := a_ne_sa ha hs
    refine ⟨_, rfl, _, rfl, a, sa, st, pos, false, rfl, ha, wd, sl, hs, fun v H1 p pos1 bad1 hp hs1 c1 wp pl _ good bad => ?_⟩
    obtain ⟨pa, rfl, hpa⟩ := hp
    have npa : pa ≠ sa := ne_of hpa hs1 (by intro z; cases z)
    -- zeros in the path
    refine ⟨fun σ H' => ∃ (v4 : Option V) (bad2 : Bool), σ = [some (.ref a), some (.ref sa), some (.int n), some (.ref pa), v4, none, none, none] ∧ StV H' sa pos1 bad2 ∧ Chg sa H1 H' ∧ (bad2 = false ↔ bad1 = false ∧ (p.all fun x => decide (x ≠ 0)) = true), ?_, ?_⟩
    · refine ⟨_, rfl, pa, rfl, ⟨_, SqT.of hpa⟩, fun D hD => lc_it (walk_tup (xs := p.map V.int)) (fun i H' => Same H1 H' ∧ H' D = some (.lst (((p.take i).filter fun x => decide (x = 0)).map V.int))) ?_ ?_ ?_ ?_⟩
      · exact ⟨Same.new hD, upd_same⟩
      · rintro i H' _ ⟨s, _⟩
        exact SqT.of (s _ _ hpa)
      · rintro i x H' H'' hi ⟨s2, hx⟩ ⟨rfl, hxx⟩
        obtain ⟨y, hy, rfl⟩ := map_get hxx
        rw [← take_snoc hy, List.filter_append]
        refine ⟨rfl, _, rfl, rfl, _, rfl, ?_⟩
        have vne : decide (V.int y = V.int 0) = decide (y = 0) := decide_eq_decide.mpr ⟨fun z => by injection z, fun z => by rw [z]⟩
        rw [vne]
        refine iteD (fun h => ?_) (fun h => ?_)
        · rw [List.filter_cons_of_pos (by simpa using h), List.filter_nil]
          refine ⟨_, rfl, _, hx, ?_, Same.mut s2 hD, by rw [upd_same, List.map_append]; rfl⟩
          have := List.length_filter_le (fun x => decide (x = 0)) (p.take i)
          rw [List.length_take] at this
          rw [List.length_map]
          exact szt (by omega)
        · rw [List.filter_cons_of_neg (by simpa using h), List.filter_nil, List.append_nil]
          exact ⟨s2, hx⟩
      · rintro H' ⟨s2, hx⟩
        rw [List.length_map, List.take_length] at hx
        refine ⟨_, _, rfl, .inl (SqL.of hx), _, _, rfl, rfl, _, rfl, ?_⟩
        rw [List.length_map]
        have hs2 : StV H' sa pos1 bad1 := s2 _ _ hs1
        have eall : (p.all fun x => decide (x ≠ 0)) = true ↔ (p.filter fun x => decide (x = 0)).length = 0 := by
          rw [List.length_eq_zero_iff, List.filter_eq_nil_iff, List.all_eq_true]
          simp
        refine iteD (fun h => ?_) (fun h => ?_)
        · refine ⟨_, rfl, sa, _, _, 1, rfl, rfl, hs2, ixC 1 rfl (Nat.le_of_ble_eq_true rfl), _, true, rfl, hs2.setT, (Same.chg s2).trans Chg.upd, ⟨fun e => (by cases e), fun e => ?_⟩⟩
          have := eall.mp e.2
          omega
        · exact ⟨_, bad1, rfl, hs2, Same.chg s2, ⟨fun e => ⟨e, eall.mpr (by omega)⟩, fun e => e.1⟩⟩
    · rintro σ H2 ⟨v4, bad2, rfl, hs2, c2, hb2⟩
      have c02 := c1.trans c2
      have hpa2 := c2 _ _ npa hpa
      have pl2 : ∀ x y : Nat, x ≤ y → x ≤ y := fun _ _ h => h
      -- where the path is bad
      have badD : bad1 = true → ∀ d, decD n (st.drop pos) = some d → goodD d = false := fun e d ed => by
        have := bad rfl e
        unfold decD at ed
        rw [this] at ed
        cases ed
      have pd : ∀ d, decD n (st.drop pos) = some d → bad1 = false → d.1 = p := fun d ed e => by
        have := (good e).1
        unfold decD at ed
        rw [this] at ed
        dsimp only at ed
        split at ed
        · cases ed; rfl
        · split at ed
          · cases ed; rfl
          · split at ed
            · cases ed
            · split at ed
              · cases ed; rfl
              · split at ed
                · cases ed
                · split at ed
                  · cases ed; rfl
                  · cases ed
      have zeroD : (p.all fun x => decide (x ≠ 0)) = false → ∀ d, decD n (st.drop pos) = some d → goodD d = false := fun e d ed => by
        cases hb1 : bad1 with
        | true => exact badD hb1 d ed
        | false =>
          have ep := pd d ed hb1
          obtain ⟨p', r⟩ := d
          have ep : p' = p := ep
          subst ep
          obtain ⟨h1, _, _⟩ := decD_inv ed (wd.sub fun x hx => List.mem_of_mem_drop hx)
          have hpf : isPath (pthD p') = false := by rw [isPath_wds wp]; exact e
          cases r with
          | make b => rw [good_make wp]; exact e
          | drop => rw [good_drop wp]; exact e
          | shrink a => rw [good_shrink wp, e]; rfl
          | put off ws =>
            show (isPath (pthD p') && (isNum (.int (off : Int)) && areW (pthD ws))) = false
            rw [hpf]; rfl
          | get a n => exact h1.elim
          | size => exact h1.elim
          | list => exact h1.elim
      have bad2D : bad2 = true → ∀ d, decD n (st.drop pos) = some d → goodD d = false := fun e d ed => by
        cases hb1 : bad1 with
        | true => exact badD hb1 d ed
        | false =>
          refine zeroD ?_ d ed
          cases h : p.all fun x => decide (x ≠ 0) with
          | false => rfl
          | true => rw [hb2.mpr ⟨hb1, h⟩] at e; cases e
      have good2 : bad2 = false → cnt (st.drop pos) = some p ∧ pos1 = pos + 1 + p.length ∧ pos1 ≤ st.length ∧ (p.all fun x => decide (x ≠ 0)) = true := fun e => by
        obtain ⟨e1, e2⟩ := hb2.mp e
        obtain ⟨g1, g2, g3⟩ := good e1
        exact ⟨g1, g2, g3, e2⟩
      have decE : bad2 = false → decD n (st.drop pos) = if n = 1 ∨ n = 2 then some (p, .make (decide (n = 2))) else if n = 5 then some (p, .drop) else
          match st.drop pos1 with
          | [] => none
          | x :: r => if n = 4 then some (p, .shrink x.toNat) else match cnt r with
            | none => none
            | some ws => if n = 3 then some (p, .put x.toNat ws) else none := fun e => by
        obtain ⟨g1, g2, g3, g4⟩ := good2 e
        unfold decD
        rw [g1]
        dsimp only
        rw [List.drop_drop, show pos + (1 + p.length) = pos1 by omega]
        try rfl
      refine ⟨_, rfl, _, _, rfl, rfl, _, rfl, iteD (fun h3 => ?_) (fun h3 => ?_)⟩
      · -- make
        refine ⟨_, rfl, szl rfl, fun l hl => ⟨_, rfl, ?_⟩⟩
        have s3 := Same.new (o := .lst [.str "", .str "dir", .str "file"]) hl
        have hl3 : (upd H2 l (.lst [.str "", .str "dir", .str "file"])) l = some (.lst [.str "", .str "dir", .str "file"]) := upd_same
        generalize upd H2 l (.lst [.str "", .str "dir", .str "file"]) = H3 at s3 hl3
        obtain ⟨b, hb, hbn⟩ : ∃ b, atI [V.str "", V.str "dir", V.str "file"] n = some (.str (kindS b)) ∧ b = decide (n = 2) := by
          have : n = 1 ∨ n = 2 := by omega
          rcases this with rfl | rfl
          · exact ⟨false, rfl, rfl⟩
          · exact ⟨true, rfl, rfl⟩
        refine ⟨l, _, _, _, rfl, rfl, SqL.of hl3, hb, szl rfl, fun q hq => ?_⟩
        refine k (.ref q) _ pos1 bad2 (Same.new hq _ _ (s3 _ _ hs2)) (c02.trans (Same.chg (s3.trans (Same.new hq)))) (fun e => ?_) bad2D
        obtain ⟨g1, g2, g3, g4⟩ := good2 e
        refine ⟨(p, .make b), by rw [decE e, if_pos (by omega), hbn], by rw [good_make wp]; exact g4, ?_, g3, .tup upd_same (.cons (.str _) (.cons ((dt_path ⟨pa, rfl, s3 _ _ hpa2⟩).same (Same.new hq)) (.cons (.str _) .nil)))⟩
        unfold enc encR
        simp
        omega
      · have vne : ∀ m : Int, decide (V.int n = V.int m) = decide (n = m) := fun m => decide_eq_decide.mpr ⟨fun z => by injection z, fun z => by rw [z]⟩
        refine ⟨_, rfl, rfl, _, rfl, ?_⟩
        rw [vne]
        have ha2 := c02 _ _ nas ha
        refine iteD (fun h => ?_) (fun h => ?_)
        · -- put
          refine ⟨_, rfl, _, rfl, a, sa, st, pos1, bad2, rfl, ha2, hs2, fun H3 hs3 c3 => ?_⟩
          have xw := wd_getD wd pos1
          have hx0 : ∀ hi : pos1 < st.length, st[pos1]? = some (st.getD pos1 0) := fun hi => by
            rw [List.getD_eq_getElem?_getD, List.getElem?_eq_getElem hi]; rfl
          generalize st.getD pos1 0 = x at xw hx0
          have ha3 := c3 _ _ nas ha2
          refine ⟨_, rfl, _, rfl, a, sa, st, pos1 + 1, _, rfl, ha3, wd, sl, hs3, fun v H4 ws pos4 bad4 hws hs4 c4 wws wl mono good4 bad4D => ?_⟩
          obtain ⟨wa, rfl, hwa⟩ := hws
          have nwa : wa ≠ sa := ne_of hwa hs4 (by intro z; cases z)
          have c24 := c3.trans c4
          obtain ⟨xn, rfl⟩ := Int.eq_ofNat_of_zero_le xw.1
          refine ⟨fun σ H' => ∃ (bad5 : Bool), σ = [some (.ref a), some (.ref sa), some (.int n), some (.ref pa), v4, some (.int (xn : Int)), some (.ref wa), none] ∧ StV H' sa pos4 bad5 ∧ Chg sa H4 H' ∧ (bad5 = false ↔ bad4 = false ∧ xn ≤ 48 ∧ 1 ≤ ws.length ∧ ws.length ≤ 48), ?_, ?_⟩
          · have setB : ∀ (nx : L2.St → Hp → Prop), True := fun _ => trivial
            refine ⟨_, rfl, _, _, rfl, rfl, _, rfl, iteD (fun g => iteT ?_) (fun g => ⟨_, rfl, _, _, rfl, .inr (SqT.of hwa), _, _, rfl, rfl, _, rfl, ?_⟩)⟩
            · refine ⟨_, rfl, sa, _, _, 1, rfl, rfl, hs4, ixC 1 rfl (Nat.le_of_ble_eq_true rfl), true, rfl, hs4.setT, Chg.upd, ⟨fun e => (by cases e), fun e => ?_⟩⟩
              omega
            · rw [List.length_map]
              refine iteD (fun g2 => iteT ?_) (fun g2 => ⟨_, rfl, _, _, rfl, .inr (SqT.of hwa), _, _, rfl, rfl, _, rfl, ?_⟩)
              · refine ⟨_, rfl, sa, _, _, 1, rfl, rfl, hs4, ixC 1 rfl (Nat.le_of_ble_eq_true rfl), true, rfl, hs4.setT, Chg.upd, ⟨fun e => (by cases e), fun e => ?_⟩⟩
                omega
              · rw [List.length_map]
                refine iteD (fun g3 => ?_) (fun g3 => ?_)
                · refine ⟨_, rfl, sa, _, _, 1, rfl, rfl, hs4, ixC 1 rfl (Nat.le_of_ble_eq_true rfl), true, rfl, hs4.setT, Chg.upd, ⟨fun e => (by cases e), fun e => ?_⟩⟩
                  omega
                · exact ⟨bad4, rfl, hs4, Chg.refl _ _, ⟨fun e => ⟨e, by omega, by omega, by omega⟩, fun e => e.1⟩⟩
          · rintro σ H5 ⟨bad5, rfl, hs5, c5, hb5⟩
            have c25 := c24.trans c5
            refine ⟨_, rfl, _, rfl, _, rfl, szl rfl, fun q hq => ?_⟩
            refine k (.ref q) _ pos4 bad5 (Same.new hq _ _ hs5) ((c02.trans c25).trans (Same.chg (Same.new hq))) (fun e => ?_) (fun e d ed => ?_)
            · obtain ⟨e4, o48, w1, w48⟩ := hb5.mp e
              have eor : (bad2 || decide (st.length ≤ pos1)) = false := by
                cases hh : (bad2 || decide (st.length ≤ pos1)) with
                | false => rfl
                | true => rw [mono hh] at e4; cases e4
              rw [Bool.or_eq_false_iff] at eor
              have hi := of_decide_eq_false eor.2
              obtain ⟨g1, g2, g3, g4⟩ := good2 eor.1
              obtain ⟨q1, q2, q3⟩ := good4 e4
              have ed := decE eor.1
              rw [if_neg (by omega), if_neg (by omega), drop_cons (hx0 (by omega))] at ed
              dsimp only at ed
              rw [if_neg (by omega), q1] at ed
              dsimp only at ed
              rw [if_pos h, Int.toNat_natCast] at ed
              refine ⟨_, ed, by rw [good_put wp wws, g4, decide_eq_true o48, decide_eq_true ⟨w1, w48⟩]; rfl, ?_, q3, .tup upd_same (.cons (.str _) (.cons ((dt_path ⟨pa, rfl, c25 _ _ npa hpa2⟩).same (Same.new hq)) (.cons (.int _) (.cons ((dt_path ⟨wa, rfl, c5 _ _ nwa hwa⟩).same (Same.new hq)) .nil))))⟩
              unfold enc encR
              simp
              omega
            · cases hb : bad2 with
              | true => exact bad2D hb d ed
              | false =>
                have ee := decE hb
                rw [if_neg (by omega), if_neg (by omega)] at ee
                obtain ⟨g1, g2, g3, g4⟩ := good2 hb
                by_cases hi : pos1 < st.length
                · rw [drop_cons (hx0 hi)] at ee
                  dsimp only at ee
                  rw [if_neg (by omega)] at ee
                  have eor : (bad2 || decide (st.length ≤ pos1)) = false := by rw [hb, decide_eq_false (by omega)]; rfl
                  cases hb4 : bad4 with
                  | true =>
                    rw [bad4D eor hb4] at ee
                    rw [ee] at ed; cases ed
                  | false =>
                    obtain ⟨q1, _, _⟩ := good4 hb4
                    rw [q1] at ee
                    dsimp only at ee
                    rw [if_pos h, Int.toNat_natCast] at ee
                    rw [ee] at ed
                    cases ed
                    rw [good_put wp wws, g4]
                    have nb : ¬ (xn ≤ 48 ∧ 1 ≤ ws.length ∧ ws.length ≤ 48) := fun z => by
                      rw [hb5.mpr ⟨hb4, z⟩] at e; cases e
                    by_cases c1' : xn ≤ 48
                    · rw [decide_eq_true c1', decide_eq_false (fun z => nb ⟨c1', z⟩)]; rfl
                    · rw [decide_eq_false c1']; rfl
                · rw [List.drop_eq_nil_of_le (show st.length ≤ pos1 by omega)] at ee
                  rw [ee] at ed; cases ed
        · refine ⟨_, rfl, rfl, _, rfl, ?_⟩
          rw [vne]
          refine iteD (fun h4 => ?_) (fun h4 => ?_)
          · -- shrink
            refine ⟨_, rfl, _, rfl, a, sa, st, pos1, bad2, rfl, ha2, hs2, fun H3 hs3 c3 => ?_⟩
            have xw := wd_getD wd pos1
            have hx0 : ∀ hi : pos1 < st.length, st[pos1]? = some (st.getD pos1 0) := fun hi => by
              rw [List.getD_eq_getElem?_getD, List.getElem?_eq_getElem hi]; rfl
            generalize st.getD pos1 0 = x at xw hx0
            obtain ⟨xn, rfl⟩ := Int.eq_ofNat_of_zero_le xw.1
            generalize hb3 : (bad2 || decide (st.length ≤ pos1)) = bad3 at hs3
            refine ⟨fun σ H' => ∃ (bad5 : Bool), σ = [some (.ref a), some (.ref sa), some (.int n), some (.ref pa), v4, none, none, some (.int (xn : Int))] ∧ StV H' sa (pos1 + 1) bad5 ∧ Chg sa H3 H' ∧ (bad5 = false ↔ bad3 = false ∧ xn ≤ 48), ?_, ?_⟩
            · refine ⟨_, rfl, _, _, rfl, rfl, _, rfl, iteD (fun g => ?_) (fun g => ?_)⟩
              · refine ⟨_, rfl, sa, _, _, 1, rfl, rfl, hs3, ixC 1 rfl (Nat.le_of_ble_eq_true rfl), true, rfl, hs3.setT, Chg.upd, ⟨fun e => (by cases e), fun e => ?_⟩⟩
                omega
              · exact ⟨bad3, rfl, hs3, Chg.refl _ _, ⟨fun e => ⟨e, by omega⟩, fun e => e.1⟩⟩
            · rintro σ H5 ⟨bad5, rfl, hs5, c5, hb5⟩
              have c25 := c3.trans c5
              refine ⟨_, rfl, _, rfl, szl rfl, fun q hq => ?_⟩
              refine k (.ref q) _ (pos1 + 1) bad5 (Same.new hq _ _ hs5) ((c02.trans c25).trans (Same.chg (Same.new hq))) (fun e => ?_) (fun e d ed => ?_)
              · obtain ⟨e3, o48⟩ := hb5.mp e
                rw [← hb3, Bool.or_eq_false_iff] at e3
                have hi := of_decide_eq_false e3.2
                obtain ⟨g1, g2, g3, g4⟩ := good2 e3.1
                have ed := decE e3.1
                rw [if_neg (by omega), if_neg (by omega), drop_cons (hx0 (by omega))] at ed
                dsimp only at ed
                rw [if_pos h4, Int.toNat_natCast] at ed
                refine ⟨_, ed, by rw [good_shrink wp, g4, decide_eq_true o48]; rfl, ?_, by omega, .tup upd_same (.cons (.str _) (.cons ((dt_path ⟨pa, rfl, c25 _ _ npa hpa2⟩).same (Same.new hq)) (.cons (.int _) .nil)))⟩
                unfold enc encR
                simp
                omega
              · cases hb : bad2 with
                | true => exact bad2D hb d ed
                | false =>
                  have ee := decE hb
                  rw [if_neg (by omega), if_neg (by omega)] at ee
                  obtain ⟨g1, g2, g3, g4⟩ := good2 hb
                  by_cases hi : pos1 < st.length
                  · rw [drop_cons (hx0 hi)] at ee
                    dsimp only at ee
                    rw [if_pos h4, Int.toNat_natCast] at ee
                    rw [ee] at ed
                    cases ed
                    rw [good_shrink wp, g4]
                    have nb : ¬ xn ≤ 48 := fun z => by
                      rw [hb5.mpr ⟨by rw [← hb3, hb, decide_eq_false (by omega)]; rfl, z⟩] at e; cases e
                    rw [decide_eq_false nb]; rfl
                  · rw [List.drop_eq_nil_of_le (show st.length ≤ pos1 by omega)] at ee
                    rw [ee] at ed; cases ed
          · -- drop
            refine ⟨_, rfl, szl rfl, fun q hq => ?_⟩
            refine k (.ref q) _ pos1 bad2 (Same.new hq _ _ hs2) (c02.trans (Same.chg (Same.new hq))) (fun e => ?_) bad2D
            obtain ⟨g1, g2, g3, g4⟩ := good2 e
            refine ⟨(p, .drop), by rw [decE e, if_neg (by omega), if_pos (by omega)], by rw [good_drop wp]; exact g4, ?_, g3, .tup upd_same (.cons (.str _) (.cons ((dt_path ⟨pa, rfl, hpa2⟩).same (Same.new hq)) .nil))⟩
            unfold enc encR
            simp
            omega
end
end My

namespace My
open PySem L2
local macro_rules | `(tactic| walk_at "ne") => `(tactic| first | assumption | exact Ne.symm (by assumption) | exact ne_of_none (by assumption) (by assumption) | exact Ne.symm (ne_of_none (by assumption) (by assumption)))
local macro_rules | `(tactic| walk_at "hp") => `(tactic| first | assumption | with_reducible exact upd_same | (with_reducible refine Eq.trans (upd_ne ?_) ?_; rotate_left; walk_at "hp"; walk_at "ne"))
local macro_rules | `(tactic| walk_at "cnd") => `(tactic| first | omega | (show (0 : Int) < _; omega) | exact ⟨by omega, by omega⟩ | exact Or.inl ⟨by omega, by omega⟩ | exact Or.inr ⟨by omega, by omega⟩ | exact ⟨by omega, by omega, by decide⟩ | exact ⟨by omega, by omega, by omega⟩)
local macro_rules | `(tactic| walk_at "at") => `(tactic| first | exact atC 0 rfl rfl | exact atC 1 rfl rfl | exact atC 2 rfl rfl | exact atC 3 rfl rfl | exact atC 4 rfl rfl | exact atC 5 rfl rfl | exact atC 6 rfl rfl | exact atC 7 rfl rfl)
local macro_rules | `(tactic| walk_at "ix") => `(tactic| first | exact ixC 0 rfl (Nat.le_of_ble_eq_true rfl) | exact ixC 1 rfl (Nat.le_of_ble_eq_true rfl) | exact ixC 2 rfl (Nat.le_of_ble_eq_true rfl) | exact ixC 3 rfl (Nat.le_of_ble_eq_true rfl) | exact ixC 4 rfl (Nat.le_of_ble_eq_true rfl) | exact ixC 5 rfl (Nat.le_of_ble_eq_true rfl))
local macro_rules | `(tactic| walk_at "st") => `(tactic| first
  | refine ⟨_, rfl, ?_⟩
  | refine ⟨_, _, rfl, rfl, (by walk_at "cnd" : (_ : Prop)), ?_⟩
  | refine ⟨_, _, rfl, rfl, ?_⟩
  | refine ⟨rfl, ?_⟩
  | refine Or.inl ⟨_, rfl, ?_⟩
  | refine ⟨_, _, _, _, rfl, rfl, by exact SqL.of (by walk_at "hp"), by walk_at "at", ?_⟩
  | refine ⟨_, _, _, _, rfl, rfl, by exact SqT.of (by walk_at "hp"), by walk_at "at", ?_⟩
  | refine ⟨_, _, _, _, rfl, rfl, by walk_at "hp", by walk_at "ix", ?_⟩
  | refine ⟨_, _, rfl, Or.inl (by exact SqL.of (by walk_at "hp")), ?_⟩
  | refine ⟨_, _, rfl, Or.inr (by exact SqT.of (by walk_at "hp")), ?_⟩)
local macro_rules | `(tactic| walk_at "so") => `(tactic| first
  | refine ⟨_, _, _, _, _, rfl, by walk_at "hp", by assumption, by assumption, rfl, ?_⟩
  | refine ⟨_, _, _, _, rfl, by walk_at "hp", by assumption, by assumption, Nat.le_of_ble_eq_true rfl, ?_⟩
  | refine ⟨_, _, _, rfl, by walk_at "hp", rfl, ?_⟩
  | walk_at "st")
local macro_rules | `(tactic| walk_at "ro") => `(tactic| repeat walk_at "so")
local macro_rules | `(tactic| walk_at "run") => `(tactic| repeat walk_at "st")

theorem Same.chgN {H G G' : Hp} {a : Addr} (s : Same H G) (c : Chg a G G') (h : H a = none) : Same H G' := fun b o e => c b o (fun z => by rw [z, h] at e; cases e) (s b o e)
theorem Chg.tsl {H H' : Hp} {a : Addr} {xs : List V} (c : Chg a H H') (h : H a = some (.lst xs)) : TS H H' := fun b ys e => c b _ (ne_of e h (by intro z; cases z)) e
theorem decD_big {n : Int} (h : 5 < n) (s : List Int) : decD n s = none := by
  unfold decD
  cases cnt s with
  | none => rfl
  | some p =>
    dsimp only
    rw [if_neg (by omega), if_neg (by omega)]
    cases s.drop (1 + p.length) with
    | nil => rfl
    | cons x r =>
      dsimp only
      rw [if_neg (by omega)]
      cases cnt r with
      | none => rfl
      | some ws => exact if_neg (by omega)
section
variable {P : Program} {w : World} {K : PySem.W.Frag} {mg : Str → Option Value} {base : Heap} {A_PARTS : Addr}
abbrev s_law_due : Stmt := topS 48
abbrev ns_law_due : List Str := ["stream", "state", "deeds", "turn", "number"]
theorem sc_law_due : FnScope ns_law_due ["stream"] (defScope s_law_due) := ⟨rfl, rfl, rfl, by decide +kernel, rfl, by decide +kernel, by decide +kernel⟩

theorem ok_law_due {f : Addr} {fd : FuncData} (F : Fun K "_law_due" "_law_due" s_law_due f fd) (T : Txt K mg  w A_PARTS) (D_law_word : Dfn P w K mg base CX0 1 "_law_word" ["stream", "state"] spWrd) (D_law_deed : Dfn P w K mg base CX0 3 "_law_deed" ["stream", "state", "number"] spDeed) : FnOk P w K mg base CX0 4 f fd ["stream"] spDeeds := by
  refine F.ok sc_law_due (fun vs H Q E h => ?_) (fun cdv A outer s H vs Q E hr h => ?_)
  · obtain ⟨a, st, rfl, _⟩ := h
    rfl
  · obtain ⟨a, st, rfl, ha, wd, sl, k1, k2⟩ := h
    refine ⟨_, (pss_cons (ps_set (i := 1) sc_law_due.nd rfl (Or.inl rfl) (pe_lst (pa_cons pe_int (pa_cons pe_bl pa_nil))))
  (pss_cons (ps_set (i := 2) sc_law_due.nd rfl (Or.inl rfl) (pe_lst pa_nil))
  (pss_cons (ps_for PassesOwn.never (by rfl) (pi_range1 (by rfl) T.b_range (pa_cons (pe_callB (kLen K) (by rfl) T.b_len (by decide +kernel) (pa_cons (pv 0) pa_nil)) pa_nil)) (pg_name (i := 3) sc_law_due.nd rfl (Or.inl rfl)) (pss_one (ps_if (pt_cmpR op_lt (pe_ix (kIxL K) (pv 1) pe_int (fun _ _ => rfl)) (pe_callB (kLen K) (by rfl) T.b_len (by decide +kernel) (pa_cons (pv 0) pa_nil)) (nomark _)) (pss_cons (ps_set (i := 4) sc_law_due.nd rfl (Or.inl rfl) (pe_dcall D_law_word (hr.mono (by decide)) (by rfl) pass0 (pa_cons (pv 0) (pa_cons (pv 1) pa_nil))))
  (pss_cons (ps_if (pt_cmpR op_gt (pv 4) pe_int (nomark _)) (pss_one (ps_ret pe_non)) pss_nil)
  (C8.pss_cut (ps_if (pt_cmpR op_gt (pv 4) pe_int (nomark _)) (pss_one (ps_expr (kBM K PySem.F.plainAttrs_list PySem.F.slot_list_append PySem.F.type_list_append mt_append (pv 2) (pa_cons (pe_dcall D_law_deed (hr.mono (by decide)) (by rfl) pass0 (pa_cons (pv 0) (pa_cons (pv 1) (pa_cons (pv 4) pa_nil)))) pa_nil)))) pss_nil)
  (pss_one (ps_if (pt_truth (pe_ix (kIxL K) (pv 1) pe_int (fun _ _ => rfl)) (by intro _; rfl)) (pss_one (ps_ret pe_non)) pss_nil))))) pss_nil)))
  (pss_one (ps_ret (pv 2)))))), ?_⟩
    refine ⟨szl rfl, fun sa hsa => ?_⟩
    refine ⟨szl rfl, fun D hD => ?_⟩
    have nDs : D ≠ sa := fun z => by rw [z, upd_same] at hD; cases hD
    have s2 := (Same.new (o := .lst [.int 0, .bl false]) hsa).trans (Same.new (o := .lst []) hD)
    have hs2 : StV (upd (upd H sa (.lst [.int 0, .bl false])) D (.lst [])) sa 0 false := Same.new hD _ _ upd_same
    have hx2 : (upd (upd H sa (.lst [.int 0, .bl false])) D (.lst [])) D = some (.lst []) := upd_same
    have fD : H D = none := upd_none_of hD
    generalize upd (upd H sa (.lst [.int 0, .bl false])) D (.lst []) = H2 at s2 hs2 hx2
    clear hD
    refine ⟨_, rfl, _, _, rfl, .inl (SqL.of (s2 _ _ ha)), _, rfl, by rw [List.length_map]; omega, by rw [List.length_map]; omega, for_range (fun i σ G => ∃ (v3 v4 : Option V) (pos : Nat) (xs : List V) (ds : List Deed), σ = [some (.ref a), some (.ref sa), some (.ref D), v3, v4] ∧ StV G sa pos false ∧ Same H G ∧ G D = some (.lst xs) ∧ DtAll G xs (ds.map rqDD) ∧ dec st = (dec (st.drop pos)).map (ds ++ ·) ∧ ds.length ≤ pos ∧ pos ≤ st.length ∧ (i ≤ pos ∨ pos = st.length)) ?_ ?_ ?_⟩
    · exact ⟨none, none, 0, [], [], rfl, hs2, s2, hx2, .nil, by rw [List.drop_zero]; cases dec st <;> rfl, Nat.le_refl _, Nat.zero_le _, .inl (Nat.zero_le _)⟩
    · rintro i σ G hi ⟨v3, v4, pos, xs, ds, rfl, hs, sG, hx, hds, hdec, hlen, hpos, hip⟩
      have haG := sG _ _ ha
      refine ⟨_, rfl, _, _, _, _, rfl, rfl, SqL.of hs, atC 0 rfl rfl, _, rfl, _, _, rfl, .inl (SqL.of haG), _, _, rfl, rfl, _, rfl, ?_⟩
      rw [List.length_map]
      refine iteD (fun hlt => ?_) (fun hge => ?_)
      · have hil : pos < st.length := by omega
        have hn : st[pos]? = some (st.getD pos 0) := by
          rw [List.getD_eq_getElem?_getD, List.getElem?_eq_getElem hil]; rfl
        have wn := wd_getD wd pos
        refine ⟨_, rfl, _, rfl, a, sa, st, pos, false, rfl, haG, hs, fun H1 hs1 c1 => ?_⟩
        rw [show (false || decide (st.length ≤ pos)) = false by rw [decide_eq_false (show ¬ st.length ≤ pos by omega)]; rfl] at hs1
        generalize st.getD pos 0 = n at hn wn
        have ed := drop_cons hn
        have s1 : Same H H1 := Same.chgN sG c1 hsa
        have hx1 := c1 _ _ nDs hx
        have hds1 : DtAll H1 xs (ds.map rqDD) := hds.ts (c1.tsl hs) (tonly_rqs ds)
        refine ⟨_, rfl, _, _, rfl, rfl, _, rfl, iteD (fun h5 => ?_) (fun h5 => ?_)⟩
        · refine k1 ?_ _ s1
          rw [hdec, ed, dec_cons (by omega), decD_big h5]; rfl
        · refine ⟨fun σ G => ∃ (pos' : Nat) (bad' : Bool) (xs' : List V) (ds' : List Deed), σ = [some (.ref a), some (.ref sa), some (.ref D), some (.int (0 + (i : Nat))), some (.int n)] ∧ StV G sa pos' bad' ∧ Same H G ∧ (bad' = false → G D = some (.lst xs') ∧ DtAll G xs' (ds'.map rqDD) ∧ dec st = (dec (st.drop pos')).map (ds' ++ ·) ∧ ds'.length ≤ pos' ∧ pos' ≤ st.length ∧ pos + 1 ≤ pos') ∧ (bad' = true → dec st = none), ?_, ?_⟩
          · refine ⟨_, rfl, _, _, rfl, rfl, _, rfl, iteD (fun h0 => ?_) (fun h0 => ?_)⟩
            · refine ⟨_, rfl, .inl ⟨rfl, _, SqL.of hx1⟩, _, rfl, _, rfl, _, rfl, a, sa, st, pos + 1, n, rfl, s1 _ _ ha, wd, sl, hs1, by omega, by omega, fun v H4 pos' bad' hs4 c4 gd bd => ?_⟩
              have s4 := Same.chgN s1 c4 hsa
              have hx4 := c4 _ _ nDs hx1
              have e1 := dec_cons (show n ≠ 0 by omega) (st.drop (pos + 1))
              rw [← ed] at e1
              have xl : xs.length = ds.length := by rw [hds.len, List.length_map]
              refine ⟨D, xs, _, rfl, rfl, hx4, szt (by omega), ?_⟩
              have s5 : Same H (upd H4 D (.lst (xs ++ [v]))) := Same.mut s4 fD
              have hx5 : (upd H4 D (.lst (xs ++ [v]))) D = some (.lst (xs ++ [v])) := upd_same
              have ts45 : TS H4 (upd H4 D (.lst (xs ++ [v]))) := fun b ys e => by rw [upd_ne (ne_of e hx4 (by intro z; cases z))]; exact e
              have hs5 : StV (upd H4 D (.lst (xs ++ [v]))) sa pos' bad' := by
                show _ = _
                rw [upd_ne nDs.symm]; exact hs4
              have key : ∃ d, bad' = false → decD n (st.drop (pos + 1)) = some d ∧ goodD d = true ∧ pos' + 1 = pos + 1 + (enc d).length ∧ pos' ≤ st.length ∧ Dt H4 v (rqDD d) := by
                cases bad' with
                | true => exact ⟨([], .drop), fun e => (by cases e)⟩
                | false =>
                  obtain ⟨d, g⟩ := gd rfl
                  exact ⟨d, fun _ => g⟩
              obtain ⟨d, key⟩ := key
              refine ⟨pos', bad', xs ++ [v], ds ++ [d], rfl, hs5, s5, fun e => ?_, fun e => ?_⟩
              · obtain ⟨q1, q2, q3, q4, q5⟩ := key e
                have := enc_pos d
                have hds4 : DtAll H4 xs (ds.map rqDD) := hds1.ts (c4.tsl hs1) (tonly_rqs ds)
                refine ⟨hx5, ?_, ?_, by rw [List.length_append, List.length_singleton]; omega, q4, by omega⟩
                · rw [List.map_append]
                  exact (DtAll.ts ts45 (tonly_rqs ds) hds4).snoc (q5.ts ts45 tonly_rq)
                · rw [hdec, e1, q1]
                  dsimp only
                  rw [if_pos q2, List.drop_drop, show pos + (enc d).length = pos' by omega]
                  cases dec (st.drop pos') with
                  | none => rfl
                  | some x => show some (ds ++ d :: x) = some (ds ++ [d] ++ x); rw [List.append_assoc]; rfl
              · rw [hdec, e1]
                cases en : decD n (st.drop (pos + 1)) with
                | none => rfl
                | some d =>
                  dsimp only
                  rw [if_neg (by rw [bd e d en]; exact Bool.false_ne_true)]; rfl
            · have n0 : n = 0 := by have := wn.1; omega
              refine ⟨pos + 1, false, xs, ds, rfl, hs1, s1, fun _ => ⟨hx1, hds1, ?_, by omega, by omega, Nat.le_refl _⟩, fun e => (by cases e)⟩
              rw [hdec, ed, n0, dec_zero]
          · rintro σ G2 ⟨pos', bad', xs', ds', rfl, hs2', sG2, gd, bd⟩
            refine ⟨_, rfl, _, _, _, _, rfl, rfl, SqL.of hs2', atC 1 rfl rfl, _, rfl, ?_⟩
            cases bad' with
            | true => exact iteT (k1 (bd rfl) _ sG2)
            | false =>
              obtain ⟨g1, g2, g3, g4, g5, g6⟩ := gd rfl
              exact iteF ⟨_, _, pos', xs', ds', rfl, hs2', sG2, g1, g2, g3, g4, g5, by omega⟩
      · exact ⟨_, _, pos, xs, ds, rfl, hs, sG, hx, hds, hdec, hlen, hpos, .inr (by omega)⟩
    · rintro σ G ⟨v3, v4, pos, xs, ds, rfl, hs, sG, hx, hds, hdec, hlen, hpos, hip⟩
      rw [List.length_map] at hip
      have ep : pos = st.length := by omega
      rw [ep, List.drop_length, dec_nil] at hdec
      have hdec : dec st = some ds := by rw [hdec]; show some (ds ++ []) = _; rw [List.append_nil]
      exact ⟨_, rfl, k2 ds hdec D G sG fD (.lst hx hds)⟩
end
end My

namespace My
open PySem L2
local macro_rules | `(tactic| walk_at "ne") => `(tactic| first | assumption | exact Ne.symm (by assumption) | exact ne_of_none (by assumption) (by assumption) | exact Ne.symm (ne_of_none (by assumption) (by assumption)))
local macro_rules | `(tactic| walk_at "hp") => `(tactic| first | assumption | with_reducible exact upd_same | (with_reducible refine Eq.trans (upd_ne ?_) ?_; rotate_left; walk_at "hp"; walk_at "ne"))
local macro_rules | `(tactic| walk_at "cnd") => `(tactic| first | omega | (show (0 : Int) < _; omega) | exact ⟨by omega, by omega⟩ | exact Or.inl ⟨by omega, by omega⟩ | exact Or.inr ⟨by omega, by omega⟩ | exact ⟨by omega, by omega, by decide⟩ | exact ⟨by omega, by omega, by omega⟩)
local macro_rules | `(tactic| walk_at "at") => `(tactic| first | exact atC 0 rfl rfl | exact atC 1 rfl rfl | exact atC 2 rfl rfl | exact atC 3 rfl rfl | exact atC 4 rfl rfl | exact atC 5 rfl rfl | exact atC 6 rfl rfl | exact atC 7 rfl rfl)
local macro_rules | `(tactic| walk_at "ix") => `(tactic| first | exact ixC 0 rfl (Nat.le_of_ble_eq_true rfl) | exact ixC 1 rfl (Nat.le_of_ble_eq_true rfl) | exact ixC 2 rfl (Nat.le_of_ble_eq_true rfl) | exact ixC 3 rfl (Nat.le_of_ble_eq_true rfl) | exact ixC 4 rfl (Nat.le_of_ble_eq_true rfl) | exact ixC 5 rfl (Nat.le_of_ble_eq_true rfl))
local macro_rules | `(tactic| walk_at "st") => `(tactic| first
  | refine ⟨_, rfl, ?_⟩
  | refine ⟨_, _, rfl, rfl, (by walk_at "cnd" : (_ : Prop)), ?_⟩
  | refine ⟨_, _, rfl, rfl, ?_⟩
  | refine ⟨rfl, ?_⟩
  | refine Or.inl ⟨_, rfl, ?_⟩
  | refine ⟨_, _, _, _, rfl, rfl, by exact SqL.of (by walk_at "hp"), by walk_at "at", ?_⟩
  | refine ⟨_, _, _, _, rfl, rfl, by exact SqT.of (by walk_at "hp"), by walk_at "at", ?_⟩
  | refine ⟨_, _, _, _, rfl, rfl, by walk_at "hp", by walk_at "ix", ?_⟩
  | refine ⟨_, _, rfl, Or.inl (by exact SqL.of (by walk_at "hp")), ?_⟩
  | refine ⟨_, _, rfl, Or.inr (by exact SqT.of (by walk_at "hp")), ?_⟩)
local macro_rules | `(tactic| walk_at "so") => `(tactic| first
  | refine ⟨_, _, _, _, _, rfl, by walk_at "hp", by assumption, by assumption, rfl, ?_⟩
  | refine ⟨_, _, _, _, rfl, by walk_at "hp", by assumption, by assumption, Nat.le_of_ble_eq_true rfl, ?_⟩
  | refine ⟨_, _, _, rfl, by walk_at "hp", rfl, ?_⟩
  | walk_at "st")
local macro_rules | `(tactic| walk_at "ro") => `(tactic| repeat walk_at "so")
local macro_rules | `(tactic| walk_at "run") => `(tactic| repeat walk_at "st")

def goodP (p : List Int) : Prop := (1 ≤ p.length ∧ p.length ≤ 3) ∧ ∀ n ∈ p, 1 ≤ n ∧ n ≤ 3
def goodRq : Rq → Prop
  | .make _ => True
  | .put off ws => off ≤ 5 ∧ 1 ≤ ws.length ∧ ws.length ≤ 9 ∧ ∀ n ∈ ws, 0 ≤ n ∧ n ≤ 8
  | .shrink a => a ≤ 8
  | .drop => True
  | _ => False
def goodDd (d : Deed) : Prop := goodP d.1 ∧ goodRq d.2
theorem goodP.wds {p : List Int} (h : goodP p) : Wds p := fun x hx => by
  have := h.2 x hx
  exact ⟨by omega, by omega⟩
theorem goodP.all {p : List Int} (h : goodP p) : (p.all fun x => decide (x ≠ 0)) = true := by
  rw [List.all_eq_true]
  intro x hx
  have := h.2 x hx
  exact decide_eq_true (by omega)
theorem goodDd.deed {d : Deed} (h : goodDd d) : isDeed d.2 := by
  obtain ⟨p, r⟩ := d
  cases r with
  | make b => trivial
  | put off ws => trivial
  | shrink a => trivial
  | drop => trivial
  | get a n => exact h.2
  | size => exact h.2
  | list => exact h.2
theorem goodDd.small {d : Deed} (h : goodDd d) : smallD d.1 d.2 := by
  obtain ⟨p, r⟩ := d
  obtain ⟨⟨⟨_, hp⟩, _⟩, hr⟩ := h
  have hp : p.length ≤ 3 := hp
  cases r with
  | put off ws => exact ⟨by show p.length ≤ 5000; omega, by have := hr.2.2.1; show ws.length ≤ 5000; omega⟩
  | _ => show p.length ≤ 5000; omega
theorem goodDd.enc {d : Deed} (h : goodDd d) : (enc d).length ≤ 16 ∧ Wds (enc d) := by
  obtain ⟨p, r⟩ := d
  obtain ⟨hp, hr⟩ := h
  have pl : p.length ≤ 3 := hp.1.2
  have pw : Wds p := hp.wds
  have kw : Wd (encK r) := by
    cases r with
    | make b => cases b <;> exact ⟨by decide, by decide⟩
    | put _ _ => exact (⟨by decide, by decide⟩ : Wd 3)
    | shrink _ => exact (⟨by decide, by decide⟩ : Wd 4)
    | _ => exact (⟨by decide, by decide⟩ : Wd 5)
  have key : (encR r).length ≤ 11 ∧ Wds (encR r) := by
    cases r with
    | put off ws =>
      obtain ⟨h1, h2, h3, h4⟩ := hr
      refine ⟨by show ws.length + 2 ≤ 11; omega, fun x hx => ?_⟩
      rcases List.mem_cons.mp hx with z | hx
      · rw [z]; exact ⟨by omega, by omega⟩
      rcases List.mem_cons.mp hx with z | hx
      · rw [z]; exact ⟨by omega, by omega⟩
      · have := h4 x hx
        exact ⟨by omega, by omega⟩
    | shrink a =>
      have ha : a ≤ 8 := hr
      refine ⟨by show 1 ≤ 11; omega, fun x hx => ?_⟩
      have : x = (a : Int) := by simpa [encR] using hx
      rw [this]; exact ⟨by omega, by omega⟩
    | _ => exact ⟨Nat.zero_le _, fun x hx => (by cases hx)⟩
  unfold My.enc
  refine ⟨by simp only [List.length_cons, List.length_append]; omega, fun x hx => ?_⟩
  rcases List.mem_cons.mp hx with z | hx
  · rw [z]; exact kw
  rcases List.mem_cons.mp hx with z | hx
  · rw [z]; exact ⟨by omega, by show (p.length : Int) ≤ 4294967295; omega⟩
  rcases List.mem_append.mp hx with z | z
  · exact pw x z
  · exact key.2 x z
theorem goodDd.good {d : Deed} (h : goodDd d) : goodD d = true := by
  obtain ⟨p, r⟩ := d
  obtain ⟨hp, hr⟩ := h
  have pw : Wds p := hp.wds
  have pa := goodP.all hp
  cases r with
  | make b => rw [good_make pw]; exact pa
  | put off ws =>
    obtain ⟨h1, h2, h3, h4⟩ := hr
    rw [good_put pw fun x hx => (by have := h4 x hx; exact ⟨by omega, by omega⟩)]
    rw [show (p.all fun x => decide (x ≠ 0)) = true from pa, decide_eq_true (show off ≤ 48 by omega), decide_eq_true (show 1 ≤ ws.length ∧ ws.length ≤ 48 from ⟨h2, by omega⟩)]; rfl
  | shrink a =>
    have ha : a ≤ 8 := hr
    rw [good_shrink pw, show (p.all fun x => decide (x ≠ 0)) = true from pa, decide_eq_true (show a ≤ 48 by omega)]; rfl
  | drop => rw [good_drop pw]; exact pa
  | get a n => exact hr.elim
  | size => exact hr.elim
  | list => exact hr.elim
def lit9 : List V := [.int 0, .int 1, .int 2, .int 3, .int 4, .int 5, .int 6, .int 49, .int (2 ^ (32 : Int).toNat - 1)]
theorem lit9_at {u : Int} (h0 : 0 ≤ u) (h1 : u < 9) : ∃ x, atI lit9 u = some (.int x) ∧ Wd x := by
  have : u = 0 ∨ u = 1 ∨ u = 2 ∨ u = 3 ∨ u = 4 ∨ u = 5 ∨ u = 6 ∨ u = 7 ∨ u = 8 := by omega
  rcases this with rfl | rfl | rfl | rfl | rfl | rfl | rfl | rfl | rfl <;> exact ⟨_, rfl, by constructor <;> decide⟩
def lit6 : List V := [.int 0, .int 1, .int 2, .int 7, .int 48, .int (2 ^ (32 : Int).toNat - 1)]
theorem lit6_at {u : Int} (h0 : 0 ≤ u) (h1 : u < 6) : ∃ x, atI lit6 u = some (.int x) ∧ Wd x := by
  have : u = 0 ∨ u = 1 ∨ u = 2 ∨ u = 3 ∨ u = 4 ∨ u = 5 := by omega
  rcases this with rfl | rfl | rfl | rfl | rfl | rfl <;> exact ⟨_, rfl, by constructor <;> decide⟩
theorem shaped_ints (p : List Int) : SeqAt.shaped (.list (p.map PyData.int)) = true := (Sh.lst (n := 3) fun d hd => by
  obtain ⟨n, _, rfl⟩ := List.mem_map.mp hd
  exact Sh.int _ _).ok
theorem dt_ints {H : Hp} (p : List Int) : DtAll H (p.map V.int) (p.map PyData.int) := by
  induction p with
  | nil => exact .nil
  | cons x p ih => exact .cons (.int _) ih
theorem cut_from (st : List Int) (k : Nat) : cutV (st.map V.int) (some (k : Int)) none = (st.drop k).map V.int := by
  unfold cutV
  rw [HT.sIx_nat, HT.sIx_none, List.length_map, List.map_drop, List.take_of_length_le (by rw [List.length_drop, List.length_map]; omega)]
  rcases Nat.le_total k st.length with q | q
  · rw [Nat.min_eq_left q]
  · rw [Nat.min_eq_right q, List.drop_eq_nil_of_le (by simp), List.drop_eq_nil_of_le (by simpa using q)]
def spRequest : Sp := fun vs H Q _ => ∃ (tp s : Addr), vs = [.ref tp] ∧ Tape H tp s ∧ ∀ v d H', Dt H' v (rqDD d) → goodDd d → Tape H' tp s → Chg tp H H' → Q v H'
def spBent : Sp := fun vs H Q _ => ∃ (tp s a : Addr) (st : List Int), vs = [.ref tp, .ref a] ∧ Tape H tp s ∧ H a = some (.lst (st.map V.int)) ∧ Wds st ∧ st.length ≤ 3000 ∧ a ≠ tp ∧ ∀ q H' (bt : List Int), H' q = some (.lst (bt.map V.int)) → Wds bt → bt.length ≤ 4000 → Tape H' tp s → Chg tp H H' → Q (.ref q) H'
section
variable {P : Program} {w : World} {K : PySem.W.Frag} {mg : Str → Option Value} {base : Heap} {A_PARTS : Addr}
abbrev s_law_request : Stmt := topS 44
abbrev ns_law_request : List Str := ["tape", "path", "k", "kind"]
theorem sc_law_request : FnScope ns_law_request ["tape"] (defScope s_law_request) := ⟨rfl, rfl, rfl, by decide +kernel, rfl, by decide +kernel, by decide +kernel⟩

theorem ok_law_request {f : Addr} {fd : FuncData} (F : Fun K "_law_request" "_law_request" s_law_request f fd) (T : Txt K mg  w A_PARTS) (D_law_next : Dfn P w K mg base CX0 1 "_law_next" ["tape", "many"] spNext) : FnOk P w K mg base CX0 2 f fd ["tape"] spRequest := by
  refine F.ok sc_law_request (fun vs H Q E h => ?_) (fun cdv A outer s H vs Q E hr h => ?_)
  · obtain ⟨tp, s, rfl, _⟩ := h
    rfl
  · obtain ⟨tp, s0, rfl, tape, k⟩ := h
    refine ⟨_, (pss_cons (ps_set (i := 1) sc_law_request.nd rfl (Or.inl rfl) (pe_callTy (kTupOf K) (by rfl) T.b_tuple (by decide +kernel) (pa_cons (pe_lc (own := [("k", 2)]) (by rfl) sc_law_request.nd (pi_range1 (by rfl) T.b_range (pa_cons (pe_op op_add pe_int (pe_dcall D_law_next (hr.mono (by decide)) (by rfl) pass0 (pa_cons (pv 0) (pa_cons pe_int pa_nil)))) pa_nil)) (blkOk_by (N := ns_law_request) (sc := defScope s_law_request) (by decide +kernel)) (fun _ _ _ _ _ => (pg_name (i := 2) sc_law_request.nd rfl (Or.inl rfl))) (fun _ _ _ _ _ => pts_nil) (fun _ _ _ _ _ => (pe_op op_add pe_int (pe_dcall D_law_next (hr.mono (by decide)) (by rfl) pass0 (pa_cons (pv 0) (pa_cons pe_int pa_nil)))))) pa_nil)))
  (pss_cons (ps_set (i := 3) sc_law_request.nd rfl (Or.inl rfl) (pe_dcall D_law_next (hr.mono (by decide)) (by rfl) pass0 (pa_cons (pv 0) (pa_cons pe_int pa_nil))))
  (pss_cons (ps_if (pt_cmpR op_lt (pv 3) pe_int (nomark _)) (pss_one (ps_ret (pe_tup (pa_cons pe_str (pa_cons (pv 1) (pa_cons (pe_ix (kIxL K) (pe_lst (pa_cons pe_str (pa_cons pe_str pa_nil))) (pe_dcall D_law_next (hr.mono (by decide)) (by rfl) pass0 (pa_cons (pv 0) (pa_cons pe_int pa_nil))) (fun _ _ => rfl)) pa_nil)))))) pss_nil)
  (pss_cons (ps_if (pt_cmpR op_lt (pv 3) pe_int (nomark _)) (pss_one (ps_ret (pe_tup (pa_cons pe_str (pa_cons (pv 1) (pa_cons (pe_dcall D_law_next (hr.mono (by decide)) (by rfl) pass0 (pa_cons (pv 0) (pa_cons pe_int pa_nil))) (pa_cons (pe_callTy (kTupOf K) (by rfl) T.b_tuple (by decide +kernel) (pa_cons (pe_lc (own := [("k", 2)]) (by rfl) sc_law_request.nd (pi_range1 (by rfl) T.b_range (pa_cons (pe_op op_add pe_int (pe_dcall D_law_next (hr.mono (by decide)) (by rfl) pass0 (pa_cons (pv 0) (pa_cons pe_int pa_nil)))) pa_nil)) (blkOk_by (N := ns_law_request) (sc := defScope s_law_request) (by decide +kernel)) (fun _ _ _ _ _ => (pg_name (i := 2) sc_law_request.nd rfl (Or.inl rfl))) (fun _ _ _ _ _ => pts_nil) (fun _ _ _ _ _ => (pe_dcall D_law_next (hr.mono (by decide)) (by rfl) pass0 (pa_cons (pv 0) (pa_cons pe_int pa_nil))))) pa_nil)) pa_nil))))))) pss_nil)
  (pss_cons (ps_if (pt_cmpR op_eq (pv 3) pe_int (nomark _)) (pss_one (ps_ret (pe_tup (pa_cons pe_str (pa_cons (pv 1) (pa_cons (pe_dcall D_law_next (hr.mono (by decide)) (by rfl) pass0 (pa_cons (pv 0) (pa_cons pe_int pa_nil))) pa_nil)))))) pss_nil)
  (pss_one (ps_ret (pe_tup (pa_cons pe_str (pa_cons (pv 1) pa_nil)))))))))), ?_⟩
    refine ⟨_, rfl, tp, s0, 3, rfl, by decide, by decide, tape, fun m H2 m0 m3 tape2 ch2 => ?_⟩
    refine ⟨_, _, rfl, rfl, _, rfl, by omega, by omega, ?_⟩
    refine fun D hD => lc_it walk_range (fun i H' => Tape H' tp s0 ∧ Chg tp H2 H' ∧ ∃ p : List Int, p.length = i ∧ (∀ n ∈ p, 1 ≤ n ∧ n ≤ 3) ∧ H' D = some (.lst (p.map V.int))) ?_ ?_ ?_ ?_
    · exact ⟨tape2.same (Same.new hD), Same.chg (Same.new hD), [], rfl, fun n hn => (by cases hn), upd_same⟩
    · exact fun _ _ _ _ => trivial
    · rintro i x H' H'' hi ⟨t', c', p, pl, pn, hx⟩ ⟨rfl, rfl⟩
      have nD := tape2.at hD
      refine ⟨rfl, ?_⟩
      refine (show _ from ?_)
      refine ⟨_, rfl, tp, s0, 3, rfl, by decide, by decide, t', fun u H3 u0 u1 t3 c3 => ?_⟩
      refine ⟨_, _, rfl, rfl, ?_⟩
      have hx3 := c3 _ _ nD hx
      refine ⟨_, hx3, by rw [List.length_map, pl]; exact szt (by omega), ?_⟩
      have nDs : D ≠ s0 := tape2.at2 hD
      refine ⟨t3.upd nD nDs, (c'.trans c3).mut hD, p ++ [1 + u], by simp [pl], fun n hn => ?_, by rw [upd_same, List.map_append]; rfl⟩
      rcases List.mem_append.mp hn with z | z
      · exact pn n z
      · have : n = 1 + u := by simpa using z
        omega
    · rintro H' ⟨t', c', p, pl, pn, hx⟩
      refine ⟨_, _, rfl, .inl ⟨SqL.of hx, fun q hq => ?_⟩⟩
      have gp : goodP p := ⟨by omega, pn⟩
      have hp : PathV (upd H' q (.tup (p.map V.int))) (.ref q) p := ⟨q, rfl, upd_same⟩
      have tape1 : Tape (upd H' q (.tup (p.map V.int))) tp s0 := t'.same (Same.new hq)
      have c01 := ch2.trans (c'.trans (Same.chg (a := tp) (Same.new (o := .tup (p.map V.int)) hq)))
      generalize upd H' q (.tup (p.map V.int)) = H1 at hp tape1 c01
      clear hx t' c' ch2 tape2 hq
      refine ⟨_, rfl, tp, s0, 8, rfl, by decide, by decide, tape1, fun kd H2 k0 k8 tape2 ch2 => ?_⟩
      have hp2 := hp.ts (tape1.ts ch2)
      have c02 := c01.trans ch2
      clear c01 ch2 tape1 hp
      refine ⟨_, rfl, _, _, rfl, rfl, _, rfl, iteD (fun h3 => ?_) (fun h3 => ?_)⟩
      · refine ⟨_, rfl, szl rfl, fun l hl => ?_⟩
        have nl := tape2.at hl
        have t3 := tape2.same (Same.new (o := .lst [.str "dir", .str "file"]) hl)
        have s3 := Same.new (o := .lst [.str "dir", .str "file"]) hl
        have hl3 : (upd H2 l (.lst [.str "dir", .str "file"])) l = some (.lst [.str "dir", .str "file"]) := upd_same
        generalize upd H2 l (.lst [.str "dir", .str "file"]) = H3 at t3 s3 hl3
        refine ⟨_, rfl, tp, s0, 2, rfl, by decide, by decide, t3, fun u H4 u0 u1 t4 c4 => ?_⟩
        have hp4 := (hp2.same s3).ts (t3.ts c4)
        have hl4 := c4 _ _ nl hl3
        obtain ⟨b, hb⟩ : ∃ b, atI [V.str "dir", V.str "file"] u = some (.str (kindS b)) := by
          have : u = 0 ∨ u = 1 := by omega
          rcases this with rfl | rfl
          · exact ⟨false, rfl⟩
          · exact ⟨true, rfl⟩
        refine ⟨l, _, _, _, rfl, rfl, SqL.of hl4, hb, szl rfl, fun q hq => ?_⟩
        refine k _ (p, .make b) _ (.tup upd_same (.cons (.str _) (.cons ((dt_path hp4).same (Same.new hq)) (.cons (.str _) .nil)))) ⟨gp, trivial⟩ (t4.same (Same.new hq)) ?_
        exact (c02.trans (Same.chg s3)).trans (c4.trans (Same.chg (Same.new hq)))
      · refine ⟨_, rfl, _, _, rfl, rfl, _, rfl, iteD (fun h6 => ?_) (fun h6 => ?_)⟩
        · refine ⟨_, rfl, _, rfl, tp, s0, 6, rfl, by decide, by decide, tape2, fun off H3 off0 off1 t3 c3 => ?_⟩
          obtain ⟨o, rfl⟩ := Int.eq_ofNat_of_zero_le off0
          refine ⟨_, rfl, tp, s0, 9, rfl, by decide, by decide, t3, fun m H4 m0 m9 t4 c4 => ?_⟩
          have hp4 := (hp2.ts (tape2.ts c3)).ts (t3.ts c4)
          have c04 := (c02.trans c3).trans c4
          refine ⟨_, _, rfl, rfl, _, rfl, by omega, by omega, ?_⟩
          refine fun D hD => lc_it walk_range (fun i H' => Tape H' tp s0 ∧ Chg tp H4 H' ∧ PathV H' (.ref q) p ∧ ∃ ws : List Int, ws.length = i ∧ (∀ n ∈ ws, 0 ≤ n ∧ n ≤ 8) ∧ H' D = some (.lst (ws.map V.int))) ?_ ?_ ?_ ?_
          · exact ⟨t4.same (Same.new hD), Same.chg (Same.new hD), hp4.same (Same.new hD), [], rfl, fun n hn => (by cases hn), upd_same⟩
          · exact fun _ _ _ _ => trivial
          · rintro i x H' H'' hi ⟨t', c', hp', ws, pl, pn, hx⟩ ⟨rfl, rfl⟩
            have nD := t4.at hD
            refine ⟨rfl, ?_⟩
            refine (show _ from ?_)
            refine ⟨_, rfl, tp, s0, 9, rfl, by decide, by decide, t', fun u H5 u0 u1 t5 c5 => ?_⟩
            have hx5 := c5 _ _ nD hx
            refine ⟨_, hx5, by rw [List.length_map, pl]; exact szt (by omega), ?_⟩
            have nDs : D ≠ s0 := t4.at2 hD
            refine ⟨t5.upd nD nDs, (c'.trans c5).mut hD, (hp'.ts (t'.ts c5)).ts (fun b ys e => by rw [upd_ne (ne_of e hx5 (by intro z; cases z))]; exact e), ws ++ [u], by simp [pl], fun n hn => ?_, by rw [upd_same, List.map_append]; rfl⟩
            rcases List.mem_append.mp hn with z | z
            · exact pn n z
            · have : n = u := by simpa using z
              omega
          · rintro H' ⟨t', c', hp', ws, pl, pn, hx⟩
            refine ⟨_, _, rfl, .inl ⟨SqL.of hx, fun x hx1 => ?_⟩⟩
            have sx := Same.new (o := .tup (ws.map V.int)) hx1
            have hxx : (upd H' x (.tup (ws.map V.int))) x = some (.tup (ws.map V.int)) := upd_same
            generalize upd H' x (.tup (ws.map V.int)) = HB at sx hxx
            refine ⟨szl rfl, fun q hq => ?_⟩
            refine k _ (p, .put o ws) _ (.tup upd_same (.cons (.str _) (.cons ((dt_path (hp'.same sx)).same (Same.new hq)) (.cons (.int _) (.cons ((dt_path ⟨x, rfl, hxx⟩).same (Same.new hq)) .nil))))) ⟨gp, ?_⟩ ((t'.same sx).same (Same.new hq)) ((c04.trans (c'.trans (Same.chg sx))).trans (Same.chg (Same.new hq)))
            exact ⟨by omega, by omega, by omega, pn⟩
        · refine ⟨_, rfl, rfl, _, rfl, iteD (fun h7 => ?_) (fun h7 => ?_)⟩
          · refine ⟨_, rfl, _, rfl, tp, s0, 9, rfl, by decide, by decide, tape2, fun w1 H7 w10 w11 t7 c7 => ?_⟩
            refine ⟨szl rfl, fun q hq => ?_⟩
            obtain ⟨a, rfl⟩ := Int.eq_ofNat_of_zero_le w10
            exact k _ (p, .shrink a) _ (.tup upd_same (.cons (.str _) (.cons ((dt_path (hp2.ts (tape2.ts c7))).same (Same.new hq)) (.cons (.int _) .nil)))) ⟨gp, by show a ≤ 8; omega⟩ (t7.same (Same.new hq)) ((c02.trans c7).trans (Same.chg (Same.new hq)))
          · refine ⟨_, rfl, szl rfl, fun q hq => ?_⟩
            exact k _ (p, .drop) _ (.tup upd_same (.cons (.str _) (.cons ((dt_path hp2).same (Same.new hq)) .nil))) ⟨gp, trivial⟩ (tape2.same (Same.new hq)) (c02.trans (Same.chg (Same.new hq)))
abbrev s_law_bent : Stmt := topS 49
abbrev ns_law_bent : List Str := ["tape", "stream", "k", "place", "word"]
theorem sc_law_bent : FnScope ns_law_bent ["tape", "stream"] (defScope s_law_bent) := ⟨rfl, rfl, rfl, by decide +kernel, rfl, by decide +kernel, by decide +kernel⟩

theorem ok_law_bent {f : Addr} {fd : FuncData} (F : Fun K "_law_bent" "_law_bent" s_law_bent f fd) (T : Txt K mg  w A_PARTS) (D_law_next : Dfn P w K mg base CX0 1 "_law_next" ["tape", "many"] spNext) : FnOk P w K mg base CX0 2 f fd ["tape", "stream"] spBent := by
  refine F.ok sc_law_bent (fun vs H Q E h => ?_) (fun cdv A outer s H vs Q E hr h => ?_)
  · obtain ⟨tp, s, a, st, rfl, _⟩ := h
    rfl
  · obtain ⟨tp, s0, a, st, rfl, tape, ha, wd, sl, nat, k⟩ := h
    refine ⟨_, (pss_cons (ps_if (PW.pt (pw_or (pt_cmpR (kEqD K hr.units) (pv 1) (pe_lst pa_nil) (nomark _)) (pw_or1 (pt_cmpR op_eq (pe_dcall D_law_next (hr.mono (by decide)) (by rfl) pass0 (pa_cons (pv 0) (pa_cons pe_int pa_nil))) pe_int (nomark _))))) (pss_one (ps_ret (pe_lc (own := [("k", 2)]) (by rfl) sc_law_bent.nd (pi_range1 (by rfl) T.b_range (pa_cons (pe_dcall D_law_next (hr.mono (by decide)) (by rfl) pass0 (pa_cons (pv 0) (pa_cons pe_int pa_nil))) pa_nil)) (blkOk_by (N := ns_law_bent) (sc := defScope s_law_bent) (by decide +kernel)) (fun _ _ _ _ _ => (pg_name (i := 2) sc_law_bent.nd rfl (Or.inl rfl))) (fun _ _ _ _ _ => pts_nil) (fun _ _ _ _ _ => (pe_ix (kIxL K) (pe_lst (pa_cons pe_int (pa_cons pe_int (pa_cons pe_int (pa_cons pe_int (pa_cons pe_int (pa_cons pe_int (pa_cons pe_int (pa_cons pe_int (pa_cons (pe_op op_sub (pe_op op_pow pe_int pe_int) pe_int) pa_nil)))))))))) (pe_dcall D_law_next (hr.mono (by decide)) (by rfl) pass0 (pa_cons (pv 0) (pa_cons pe_int pa_nil))) (fun _ _ => rfl)))))) pss_nil)
  (pss_cons (ps_set (i := 3) sc_law_bent.nd rfl (Or.inl rfl) (pe_dcall D_law_next (hr.mono (by decide)) (by rfl) pass0 (pa_cons (pv 0) (pa_cons (pe_callB (kLen K) (by rfl) T.b_len (by decide +kernel) (pa_cons (pv 1) pa_nil)) pa_nil))))
  (pss_cons (ps_set (i := 4) sc_law_bent.nd rfl (Or.inl rfl) (pe_ix (kIxL K) (pe_lst (pa_cons pe_int (pa_cons pe_int (pa_cons pe_int (pa_cons pe_int (pa_cons pe_int (pa_cons (pe_op op_sub (pe_op op_pow pe_int pe_int) pe_int) pa_nil))))))) (pe_dcall D_law_next (hr.mono (by decide)) (by rfl) pass0 (pa_cons (pv 0) (pa_cons pe_int pa_nil))) (fun _ _ => rfl)))
  (pss_one (ps_ret (pe_op op_cat (pe_op op_cat (pe_slice (kSlL K) (pv 1) po_none (po_some (pv 3))) (pe_ix (kIxL K) (pe_lst (pa_cons (pe_lst (pa_cons (pv 4) pa_nil)) (pa_cons (pe_lst pa_nil) (pa_cons (pe_lst (pa_cons (pv 4) (pa_cons (pe_ix (kIxL K) (pv 1) (pv 3) (fun _ _ => rfl)) pa_nil))) pa_nil)))) (pe_dcall D_law_next (hr.mono (by decide)) (by rfl) pass0 (pa_cons (pv 0) (pa_cons pe_int pa_nil))) (fun _ _ => rfl))) (pe_slice (kSlL K) (pv 1) (po_some (pe_op op_add (pv 3) pe_int)) po_none))))))), ?_⟩
    refine ⟨_, rfl, szl rfl, fun l hl => ?_⟩
    have dI : Dt (upd H l (.lst [])) (.ref a) (.list (st.map PyData.int)) := .lst (Same.new hl _ _ ha) (dt_ints _)
    have dE : Dt (upd H l (.lst [])) (.ref l) (.list []) := .lst upd_same .nil
    have t1 := tape.same (Same.new (o := .lst []) hl)
    have c1 : Chg tp H (upd H l (.lst [])) := Same.chg (Same.new hl)
    generalize upd H l (.lst []) = H1 at dI dE t1 c1
    refine ⟨_, _, dI.dp, dE.dp, shaped_ints _, rfl, _, rfl, ?_⟩
    cases e : PyData.eqv (.list (st.map PyData.int)) (.list []) with
    | true =>
      refine iteT (iteT ?_)
      refine ⟨_, rfl, tp, s0, 14, rfl, by decide, by decide, t1, fun m H2 m0 m3 t2 c2 => ?_⟩
      refine ⟨_, rfl, by omega, by omega, ?_⟩
      refine fun D hD => lc_it walk_range (fun i H' => Tape H' tp s0 ∧ Chg tp H2 H' ∧ ∃ bt : List Int, bt.length = i ∧ Wds bt ∧ H' D = some (.lst (bt.map V.int))) ?_ ?_ ?_ ?_
      · exact ⟨t2.same (Same.new hD), Same.chg (Same.new hD), [], rfl, fun n hn => (by cases hn), upd_same⟩
      · exact fun _ _ _ _ => trivial
      · rintro i x H' H'' hi ⟨t', c', bt, pl, pn, hx⟩ ⟨rfl, rfl⟩
        have nD := t2.at hD
        refine ⟨rfl, ?_⟩
        refine (show _ from ?_)
        refine ⟨_, _, rfl, rfl, ⟨by decide, by decide, by decide⟩, _, _, rfl, rfl, szl rfl, fun l2 hl2 => ?_⟩
        have nl2 := t'.at hl2
        have t3 := t'.same (Same.new hl2 (o := .lst lit9))
        have s3 := Same.new (o := .lst lit9) hl2
        have hl3 : (upd H'' l2 (.lst lit9)) l2 = some (.lst lit9) := upd_same
        refine ⟨_, rfl, tp, s0, 9, rfl, by decide, by decide, t3, fun u H4 u0 u1 t4 c4 => ?_⟩
        obtain ⟨x, hx9, wx⟩ := lit9_at u0 u1
        refine ⟨l2, _, _, _, rfl, rfl, SqL.of (c4 _ _ nl2 hl3), hx9, ?_⟩
        have hx4 := c4 _ _ nD (s3 _ _ hx)
        have nDs : D ≠ s0 := t2.at2 hD
        refine ⟨_, hx4, by rw [List.length_map, pl]; exact szt (by omega), t4.upd nD nDs, (c'.trans ((Same.chg s3).trans c4)).mut hD, bt ++ [x], by simp [pl], fun n hn => ?_, by rw [upd_same, List.map_append]; rfl⟩
        rcases List.mem_append.mp hn with z | z
        · exact pn n z
        · have : n = x := by simpa using z
          rw [this]; exact wx
      · rintro H' ⟨t', c', bt, pl, pn, hx⟩
        exact k D H' bt hx pn (by omega) t' ((c1.trans c2).trans c')
    | false =>
      have st1 : 1 ≤ st.length := by
        cases st with
        | nil => exact absurd ((PySem.SeqAt.eqv_refl _ (SeqAt.canLay_of_shaped rfl)).symm.trans e) (by decide)
        | cons x r => simp
      have ha1 := c1 _ _ nat ha
      have c01 := c1
      clear dI dE hl
      refine iteF ⟨_, rfl, tp, s0, 2, rfl, by decide, by decide, t1, fun u H1' u0 u1 t1' c1' => ?_⟩
      have c1 := c01.trans c1'
      have t1 := t1'
      refine ⟨rfl, _, rfl, iteD (fun hu => ?_) (fun hu => ?_)⟩
      · refine ⟨_, rfl, tp, s0, 14, rfl, by decide, by decide, t1, fun m H2 m0 m3 t2 c2 => ?_⟩
        refine ⟨_, rfl, by omega, by omega, ?_⟩
        refine fun D hD => lc_it walk_range (fun i H' => Tape H' tp s0 ∧ Chg tp H2 H' ∧ ∃ bt : List Int, bt.length = i ∧ Wds bt ∧ H' D = some (.lst (bt.map V.int))) ?_ ?_ ?_ ?_
        · exact ⟨t2.same (Same.new hD), Same.chg (Same.new hD), [], rfl, fun n hn => (by cases hn), upd_same⟩
        · exact fun _ _ _ _ => trivial
        · rintro i x H' H'' hi ⟨t', c', bt, pl, pn, hx⟩ ⟨rfl, rfl⟩
          have nD := t2.at hD
          refine ⟨rfl, ?_⟩
          refine (show _ from ?_)
          refine ⟨_, _, rfl, rfl, ⟨by decide, by decide, by decide⟩, _, _, rfl, rfl, szl rfl, fun l2 hl2 => ?_⟩
          have nl2 := t'.at hl2
          have t3 := t'.same (Same.new hl2 (o := .lst lit9))
          have s3 := Same.new (o := .lst lit9) hl2
          have hl3 : (upd H'' l2 (.lst lit9)) l2 = some (.lst lit9) := upd_same
          refine ⟨_, rfl, tp, s0, 9, rfl, by decide, by decide, t3, fun u H4 u0 u1 t4 c4 => ?_⟩
          obtain ⟨x, hx9, wx⟩ := lit9_at u0 u1
          refine ⟨l2, _, _, _, rfl, rfl, SqL.of (c4 _ _ nl2 hl3), hx9, ?_⟩
          have hx4 := c4 _ _ nD (s3 _ _ hx)
          have nDs : D ≠ s0 := t2.at2 hD
          refine ⟨_, hx4, by rw [List.length_map, pl]; exact szt (by omega), t4.upd nD nDs, (c'.trans ((Same.chg s3).trans c4)).mut hD, bt ++ [x], by simp [pl], fun n hn => ?_, by rw [upd_same, List.map_append]; rfl⟩
          rcases List.mem_append.mp hn with z | z
          · exact pn n z
          · have : n = x := by simpa using z
            rw [this]; exact wx
        · rintro H' ⟨t', c', bt, pl, pn, hx⟩
          exact k D H' bt hx pn (by omega) t' ((c1.trans c2).trans c')
      · have ha1 := c1 _ _ nat ha
        refine ⟨_, rfl, _, rfl, _, _, rfl, .inl (SqL.of ha1), tp, s0, _, rfl, by rw [List.length_map]; omega, by rw [List.length_map]; omega, t1, fun pl H2 p0 p1 t2 c2 => ?_⟩
        rw [List.length_map] at p1
        have c02 := c1.trans c2
        obtain ⟨pn, rfl⟩ := Int.eq_ofNat_of_zero_le p0
        have hpn : pn < st.length := by omega
        refine ⟨_, _, rfl, rfl, ⟨by decide, by decide, by decide⟩, _, _, rfl, rfl, szl rfl, fun l2 hl2 => ?_⟩
        have nl2 := t2.at hl2
        have t3 := t2.same (Same.new hl2 (o := .lst lit6))
        have s3 := Same.new (o := .lst lit6) hl2
        have hl3 : (upd H2 l2 (.lst lit6)) l2 = some (.lst lit6) := upd_same
        refine ⟨_, rfl, tp, s0, 6, rfl, by decide, by decide, t3, fun u3 H4 u30 u31 t4 c4 => ?_⟩
        obtain ⟨x, hx6, wx⟩ := lit6_at u30 u31
        refine ⟨l2, _, _, _, rfl, rfl, SqL.of (c4 _ _ nl2 hl3), hx6, ?_⟩
        have c04 := c02.trans ((Same.chg s3).trans c4)
        have ha4 := c04 _ _ nat ha
        clear hl3 s3 t3 nl2 hl2 c4 t2 c2 hx6
        refine ⟨_, rfl, _, rfl, _, rfl, a, _, rfl, SqL.of ha4, fun e1 he1 => ?_⟩
        have ec : cutV (st.map V.int) none (some (pn : Int)) = (st.take pn).map V.int := by
          have := cut_int st 0 pn
          rw [List.drop_zero] at this
          rw [← this]
          show _ = cutV _ (some ((0 : Nat) : Int)) (some (((0 : Nat) : Int) + (pn : Int)))
          rw [show ((0 : Nat) : Int) + (pn : Int) = (pn : Int) by omega]; rfl
        rw [ec]
        have s5 := Same.new (o := .lst ((st.take pn).map V.int)) he1
        have h5 : (upd H4 e1 (.lst ((st.take pn).map V.int))) e1 = some (.lst ((st.take pn).map V.int)) := upd_same
        have n5 := t4.at he1
        generalize upd H4 e1 (.lst ((st.take pn).map V.int)) = H5 at s5 h5
        have hy : ∃ y, st[pn]? = some y ∧ Wd y := ⟨st[pn], List.getElem?_eq_getElem hpn, wd _ (List.getElem_mem hpn)⟩
        obtain ⟨y, hy, wy⟩ := hy
        refine ⟨_, rfl, szl rfl, fun i1 hi1 => ?_⟩
        have s6 := Same.new (o := .lst [.int x]) hi1
        have h6 : (upd H5 i1 (.lst [.int x])) i1 = some (.lst [.int x]) := upd_same
        have n6 := (t4.same s5).at hi1
        generalize upd H5 i1 (.lst [.int x]) = H6 at s6 h6
        refine ⟨szl rfl, fun i2 hi2 => ?_⟩
        have s7 := Same.new (o := .lst []) hi2
        have h7 : (upd H6 i2 (.lst [])) i2 = some (.lst []) := upd_same
        have n7 := ((t4.same s5).same s6).at hi2
        generalize upd H6 i2 (.lst []) = H7 at s7 h7
        have s57 := (s5.trans s6).trans s7
        refine ⟨_, rfl, _, rfl, _, rfl, _, _, _, _, rfl, rfl, SqL.of (s57 _ _ ha4), atC pn rfl (at_int hy), szl rfl, fun i3 hi3 => ?_⟩
        have s8 := Same.new (o := .lst [.int x, .int y]) hi3
        have h8 : (upd H7 i3 (.lst [.int x, .int y])) i3 = some (.lst [.int x, .int y]) := upd_same
        have n8 := (t4.same s57).at hi3
        generalize upd H7 i3 (.lst [.int x, .int y]) = H8 at s8 h8
        refine ⟨szl rfl, fun l3 hl3 => ?_⟩
        have s58 := s57.trans s8
        have n9 := (t4.same s58).at hl3
        have s9 := Same.new (o := .lst [.ref i1, .ref i2, .ref i3]) hl3
        have h9 : (upd H8 l3 (.lst [.ref i1, .ref i2, .ref i3])) l3 = some (.lst [.ref i1, .ref i2, .ref i3]) := upd_same
        generalize upd H8 l3 (.lst [.ref i1, .ref i2, .ref i3]) = H9 at s9 h9
        have s59 := s58.trans s9
        refine ⟨_, rfl, tp, s0, 3, rfl, by decide, by decide, t4.same s59, fun u5 HA u50 u53 tA cA => ?_⟩
        obtain ⟨im, ms, him, hms, wms, lms⟩ : ∃ (im : Addr) (ms : List Int), atI [V.ref i1, V.ref i2, V.ref i3] u5 = some (.ref im) ∧ HA im = some (.lst (ms.map V.int)) ∧ Wds ms ∧ ms.length ≤ 2 := by
          have : u5 = 0 ∨ u5 = 1 ∨ u5 = 2 := by omega
          rcases this with rfl | rfl | rfl
          · exact ⟨i1, [x], rfl, cA _ _ n6 (s9 _ _ (s8 _ _ (s7 _ _ h6))), (fun z hz => (by rw [List.mem_singleton.mp hz]; exact wx)), by simp⟩
          · exact ⟨i2, [], rfl, cA _ _ n7 (s9 _ _ (s8 _ _ h7)), (fun z hz => (by cases hz)), by simp⟩
          · exact ⟨i3, [x, y], rfl, cA _ _ n8 (s9 _ _ h8), (fun z hz => (List.mem_cons.mp hz).elim (fun e => e ▸ wx) fun e => (List.mem_singleton.mp e) ▸ wy), by simp⟩
        refine ⟨l3, _, _, _, rfl, rfl, SqL.of (cA _ _ n9 h9), him, ?_⟩
        refine ⟨e1, im, _, _, rfl, rfl, cA _ _ n5 (s9 _ _ (s8 _ _ (s7 _ _ (s6 _ _ h5)))), hms, szn (by rw [List.length_map, List.length_map, List.length_take]; omega), fun q1 hq1 => ?_⟩
        rw [← List.map_append]
        have s10 := Same.new (o := .lst ((st.take pn ++ ms).map V.int)) hq1
        have h10 : (upd HA q1 (.lst ((st.take pn ++ ms).map V.int))) q1 = some (.lst ((st.take pn ++ ms).map V.int)) := upd_same
        have t10 := tA.same s10
        have c10 := (c04.trans (Same.chg s59)).trans (cA.trans (Same.chg s10))
        generalize upd HA q1 (.lst ((st.take pn ++ ms).map V.int)) = HB at s10 h10 t10 c10
        have haB := c10 _ _ nat ha
        refine ⟨_, rfl, _, rfl, _, _, rfl, rfl, _, rfl, a, _, rfl, SqL.of haB, fun e2 he2 => ?_⟩
        have ec2 : cutV (st.map V.int) (some ((pn : Int) + 1)) none = (st.drop (pn + 1)).map V.int := cut_from st (pn + 1)
        rw [ec2]
        have s11 := Same.new (o := .lst ((st.drop (pn + 1)).map V.int)) he2
        refine ⟨q1, e2, _, _, rfl, rfl, s11 _ _ h10, upd_same, szn (by rw [List.length_map, List.length_map, List.length_append, List.length_take, List.length_drop]; omega), fun q hq => ?_⟩
        rw [← List.map_append]
        have s12 := s11.trans (Same.new (o := .lst ((st.take pn ++ ms ++ st.drop (pn + 1)).map V.int)) hq)
        refine k q _ _ upd_same (((wd.sub fun z hz => List.mem_of_mem_take hz).app wms).app (wd.sub fun z hz => List.mem_of_mem_drop hz)) (by rw [List.length_append, List.length_append, List.length_take, List.length_drop]; omega) (t10.same s12) (c10.trans (Same.chg s12))
end
end My

namespace My
open PySem L2
local macro_rules | `(tactic| walk_at "ne") => `(tactic| first | assumption | exact Ne.symm (by assumption) | exact ne_of_none (by assumption) (by assumption) | exact Ne.symm (ne_of_none (by assumption) (by assumption)))
local macro_rules | `(tactic| walk_at "hp") => `(tactic| first | assumption | with_reducible exact upd_same | (with_reducible refine Eq.trans (upd_ne ?_) ?_; rotate_left; walk_at "hp"; walk_at "ne"))
local macro_rules | `(tactic| walk_at "cnd") => `(tactic| first | omega | (show (0 : Int) < _; omega) | exact ⟨by omega, by omega⟩ | exact Or.inl ⟨by omega, by omega⟩ | exact Or.inr ⟨by omega, by omega⟩ | exact ⟨by omega, by omega, by decide⟩ | exact ⟨by omega, by omega, by omega⟩)
local macro_rules | `(tactic| walk_at "at") => `(tactic| first | exact atC 0 rfl rfl | exact atC 1 rfl rfl | exact atC 2 rfl rfl | exact atC 3 rfl rfl | exact atC 4 rfl rfl | exact atC 5 rfl rfl | exact atC 6 rfl rfl | exact atC 7 rfl rfl)
local macro_rules | `(tactic| walk_at "ix") => `(tactic| first | exact ixC 0 rfl (Nat.le_of_ble_eq_true rfl) | exact ixC 1 rfl (Nat.le_of_ble_eq_true rfl) | exact ixC 2 rfl (Nat.le_of_ble_eq_true rfl) | exact ixC 3 rfl (Nat.le_of_ble_eq_true rfl) | exact ixC 4 rfl (Nat.le_of_ble_eq_true rfl) | exact ixC 5 rfl (Nat.le_of_ble_eq_true rfl))
local macro_rules | `(tactic| walk_at "st") => `(tactic| first
  | refine ⟨_, rfl, ?_⟩
  | refine ⟨_, _, rfl, rfl, (by walk_at "cnd" : (_ : Prop)), ?_⟩
  | refine ⟨_, _, rfl, rfl, ?_⟩
  | refine ⟨rfl, ?_⟩
  | refine Or.inl ⟨_, rfl, ?_⟩
  | refine ⟨_, _, _, _, rfl, rfl, by exact SqL.of (by walk_at "hp"), by walk_at "at", ?_⟩
  | refine ⟨_, _, _, _, rfl, rfl, by exact SqT.of (by walk_at "hp"), by walk_at "at", ?_⟩
  | refine ⟨_, _, _, _, rfl, rfl, by walk_at "hp", by walk_at "ix", ?_⟩
  | refine ⟨_, _, rfl, Or.inl (by exact SqL.of (by walk_at "hp")), ?_⟩
  | refine ⟨_, _, rfl, Or.inr (by exact SqT.of (by walk_at "hp")), ?_⟩)
local macro_rules | `(tactic| walk_at "so") => `(tactic| first
  | refine ⟨_, _, _, _, _, rfl, by walk_at "hp", by assumption, by assumption, rfl, ?_⟩
  | refine ⟨_, _, _, _, rfl, by walk_at "hp", by assumption, by assumption, Nat.le_of_ble_eq_true rfl, ?_⟩
  | refine ⟨_, _, _, rfl, by walk_at "hp", rfl, ?_⟩
  | walk_at "st")
local macro_rules | `(tactic| walk_at "ro") => `(tactic| repeat walk_at "so")
local macro_rules | `(tactic| walk_at "run") => `(tactic| repeat walk_at "st")

/-! ### what a tree holds, its names' order aside -/
def ctP : Part → Option (List Int)
  | .dir _ => none
  | .file ws => some ws
def ct (F : Fm) (p : List Int) : Option (Option (List Int)) := (F p).map ctP
theorem ct_some {F : Fm} {p : List Int} : (ct F p).isSome = (F p).isSome := by unfold ct; cases F p <;> rfl
theorem ct_dir {F : Fm} {p : List Int} : ct F p = some none ↔ ∃ ns, F p = some (.dir ns) := by
  unfold ct
  cases e : F p with
  | none => exact ⟨fun h => (by cases h), fun ⟨_, h⟩ => (by cases h)⟩
  | some x =>
    cases x with
    | dir ns => exact ⟨fun _ => ⟨ns, rfl⟩, fun _ => rfl⟩
    | file ws => exact ⟨fun h => (by cases h), fun ⟨_, h⟩ => (by cases h)⟩
theorem ct_file {F : Fm} {p ws : List Int} : ct F p = some (some ws) ↔ F p = some (.file ws) := by
  unfold ct
  cases e : F p with
  | none => exact ⟨fun h => (by cases h), fun h => (by cases h)⟩
  | some x =>
    cases x with
    | dir ns => exact ⟨fun h => (by cases h), fun h => (by cases h)⟩
    | file ws => exact ⟨fun h => (by cases h; rfl), fun h => (by cases h; rfl)⟩
theorem ct_none {F : Fm} {p : List Int} : ct F p = none ↔ F p = none := by
  unfold ct
  cases F p <;> simp
theorem ct_add {F : Fm} {d ns : List Int} {n : Int} {x : Part} (e : F d = some (.dir ns)) (p : List Int) : ct (addF F d n x) p = if p = d ++ [n] then some (ctP x) else ct F p := by
  unfold ct addF
  by_cases h : p = d ++ [n]
  · rw [if_pos h, if_pos h]; rfl
  · rw [if_neg h, if_neg h]
    by_cases h2 : p = d
    · rw [if_pos h2, e, h2, e]; rfl
    · rw [if_neg h2]
theorem ct_set {F : Fm} {q ws : List Int} (p : List Int) : ct (setF F q ws) p = if p = q then some (some ws) else ct F p := by
  unfold ct setF
  by_cases h : p = q
  · rw [if_pos h, if_pos h]; rfl
  · rw [if_neg h, if_neg h]
theorem ct_F0 (p : List Int) : ct F0 p = if p = [] then some none else none := by
  unfold ct F0
  by_cases h : p = []
  · rw [if_pos h, if_pos h]; rfl
  · rw [if_neg h, if_neg h]; rfl
/-! ### what a step does -/
theorem due_cases {F : Fm} {p : List Int} {r : Rq} : (due F p r).2 = F ∨ (p ≠ [] ∧ (∃ ns, F p.dropLast = some (.dir ns)) ∧ ∃ b : Bool, (due F p r).2 = addF F p.dropLast (p.getLastD 0) (if b = true then .file [] else .dir [])) ∨ (p ≠ [] ∧ (due F p r).2 = delF F p.dropLast (p.getLastD 0)) ∨ ∃ ws vs, F p = some (.file ws) ∧ (due F p r).2 = setF F p vs ∧ ((∃ a, vs = ws.take a) ∨ ∃ off new, r = .put off new ∧ vs = putW ws off new) := by
  have file : ∀ r : Rq, (dueFile F p (fileG F p r)).2 = F ∨ ∃ ws vs, F p = some (.file ws) ∧ (dueFile F p (fileG F p r)).2 = setF F p vs ∧ ((∃ a, vs = ws.take a) ∨ ∃ off new, r = .put off new ∧ vs = putW ws off new) := fun r => by
    cases e : F p with
    | none => exact .inl (by rw [dueFile_none e])
    | some x =>
      cases x with
      | dir ns => exact .inl (by rw [dueFile_dir e])
      | file ws =>
        rw [dueFile_file e]
        cases r with
        | shrink a => exact .inr ⟨ws, ws.take a, rfl, rfl, .inl ⟨a, rfl⟩⟩
        | put off new =>
          by_cases c : 48 < off + new.length
          · exact .inl (by rw [show fileG F p (.put off new) ws = (noD "long", F) from if_pos c])
          · exact .inr ⟨ws, putW ws off new, rfl, by rw [show fileG F p (.put off new) ws = (okD, setF F p (putW ws off new)) from if_neg c], .inr ⟨off, new, rfl, rfl⟩⟩
        | _ => exact .inl rfl
  have lift : ∀ r : Rq, due F p r = dueFile F p (fileG F p r) → ((due F p r).2 = F ∨ (p ≠ [] ∧ (∃ ns, F p.dropLast = some (.dir ns)) ∧ ∃ b : Bool, (due F p r).2 = addF F p.dropLast (p.getLastD 0) (if b = true then .file [] else .dir [])) ∨ (p ≠ [] ∧ (due F p r).2 = delF F p.dropLast (p.getLastD 0)) ∨ ∃ ws vs, F p = some (.file ws) ∧ (due F p r).2 = setF F p vs ∧ ((∃ a, vs = ws.take a) ∨ ∃ off new, r = .put off new ∧ vs = putW ws off new)) := fun r e => by
    rw [e]
    rcases file r with h | h
    · exact .inl h
    · exact .inr (.inr (.inr h))
  cases r with
  | make b =>
    show (dueMake F p b).2 = F ∨ (p ≠ [] ∧ (∃ ns, F p.dropLast = some (.dir ns)) ∧ ∃ b' : Bool, (dueMake F p b).2 = addF F p.dropLast (p.getLastD 0) (if b' = true then .file [] else .dir [])) ∨ _
    by_cases hpe : p = []
    · subst hpe; rw [dueMake_nil]; exact .inl rfl
    · cases e : F p.dropLast with
      | none => rw [dueMake_none hpe e]; exact .inl rfl
      | some x =>
        cases x with
        | file ws => rw [dueMake_file hpe e]; exact .inl rfl
        | dir ns =>
          by_cases hF : (F p).isSome = true
          · rw [dueMake_there hpe e hF]; exact .inl rfl
          · rw [dueMake_new hpe e hF]; exact .inr (.inl ⟨hpe, ⟨ns, rfl⟩, b, rfl⟩)
  | drop =>
    show (dueDrop F p).2 = F ∨ _ ∨ (p ≠ [] ∧ (dueDrop F p).2 = delF F p.dropLast (p.getLastD 0)) ∨ _
    by_cases hpe : p = []
    · subst hpe; rw [dueDrop_nil]; exact .inl rfl
    · cases e : F p with
      | none => rw [dueDrop_none hpe e]; exact .inl rfl
      | some x =>
        cases x with
        | file ws => rw [dueDrop_file hpe e]; exact .inr (.inr (.inl ⟨hpe, rfl⟩))
        | dir ns =>
          cases ns with
          | nil => rw [dueDrop_dir hpe e]; exact .inr (.inr (.inl ⟨hpe, rfl⟩))
          | cons n ns => rw [dueDrop_full hpe e]; exact .inl rfl
  | list =>
    refine .inl ?_
    show (dueList F p).2 = F
    cases e : F p with
    | none => rw [dueList_none e]
    | some x =>
      cases x with
      | file ws => rw [dueList_file e]
      | dir ns => rw [dueList_dir e]
  | put _ _ => exact lift _ rfl
  | get _ _ => exact lift _ rfl
  | shrink _ => exact lift _ rfl
  | size => exact lift _ rfl
theorem putW_mem {ws new : List Int} {off : Nat} {x : Int} (h : x ∈ putW ws off new) : x ∈ ws ∨ x = 0 ∨ x ∈ new := by
  unfold putW at h
  have z : x ∈ ws ++ List.replicate (off - ws.length) 0 → x ∈ ws ∨ x = 0 ∨ x ∈ new := fun h => by
    rcases List.mem_append.mp h with h | h
    · exact .inl h
    · exact .inr (.inl (List.eq_of_mem_replicate h))
  rcases List.mem_append.mp h with h | h
  · rcases List.mem_append.mp h with h | h
    · exact z (List.mem_of_mem_take h)
    · exact .inr (.inr h)
  · exact z (List.mem_of_mem_drop h)
structure Nice (ds : List Deed) (F : Fm) : Prop where
  run : runD F0 ds = some F
  good : ∀ d ∈ ds, goodDd d
  nodes : ∀ p, (F p).isSome = true → p = [] ∨ ∃ d ∈ ds, d.1 = p
  wds : ∀ p ws, F p = some (.file ws) → Wds ws
  cap : Cap ds.length F
theorem Nice.start : Nice [] F0 := ⟨rfl, fun d hd => (by cases hd), fun p h => .inl (by
    unfold F0 at h
    by_cases z : p = []
    · exact z
    · rw [if_neg z] at h; cases h), fun p ws h => (by
    unfold F0 at h
    by_cases z : p = []
    · rw [if_pos z] at h; cases h
    · rw [if_neg z] at h; cases h), fun p ns e => by
    unfold F0 at e
    by_cases z : p = []
    · rw [if_pos z] at e; cases e; exact Nat.zero_le _
    · rw [if_neg z] at e; cases e⟩
theorem Nice.step {ds : List Deed} {F : Fm} {d : Deed} (h : Nice ds F) (g : goodDd d) (ok : isOkD (due F d.1 d.2).1 = true) : Nice (ds ++ [d]) (due F d.1 d.2).2 := by
  obtain ⟨p, r⟩ := d
  refine ⟨by rw [runD_snoc h.run, if_pos ok], fun e he => ?_, fun q hq => ?_, fun q ws e => ?_, ?_⟩
  · rcases List.mem_append.mp he with z | z
    · exact h.good e z
    · rw [List.mem_singleton.mp z]; exact g
  · have key : (F q).isSome = true ∨ q = p := by
      rcases due_cases (F := F) (p := p) (r := r) with e | ⟨hp, ⟨ns, e0⟩, b, e⟩ | ⟨hp, e⟩ | ⟨ws, vs, e0, e, _⟩
      · rw [e] at hq; exact .inl hq
      · rw [e, ← ct_some, ct_add e0, ← last_snoc hp] at hq
        by_cases z : q = p
        · exact .inr z
        · rw [if_neg z, ct_some] at hq; exact .inl hq
      · rw [e] at hq
        unfold delF at hq
        by_cases z : q = p.dropLast ++ [p.getLastD 0]
        · rw [if_pos z] at hq; cases hq
        · rw [if_neg z] at hq
          by_cases y : q = p.dropLast
          · rw [if_pos y] at hq
            rw [y]
            cases w : F p.dropLast with
            | none => rw [w] at hq; cases hq
            | some x => exact .inl rfl
          · rw [if_neg y] at hq; exact .inl hq
      · rw [e, ← ct_some, ct_set] at hq
        by_cases z : q = p
        · exact .inr z
        · rw [if_neg z, ct_some] at hq; exact .inl hq
    rcases key with z | z
    · rcases h.nodes q z with w | ⟨d, hd, w⟩
      · exact .inl w
      · exact .inr ⟨d, List.mem_append_left _ hd, w⟩
    · exact .inr ⟨(p, r), by simp, z.symm⟩
  · have e' := ct_file.mpr e
    rcases due_cases (F := F) (p := p) (r := r) with e1 | ⟨hp, ⟨ns, e0⟩, b, e1⟩ | ⟨hp, e1⟩ | ⟨ws0, vs, e0, e1, hv⟩
    · rw [e1] at e; exact h.wds q ws e
    · rw [e1, ct_add e0] at e'
      by_cases z : q = p.dropLast ++ [p.getLastD 0]
      · rw [if_pos z] at e'
        cases b with
        | true => cases e'; exact fun x hx => (by cases hx)
        | false => cases e'
      · rw [if_neg z] at e'; exact h.wds q ws (ct_file.mp e')
    · rw [e1] at e
      unfold delF at e
      by_cases z : q = p.dropLast ++ [p.getLastD 0]
      · rw [if_pos z] at e; cases e
      · rw [if_neg z] at e
        by_cases y : q = p.dropLast
        · rw [if_pos y] at e
          cases w : F p.dropLast with
          | none => rw [w] at e; cases e
          | some x =>
            rw [w] at e
            cases x with
            | dir ns => cases e
            | file us => cases e; exact h.wds _ _ w
        · rw [if_neg y] at e; exact h.wds q ws e
    · rw [e1, ct_set] at e'
      by_cases z : q = p
      · rw [if_pos z] at e'
        cases e'
        have w0 := h.wds p ws0 e0
        rcases hv with ⟨a, rfl⟩ | ⟨off, new, rfl, rfl⟩
        · exact w0.sub fun x hx => List.mem_of_mem_take hx
        · intro x hx
          rcases putW_mem hx with y | y | y
          · exact w0 x y
          · rw [y]; exact ⟨by decide, by decide⟩
          · have := g.2.2.2.2 x y
            exact ⟨by omega, by omega⟩
      · rw [if_neg z] at e'; exact h.wds q ws (ct_file.mp e')
  · have := h.cap.due (p := p) (r := r)
    refine this.mono ?_
    rw [List.length_append, List.length_singleton]
    split <;> omega
theorem Nice.box {ds : List Deed} {F : Fm} (h : Nice ds F) {p : List Int} (hp : (F p).isSome = true) : p.length ≤ 3 ∧ Wds p ∧ (p.all fun x => decide (x ≠ 0)) = true := by
  rcases h.nodes p hp with rfl | ⟨d, hd, rfl⟩
  · exact ⟨Nat.zero_le _, fun x hx => (by cases hx), rfl⟩
  · have := (h.good d hd).1
    exact ⟨this.1.2, this.wds, this.all⟩
end My

namespace My
open PySem L2
local macro_rules | `(tactic| walk_at "ne") => `(tactic| first | assumption | exact Ne.symm (by assumption) | exact ne_of_none (by assumption) (by assumption) | exact Ne.symm (ne_of_none (by assumption) (by assumption)))
local macro_rules | `(tactic| walk_at "hp") => `(tactic| first | assumption | with_reducible exact upd_same | (with_reducible refine Eq.trans (upd_ne ?_) ?_; rotate_left; walk_at "hp"; walk_at "ne"))
local macro_rules | `(tactic| walk_at "cnd") => `(tactic| first | omega | (show (0 : Int) < _; omega) | exact ⟨by omega, by omega⟩ | exact Or.inl ⟨by omega, by omega⟩ | exact Or.inr ⟨by omega, by omega⟩ | exact ⟨by omega, by omega, by decide⟩ | exact ⟨by omega, by omega, by omega⟩)
local macro_rules | `(tactic| walk_at "at") => `(tactic| first | exact atC 0 rfl rfl | exact atC 1 rfl rfl | exact atC 2 rfl rfl | exact atC 3 rfl rfl | exact atC 4 rfl rfl | exact atC 5 rfl rfl | exact atC 6 rfl rfl | exact atC 7 rfl rfl)
local macro_rules | `(tactic| walk_at "ix") => `(tactic| first | exact ixC 0 rfl (Nat.le_of_ble_eq_true rfl) | exact ixC 1 rfl (Nat.le_of_ble_eq_true rfl) | exact ixC 2 rfl (Nat.le_of_ble_eq_true rfl) | exact ixC 3 rfl (Nat.le_of_ble_eq_true rfl) | exact ixC 4 rfl (Nat.le_of_ble_eq_true rfl) | exact ixC 5 rfl (Nat.le_of_ble_eq_true rfl))
local macro_rules | `(tactic| walk_at "st") => `(tactic| first
  | refine ⟨_, rfl, ?_⟩
  | refine ⟨_, _, rfl, rfl, (by walk_at "cnd" : (_ : Prop)), ?_⟩
  | refine ⟨_, _, rfl, rfl, ?_⟩
  | refine ⟨rfl, ?_⟩
  | refine Or.inl ⟨_, rfl, ?_⟩
  | refine ⟨_, _, _, _, rfl, rfl, by exact SqL.of (by walk_at "hp"), by walk_at "at", ?_⟩
  | refine ⟨_, _, _, _, rfl, rfl, by exact SqT.of (by walk_at "hp"), by walk_at "at", ?_⟩
  | refine ⟨_, _, _, _, rfl, rfl, by walk_at "hp", by walk_at "ix", ?_⟩
  | refine ⟨_, _, rfl, Or.inl (by exact SqL.of (by walk_at "hp")), ?_⟩
  | refine ⟨_, _, rfl, Or.inr (by exact SqT.of (by walk_at "hp")), ?_⟩)
local macro_rules | `(tactic| walk_at "so") => `(tactic| first
  | refine ⟨_, _, _, _, _, rfl, by walk_at "hp", by assumption, by assumption, rfl, ?_⟩
  | refine ⟨_, _, _, _, rfl, by walk_at "hp", by assumption, by assumption, Nat.le_of_ble_eq_true rfl, ?_⟩
  | refine ⟨_, _, _, rfl, by walk_at "hp", rfl, ?_⟩
  | walk_at "st")
local macro_rules | `(tactic| walk_at "ro") => `(tactic| repeat walk_at "so")
local macro_rules | `(tactic| walk_at "run") => `(tactic| repeat walk_at "st")

theorem runD_app {F : Fm} (as bs : List Deed) : runD F (as ++ bs) = (runD F as).bind fun G => runD G bs := by
  induction as generalizing F with
  | nil => rfl
  | cons d as ih =>
    rw [List.cons_append]
    show (if isOkD (due F d.1 d.2).1 = true then runD (due F d.1 d.2).2 (as ++ bs) else none) = (if isOkD (due F d.1 d.2).1 = true then runD (due F d.1 d.2).2 as else none).bind fun G => runD G bs
    by_cases c : isOkD (due F d.1 d.2).1 = true
    · rw [if_pos c, if_pos c]; exact ih
    · rw [if_neg c, if_neg c]; rfl
theorem runD_one {F F' : Fm} {d : Deed} (h : due F d.1 d.2 = (okD, F')) (ds : List Deed) : runD F (d :: ds) = runD F' ds := by
  conv => lhs; unfold runD
  rw [h]
  exact if_pos rfl
theorem putW_nil (ws : List Int) : putW [] 0 ws = ws := by
  unfold putW
  simp
theorem mem_take_of_lt {α : Type} {l : List α} {j i : Nat} {x : α} (h : l[j]? = some x) (hj : j < i) : x ∈ l.take i := by
  refine List.mem_of_getElem? (i := j) ?_
  rw [List.getElem?_take, if_pos hj]; exact h
theorem img_run {H : Hp} {a0 : Addr} {F : Fm} {α : TA} (t : TR H a0 F α) {L : List (List Int)} (asc : L.Pairwise fun a b => lexL a b = true) (mem : ∀ p, p ∈ L ↔ (F p).isSome = true) :
    ∀ i, i ≤ L.length → ∃ G, runD F0 (imgD F (L.take i)) = some G ∧ ∀ p, ct G p = if p = [] ∨ p ∈ L.take i then ct F p else none
  | 0, _ => by
    obtain ⟨ns, hr⟩ := t.top
    refine ⟨F0, rfl, fun p => ?_⟩
    rw [ct_F0]
    by_cases h : p = []
    · rw [if_pos h, if_pos (.inl h), h, ct_dir.mpr ⟨ns, hr⟩]
    · rw [if_neg h, if_neg (by simp [h])]
  | i + 1, hi => by
    obtain ⟨G, hG, hct⟩ := img_run t asc mem i (by omega)
    have hq : L[i]? = some L[i] := List.getElem?_eq_getElem (by omega)
    generalize L[i] = q at hq
    rw [← take_snoc hq, imgD_snoc, runD_app, hG]
    show ∃ G', runD G (imgP F q) = some G' ∧ _
    have hqF := (mem q).mp (List.mem_of_getElem? hq)
    have notin : q ∉ L.take i := fun z => by
      obtain ⟨j, hj⟩ := List.mem_iff_getElem?.mp z
      rw [List.getElem?_take] at hj
      by_cases c : j < i
      · rw [if_pos c] at hj
        have l1 := (List.getElem?_eq_some_iff.mp hj)
        have l2 := (List.getElem?_eq_some_iff.mp hq)
        have := List.pairwise_iff_getElem.mp asc j i l1.1 l2.1 c
        rw [l1.2, l2.2, lexL_irr] at this
        cases this
      · rw [if_neg c] at hj; cases hj
    by_cases hqe : q = []
    · obtain ⟨ns, hr⟩ := t.top
      have e0 : imgP F q = [] := by
        unfold imgP wordsOf
        rw [hqe, hr]; rfl
      refine ⟨G, by rw [e0]; rfl, fun p => ?_⟩
      rw [hct p]
      by_cases h : p = [] ∨ p ∈ L.take i
      · rw [if_pos h, if_pos (h.imp id fun z => List.mem_append_left _ z)]
      · rw [if_neg h, if_neg fun z => h (z.imp id fun w => by
          rcases List.mem_append.mp w with w | w
          · exact w
          · exact absurd (.inl ((List.mem_singleton.mp w).trans hqe)) h)]
    · have eq := last_snoc hqe
      generalize hd : q.dropLast = d at eq
      generalize hn : q.getLastD 0 = n at eq
      obtain ⟨ns, hdir⟩ := t.up d n (by rw [← eq]; exact hqF)
      -- the parent stands before
      have hpar : d = [] ∨ d ∈ L.take i := by
        have hdL := (mem d).mpr (by rw [hdir]; rfl)
        obtain ⟨j, hj⟩ := List.mem_iff_getElem?.mp hdL
        refine .inr (mem_take_of_lt hj ?_)
        have lt : lexL d q = true := by rw [eq]; exact lex_ext d n []
        have l1 := (List.getElem?_eq_some_iff.mp hj)
        have l2 := (List.getElem?_eq_some_iff.mp hq)
        rcases Nat.lt_trichotomy j i with c | c | c
        · exact c
        · subst c
          rw [hq] at hj
          cases hj
          rw [lexL_irr] at lt; cases lt
        · have := List.pairwise_iff_getElem.mp asc i j l2.1 l1.1 c
          rw [l1.2, l2.2] at this
          rw [lexL_asym _ _ this] at lt; cases lt
      have hGd : ∃ ms, G d = some (.dir ms) := ct_dir.mp (by rw [hct d, if_pos hpar]; exact ct_dir.mpr ⟨ns, hdir⟩)
      obtain ⟨ms, hGd⟩ := hGd
      have hGq : G q = none := ct_none.mp (by rw [hct q, if_neg]; exact fun z => z.elim hqe notin)
      have mk : due G q (.make (isFileB F q)) = (okD, addF G d n (if isFileB F q = true then .file [] else .dir [])) := by
        have := dueMake_new (F := G) (p := q) (b := isFileB F q) hqe (by rw [hd]; exact hGd) (by rw [hGq]; decide)
        rw [hd, hn] at this
        exact this
      have fin : ∀ G' : Fm, (∀ p, ct G' p = if p = q then ct F q else ct G p) → ∀ p, ct G' p = if p = [] ∨ p ∈ L.take i ++ [q] then ct F p else none := fun G' h p => by
        rw [h p]
        by_cases c : p = q
        · rw [if_pos c, if_pos (.inr (by rw [c]; simp)), c]
        · rw [if_neg c, hct p]
          by_cases e : p = [] ∨ p ∈ L.take i
          · rw [if_pos e, if_pos (e.imp id fun z => List.mem_append_left _ z)]
          · rw [if_neg e, if_neg fun z => e (z.imp id fun w => (List.mem_append.mp w).resolve_right fun w => c (List.mem_singleton.mp w))]
      have ctA : ∀ p, ct (addF G d n (if isFileB F q = true then .file [] else .dir [])) p = if p = q then some (ctP (if isFileB F q = true then .file [] else .dir [])) else ct G p := fun p => by
        rw [ct_add hGd, ← eq]
      unfold imgP
      rw [if_neg hqe]
      obtain ⟨x, hx⟩ := Option.isSome_iff_exists.mp hqF
      cases x with
      | dir us =>
        have e1 : isFileB F q = false := by unfold isFileB; rw [hx]
        have e2 : wordsOf F q = [] := by unfold wordsOf; rw [hx]
        rw [if_pos e2, List.append_nil]
        refine ⟨_, runD_one (d := (q, .make (isFileB F q))) mk [], fin _ fun p => ?_⟩
        rw [ctA p, e1]
        have : ct F q = some none := ct_dir.mpr ⟨us, hx⟩
        rw [this]; rfl
      | file ws =>
        have e1 : isFileB F q = true := by unfold isFileB; rw [hx]
        have e2 : wordsOf F q = ws := by unfold wordsOf; rw [hx]
        have ec : ct F q = some (some ws) := ct_file.mpr hx
        rw [e2]
        by_cases hw : ws = []
        · rw [if_pos hw, List.append_nil]
          refine ⟨_, runD_one (d := (q, .make (isFileB F q))) mk [], fin _ fun p => ?_⟩
          rw [ctA p, e1, ec, hw]; rfl
        · rw [if_neg hw]
          have l48 := (t.file q ws hx).2.2
          rw [show [(q, Rq.make (isFileB F q))] ++ [(q, Rq.put 0 ws)] = (q, Rq.make (isFileB F q)) :: [(q, Rq.put 0 ws)] from rfl, runD_one (d := (q, .make (isFileB F q))) mk]
          generalize addF G d n (if isFileB F q = true then .file [] else .dir []) = G1 at ctA
          have h1 : G1 q = some (.file []) := ct_file.mp (by rw [ctA q, if_pos rfl, e1]; rfl)
          have pt : due G1 q (.put 0 ws) = (okD, setF G1 q ws) := by
            show dueFile G1 q (fileG G1 q (.put 0 ws)) = _
            rw [dueFile_file h1]
            show (if 48 < 0 + ws.length then _ else (okD, setF G1 q (putW [] 0 ws))) = _
            rw [if_neg (by omega), putW_nil]
          refine ⟨_, runD_one (d := (q, .put 0 ws)) pt [], fin _ fun p => ?_⟩
          rw [ct_set]
          by_cases c : p = q
          · rw [if_pos c, if_pos c, ec]
          · rw [if_neg c, if_neg c, ctA p, if_neg c]
theorem img_all {H : Hp} {a0 : Addr} {F : Fm} {α : TA} (t : TR H a0 F α) {L : List (List Int)} (asc : L.Pairwise fun a b => lexL a b = true) (mem : ∀ p, p ∈ L ↔ (F p).isSome = true) : ∃ G, runD F0 (imgD F L) = some G ∧ ct G = ct F := by
  obtain ⟨G, h1, h2⟩ := img_run t asc mem L.length (Nat.le_refl _)
  rw [List.take_length] at h1 h2
  refine ⟨G, h1, funext fun p => ?_⟩
  rw [h2 p]
  by_cases c : p = [] ∨ p ∈ L
  · exact if_pos c
  · rw [if_neg c]
    refine (ct_none.mpr ?_).symm
    cases e : F p with
    | none => rfl
    | some x => exact absurd (.inr ((mem p).mpr (by rw [e]; rfl))) c
/-! ### the image's deeds are good -/
theorem img_good {H : Hp} {a0 : Addr} {ds : List Deed} {F : Fm} {α : TA} (nc : Nice ds F) (t : TR H a0 F α) {L : List (List Int)} (mem : ∀ p, p ∈ L ↔ (F p).isSome = true) : ∀ d ∈ imgD F L, isDeed d.2 ∧ goodD d = true ∧ Wds (enc d) ∧ smallD d.1 d.2 ∧ (isMk d.2 = true ∨ ∃ ws, d.2 = .put 0 ws) := by
  intro d hd
  unfold imgD at hd
  obtain ⟨q, hq, hd⟩ := List.mem_flatMap.mp hd
  have hqF := (mem q).mp hq
  obtain ⟨b3, bw, ba⟩ := nc.box hqF
  unfold imgP at hd
  rcases List.mem_append.mp hd with hd | hd
  · by_cases c : q = []
    · rw [if_pos c] at hd; cases hd
    · rw [if_neg c] at hd
      have := List.mem_singleton.mp hd
      subst this
      refine ⟨trivial, by rw [good_make bw]; exact ba, fun x hx => ?_, by show q.length ≤ 5000; omega, .inl rfl⟩
      unfold enc at hx
      rcases List.mem_cons.mp hx with z | hx
      · rw [z]; exact (by intro b; cases b <;> exact ⟨by decide, by decide⟩ : ∀ b : Bool, Wd (if b = true then 2 else 1)) (isFileB F q)
      rcases List.mem_cons.mp hx with z | hx
      · rw [z]; exact ⟨by omega, by show (q.length : Int) ≤ 4294967295; omega⟩
      · rw [show encR (Rq.make (isFileB F q)) = [] from rfl, List.append_nil] at hx
        exact bw x hx
  · by_cases c : wordsOf F q = []
    · rw [if_pos c] at hd; cases hd
    · rw [if_neg c] at hd
      have := List.mem_singleton.mp hd
      subst this
      obtain ⟨x, hx⟩ := Option.isSome_iff_exists.mp hqF
      cases x with
      | dir us => exact absurd (by unfold wordsOf; rw [hx]) c
      | file ws =>
        have e2 : wordsOf F q = ws := by unfold wordsOf; rw [hx]
        rw [e2] at c ⊢
        have l48 := (t.file q ws hx).2.2
        have ww := nc.wds q ws hx
        have l1 : 1 ≤ ws.length := List.length_pos_iff.mpr c
        refine ⟨trivial, ?_, fun x hx => ?_, ⟨by show q.length ≤ 5000; omega, by omega⟩, .inr ⟨ws, rfl⟩⟩
        · rw [good_put bw ww, ba, decide_eq_true (show 0 ≤ 48 by omega), decide_eq_true (show 1 ≤ ws.length ∧ ws.length ≤ 48 from ⟨l1, l48⟩)]; rfl
        · unfold enc at hx
          rcases List.mem_cons.mp hx with z | hx
          · rw [z]; exact (⟨by decide, by decide⟩ : Wd 3)
          rcases List.mem_cons.mp hx with z | hx
          · rw [z]; exact ⟨by omega, by show (q.length : Int) ≤ 4294967295; omega⟩
          rcases List.mem_append.mp hx with hx | hx
          · exact bw x hx
          · rcases List.mem_cons.mp hx with z | hx
            · rw [z]; exact (⟨by decide, by decide⟩ : Wd 0)
            rcases List.mem_cons.mp hx with z | hx
            · rw [z]; exact ⟨by omega, by omega⟩
            · exact ww x hx
theorem wds_flat {ds : List Deed} (h : ∀ d ∈ ds, Wds (enc d)) : Wds (ds.flatMap enc) := fun x hx => by
  obtain ⟨d, hd, hx⟩ := List.mem_flatMap.mp hx
  exact h d hd x hx
theorem dec_all {ds : List Deed} (h : ∀ d ∈ ds, isDeed d.2 ∧ goodD d = true) : dec (ds.flatMap enc) = some ds := by
  have := dec_flat h []
  rw [List.append_nil] at this
  rw [this]
  show some (ds ++ []) = _
  rw [List.append_nil]
def pthsOf (L : List (List Int)) : List (List Int) := L.filter fun q => decide (q ≠ [])
theorem img_paths (F : Fm) : ∀ L : List (List Int), ((imgD F L).filter fun d => isMk d.2).map (·.1) = pthsOf L
  | [] => rfl
  | q :: L => by
    have ih := img_paths F L
    unfold imgD at ih ⊢
    rw [List.flatMap_cons, List.filter_append, List.map_append, ih]
    unfold imgP pthsOf
    rw [List.filter_append]
    have e2 : ((if wordsOf F q = [] then [] else [(q, Rq.put 0 (wordsOf F q))] : List Deed).filter fun d => isMk d.2) = [] := by
      by_cases c : wordsOf F q = []
      · rw [if_pos c]; rfl
      · rw [if_neg c]; rfl
    rw [e2, List.append_nil]
    by_cases c : q = []
    · have : ((q :: L).filter fun q => decide (q ≠ [])) = L.filter fun q => decide (q ≠ []) := List.filter_cons_of_neg (by simpa using c)
      rw [if_pos c, this]; rfl
    · rw [if_neg c]
      have : ((q :: L).filter fun q => decide (q ≠ [])) = q :: L.filter fun q => decide (q ≠ []) := List.filter_cons_of_pos (by simpa using c)
      rw [this]; rfl
theorem img_mks (F : Fm) (L : List (List Int)) : mks (imgD F L) ≤ L.length := by
  have h := congrArg List.length (img_paths F L)
  rw [List.length_map] at h
  unfold mks
  rw [List.countP_eq_length_filter, h]
  exact List.length_filter_le _ _
end My

namespace My
open PySem L2
local macro_rules | `(tactic| walk_at "ne") => `(tactic| first | assumption | exact Ne.symm (by assumption) | exact ne_of_none (by assumption) (by assumption) | exact Ne.symm (ne_of_none (by assumption) (by assumption)))
local macro_rules | `(tactic| walk_at "hp") => `(tactic| first | assumption | with_reducible exact upd_same | (with_reducible refine Eq.trans (upd_ne ?_) ?_; rotate_left; walk_at "hp"; walk_at "ne"))
local macro_rules | `(tactic| walk_at "cnd") => `(tactic| first | omega | (show (0 : Int) < _; omega) | exact ⟨by omega, by omega⟩ | exact Or.inl ⟨by omega, by omega⟩ | exact Or.inr ⟨by omega, by omega⟩ | exact ⟨by omega, by omega, by decide⟩ | exact ⟨by omega, by omega, by omega⟩)
local macro_rules | `(tactic| walk_at "at") => `(tactic| first | exact atC 0 rfl rfl | exact atC 1 rfl rfl | exact atC 2 rfl rfl | exact atC 3 rfl rfl | exact atC 4 rfl rfl | exact atC 5 rfl rfl | exact atC 6 rfl rfl | exact atC 7 rfl rfl)
local macro_rules | `(tactic| walk_at "ix") => `(tactic| first | exact ixC 0 rfl (Nat.le_of_ble_eq_true rfl) | exact ixC 1 rfl (Nat.le_of_ble_eq_true rfl) | exact ixC 2 rfl (Nat.le_of_ble_eq_true rfl) | exact ixC 3 rfl (Nat.le_of_ble_eq_true rfl) | exact ixC 4 rfl (Nat.le_of_ble_eq_true rfl) | exact ixC 5 rfl (Nat.le_of_ble_eq_true rfl))
local macro_rules | `(tactic| walk_at "st") => `(tactic| first
  | refine ⟨_, rfl, ?_⟩
  | refine ⟨_, _, rfl, rfl, (by walk_at "cnd" : (_ : Prop)), ?_⟩
  | refine ⟨_, _, rfl, rfl, ?_⟩
  | refine ⟨rfl, ?_⟩
  | refine Or.inl ⟨_, rfl, ?_⟩
  | refine ⟨_, _, _, _, rfl, rfl, by exact SqL.of (by walk_at "hp"), by walk_at "at", ?_⟩
  | refine ⟨_, _, _, _, rfl, rfl, by exact SqT.of (by walk_at "hp"), by walk_at "at", ?_⟩
  | refine ⟨_, _, _, _, rfl, rfl, by walk_at "hp", by walk_at "ix", ?_⟩
  | refine ⟨_, _, rfl, Or.inl (by exact SqL.of (by walk_at "hp")), ?_⟩
  | refine ⟨_, _, rfl, Or.inr (by exact SqT.of (by walk_at "hp")), ?_⟩)
local macro_rules | `(tactic| walk_at "so") => `(tactic| first
  | refine ⟨_, _, _, _, _, rfl, by walk_at "hp", by assumption, by assumption, rfl, ?_⟩
  | refine ⟨_, _, _, _, rfl, by walk_at "hp", by assumption, by assumption, Nat.le_of_ble_eq_true rfl, ?_⟩
  | refine ⟨_, _, _, rfl, by walk_at "hp", rfl, ?_⟩
  | walk_at "st")
local macro_rules | `(tactic| walk_at "ro") => `(tactic| repeat walk_at "so")
local macro_rules | `(tactic| walk_at "run") => `(tactic| repeat walk_at "st")

/-! ### two trees that hold the same -/
theorem paired_ints {E : V → V → Prop} (h : ∀ n : Int, E (.int n) (.int n)) : ∀ ws : List Int, Paired E (ws.map V.int) (ws.map V.int)
  | [] => .nil
  | n :: ws => .cons (h n) (paired_ints h ws)
theorem eqv_node {K : PySem.W.Frag} {H : Hp} {a b : Addr} {F G : Fm} {α β : TA} (t : TR H a F α) (u : TR H b G β) (e : ct F = ct G) {m : Nat} {p : List Int} {ns : List Int} (hp : F p = some (.dir ns)) (kids : ∀ n ∈ ns, EqV K H m (.ref (α.nd (p ++ [n]))) (.ref (β.nd (p ++ [n])))) :
    ∃ ks ls, H (α.nd p) = some (.dK ks) ∧ H (β.nd p) = some (.dK ls) ∧ ks.length = ls.length ∧ ∀ x ∈ ks, ∃ y, valV ls x.1 = some y ∧ EqV K H (m + 1) x.2 y := by
  obtain ⟨ms, hq⟩ := ct_dir.mp ((congrFun e p).symm.trans (ct_dir.mpr ⟨ns, hp⟩))
  obtain ⟨h1, h2, h3, _, h5⟩ := t.dir p ns hp
  obtain ⟨g1, g2, g3, _, g5⟩ := u.dir p ms hq
  have same : ∀ n, n ∈ ns ↔ n ∈ ms := fun n => by rw [h5 n, g5 n, ← ct_some, ← ct_some, congrFun e _]
  have hl : ns.length = ms.length := Nat.le_antisymm (nodup_lenD h3 fun x hx => (same x).mp hx) (nodup_lenD g3 fun x hx => (same x).mpr hx)
  refine ⟨_, _, h1, g1, rfl, fun x hx => ?_⟩
  have := List.mem_singleton.mp hx
  subst this
  refine ⟨_, valV_pos rfl, .inr (.inr (.inr ⟨α.inn p, β.inn p, _, _, rfl, rfl, h2, g2, by rw [List.length_map, List.length_map]; exact hl, fun y hy => ?_⟩))⟩
  obtain ⟨n, hn, rfl⟩ := List.mem_map.mp hy
  exact ⟨_, val_some (f := fun n => V.ref (β.nd (p ++ [n]))) ((same n).mp hn), kids n hn⟩
theorem eqv_tree {K : PySem.W.Frag} {H : Hp} {a b : Addr} {F G : Fm} {α β : TA} (t : TR H a F α) (u : TR H b G β) (e : ct F = ct G) (d3 : ∀ p, (F p).isSome = true → p.length ≤ 3) : ∀ (k : Nat) (p : List Int), (F p).isSome = true → 3 ≤ p.length + k → EqV K H (2 * k + 3) (.ref (α.nd p)) (.ref (β.nd p)) := by
  have file : ∀ (p ws : List Int) (m : Nat), F p = some (.file ws) → EqV K H (m + 3) (.ref (α.nd p)) (.ref (β.nd p)) := fun p ws m hp => by
    have hq : G p = some (.file ws) := ct_file.mp ((congrFun e p).symm.trans (ct_file.mpr hp))
    obtain ⟨h1, h2, _⟩ := t.file p ws hp
    obtain ⟨g1, g2, _⟩ := u.file p ws hq
    refine .inr (.inr (.inr ⟨_, _, _, _, rfl, rfl, h1, g1, rfl, fun x hx => ?_⟩))
    have := List.mem_singleton.mp hx
    subst this
    exact ⟨_, valV_pos rfl, .inr (.inr (.inl ⟨_, _, _, _, rfl, rfl, SqL.of h2, SqL.of g2, paired_ints (fun n => .inl ⟨rfl, rfl⟩) ws⟩))⟩
  intro k
  induction k with
  | zero =>
    intro p hp h3
    obtain ⟨x, hx⟩ := Option.isSome_iff_exists.mp hp
    cases x with
    | file ws => exact file p ws 0 hx
    | dir ns =>
      obtain ⟨ks, ls, g1, g2, g3, g4⟩ := eqv_node (K := K) (m := 1) t u e hx fun n hn => by
        have := d3 _ (((t.dir p ns hx).2.2.2.2 n).mp hn)
        rw [List.length_append, List.length_singleton] at this
        omega
      exact .inr (.inr (.inr ⟨_, _, ks, ls, rfl, rfl, g1, g2, g3, g4⟩))
  | succ k ih =>
    intro p hp h3
    obtain ⟨x, hx⟩ := Option.isSome_iff_exists.mp hp
    cases x with
    | file ws => exact file p ws (2 * (k + 1)) hx
    | dir ns =>
      obtain ⟨ks, ls, g1, g2, g3, g4⟩ := eqv_node (K := K) (m := 2 * k + 3) t u e hx fun n hn => ih _ (((t.dir p ns hx).2.2.2.2 n).mp hn) (by rw [List.length_append, List.length_singleton]; omega)
      exact .inr (.inr (.inr ⟨_, _, ks, ls, rfl, rfl, g1, g2, g3, g4⟩))
theorem eqv_root {K : PySem.W.Frag} {H : Hp} {a b : Addr} {F G : Fm} {α β : TA} (t : TR H a F α) (u : TR H b G β) (e : ct F = ct G) (d3 : ∀ p, (F p).isSome = true → p.length ≤ 3) :
    ∃ (ks ls : List (L2.Key × V)), H a = some (.dK ks) ∧ H b = some (.dK ls) ∧ ks.length = ls.length ∧ ∀ x ∈ ks, ∃ y, valV ls x.1 = some y ∧ EqV K H 10 x.2 y := by
  obtain ⟨ns, hr⟩ := t.top
  obtain ⟨ks, ls, g1, g2, g3, g4⟩ := eqv_node (K := K) (m := 9) t u e hr fun n hn => eqv_tree t u e d3 3 _ (((t.dir [] ns hr).2.2.2.2 n).mp hn) (by omega)
  rw [t.root] at g1
  rw [u.root] at g2
  exact ⟨ks, ls, g1, g2, g3, g4⟩
/-! ### shapes -/
theorem Sh.str (n : Nat) {z : Str} (h : PyData.strOk z = true) : Sh n (.str z) := ⟨by rw [PyData.canLay0]; exact h, by rw [PyData.depth]; exact Nat.zero_le _⟩
theorem sh_path (p : List Int) : Sh 4 (pthD p) := Sh.tup (n := 3) fun d hd => by
  obtain ⟨i, _, rfl⟩ := List.mem_map.mp hd
  exact Sh.int _ _
theorem sh_rq (p : List Int) (r : Rq) : Sh 5 (rqD p r) := Sh.tup (n := 4) fun d hd => by
  have z : ∀ s : Str, PyData.strOk s = true → Sh 4 (.str s) := fun s h => Sh.str 4 h
  rcases List.mem_cons.mp hd with rfl | hd
  · cases r with
    | make _ => exact z "make" (by decide +kernel)
    | put _ _ => exact z "put" (by decide +kernel)
    | get _ _ => exact z "get" (by decide +kernel)
    | shrink _ => exact z "shrink" (by decide +kernel)
    | _ => exact z _ (by decide +kernel)
  rcases List.mem_cons.mp hd with rfl | hd
  · exact sh_path p
  cases r with
  | make b =>
    rw [List.mem_singleton.mp hd]
    exact z _ (by cases b <;> decide +kernel)
  | put off ws =>
    rcases List.mem_cons.mp hd with rfl | hd
    · exact Sh.int _ _
    · rw [List.mem_singleton.mp hd]; exact sh_path ws
  | get x n =>
    rcases List.mem_cons.mp hd with rfl | hd
    · exact Sh.int _ _
    · rw [List.mem_singleton.mp hd]; exact Sh.int _ _
  | shrink x => rw [List.mem_singleton.mp hd]; exact Sh.int _ _
  | _ => cases hd
theorem shaped_ds (ds : List Deed) : SeqAt.shaped (dsD ds) = true := (Sh.lst (n := 5) fun d hd => by
  obtain ⟨x, _, rfl⟩ := List.mem_map.mp hd
  exact sh_rq _ _).ok
theorem shaped_paths (ps : List (List Int)) : SeqAt.shaped (.list (ps.map pthD)) = true := (Sh.lst (n := 4) fun d hd => by
  obtain ⟨x, _, rfl⟩ := List.mem_map.mp hd
  exact sh_path _).ok
theorem eqv_self {d : PyData} (h : SeqAt.shaped d = true) : PyData.eqv d d = true := PySem.SeqAt.eqv_refl _ (SeqAt.canLay_of_shaped h)
/-! ### the cut stream, joined -/
theorem padd_len (st : List Int) (k : Nat) : (padd st k).length = 7 := by
  unfold padd chunk
  rw [List.length_append, List.length_replicate, List.length_take]
  omega
def joinP (st : List Int) (k : Nat) : List Int := (List.range k).flatMap (padd st)
theorem joinP_succ (st : List Int) (k : Nat) : joinP st (k + 1) = joinP st k ++ padd st k := by
  unfold joinP
  rw [List.range_succ, List.flatMap_append]
  simp
theorem joinP_len (st : List Int) : ∀ k, (joinP st k).length = 7 * k
  | 0 => rfl
  | k + 1 => by rw [joinP_succ, List.length_append, joinP_len st k, padd_len]; omega
theorem joinP_take (st : List Int) : ∀ k, joinP st k = st.take (7 * k) ++ List.replicate (7 * k - st.length) 0
  | 0 => by simp [joinP]
  | k + 1 => by
    rw [joinP_succ, joinP_take st k]
    unfold padd chunk
    rcases Nat.le_total st.length (7 * k) with h | h
    · rw [List.drop_eq_nil_of_le h, List.take_nil, List.length_nil, List.nil_append, List.take_of_length_le h, List.take_of_length_le (by omega), List.append_assoc, List.replicate_append_replicate]
      congr 2
      omega
    · rw [show 7 * k - st.length = 0 by omega, List.replicate_zero, List.append_nil, ← List.append_assoc, show 7 * (k + 1) = 7 * k + 7 by omega, List.take_add]
      congr 2
      rw [List.length_take, List.length_drop]
      omega
theorem sum_zeros (k : Nat) : (List.replicate k (0 : Int)).sum = 0 := by
  induction k with
  | zero => rfl
  | succ k ih => rw [List.replicate_succ, List.sum_cons, ih]; rfl
/-! ### the two small streams -/
theorem dec_519 : dec [5, 1, 9] = some [([9], .drop)] := by
  have h := dec_enc (d := ([9], .drop)) trivial (by rw [good_drop (fun x hx => by rw [List.mem_singleton.mp hx]; exact ⟨by decide, by decide⟩)]; decide) []
  rw [List.append_nil] at h
  exact h
theorem run_519 : runD F0 [([9], .drop)] = none := by
  have : due F0 [9] .drop = (noD "path", F0) := dueDrop_none (by decide) (by unfold F0; exact if_neg (by decide))
  show (if isOkD (due F0 [9] .drop).1 = true then _ else none) = none
  rw [this]
  exact if_neg (by show ¬ decide (("no" : Str) = "ok") = true; decide +kernel)
end My

namespace My
open PySem L2
local macro_rules | `(tactic| walk_at "ne") => `(tactic| first | assumption | exact Ne.symm (by assumption) | exact ne_of_none (by assumption) (by assumption) | exact Ne.symm (ne_of_none (by assumption) (by assumption)))
local macro_rules | `(tactic| walk_at "hp") => `(tactic| first | assumption | with_reducible exact upd_same | (with_reducible refine Eq.trans (upd_ne ?_) ?_; rotate_left; walk_at "hp"; walk_at "ne"))
local macro_rules | `(tactic| walk_at "cnd") => `(tactic| first | omega | (show (0 : Int) < _; omega) | exact ⟨by omega, by omega⟩ | exact Or.inl ⟨by omega, by omega⟩ | exact Or.inr ⟨by omega, by omega⟩ | exact ⟨by omega, by omega, by decide⟩ | exact ⟨by omega, by omega, by omega⟩)
local macro_rules | `(tactic| walk_at "at") => `(tactic| first | exact atC 0 rfl rfl | exact atC 1 rfl rfl | exact atC 2 rfl rfl | exact atC 3 rfl rfl | exact atC 4 rfl rfl | exact atC 5 rfl rfl | exact atC 6 rfl rfl | exact atC 7 rfl rfl)
local macro_rules | `(tactic| walk_at "ix") => `(tactic| first | exact ixC 0 rfl (Nat.le_of_ble_eq_true rfl) | exact ixC 1 rfl (Nat.le_of_ble_eq_true rfl) | exact ixC 2 rfl (Nat.le_of_ble_eq_true rfl) | exact ixC 3 rfl (Nat.le_of_ble_eq_true rfl) | exact ixC 4 rfl (Nat.le_of_ble_eq_true rfl) | exact ixC 5 rfl (Nat.le_of_ble_eq_true rfl))
local macro_rules | `(tactic| walk_at "st") => `(tactic| first
  | refine ⟨_, rfl, ?_⟩
  | refine ⟨_, _, rfl, rfl, (by walk_at "cnd" : (_ : Prop)), ?_⟩
  | refine ⟨_, _, rfl, rfl, ?_⟩
  | refine ⟨rfl, ?_⟩
  | refine Or.inl ⟨_, rfl, ?_⟩
  | refine ⟨_, _, _, _, rfl, rfl, by exact SqL.of (by walk_at "hp"), by walk_at "at", ?_⟩
  | refine ⟨_, _, _, _, rfl, rfl, by exact SqT.of (by walk_at "hp"), by walk_at "at", ?_⟩
  | refine ⟨_, _, _, _, rfl, rfl, by walk_at "hp", by walk_at "ix", ?_⟩
  | refine ⟨_, _, rfl, Or.inl (by exact SqL.of (by walk_at "hp")), ?_⟩
  | refine ⟨_, _, rfl, Or.inr (by exact SqT.of (by walk_at "hp")), ?_⟩)
local macro_rules | `(tactic| walk_at "so") => `(tactic| first
  | refine ⟨_, _, _, _, _, rfl, by walk_at "hp", by assumption, by assumption, rfl, ?_⟩
  | refine ⟨_, _, _, _, rfl, by walk_at "hp", by assumption, by assumption, Nat.le_of_ble_eq_true rfl, ?_⟩
  | refine ⟨_, _, _, rfl, by walk_at "hp", rfl, ?_⟩
  | walk_at "st")
local macro_rules | `(tactic| walk_at "ro") => `(tactic| repeat walk_at "so")
local macro_rules | `(tactic| walk_at "run") => `(tactic| repeat walk_at "st")

theorem TR.keep {H H' : Hp} {a0 : Addr} {F : Fm} {α : TA} (t : TR H a0 F α) (c : ∀ b o, H b = some o → Own F α b → H' b = some o) : TR H' a0 F α := ⟨t.root, t.top, fun p ns e => by
    obtain ⟨g1, g2, g3⟩ := t.dir p ns e
    exact ⟨c _ _ g1 ⟨p, by rw [e]; rfl, .inl rfl⟩, c _ _ g2 ⟨p, by rw [e]; rfl, .inr rfl⟩, g3⟩, fun p ws e => by
    obtain ⟨g1, g2, g3⟩ := t.file p ws e
    exact ⟨c _ _ g1 ⟨p, by rw [e]; rfl, .inl rfl⟩, c _ _ g2 ⟨p, by rw [e]; rfl, .inr rfl⟩, g3⟩, t.up, t.inj1, t.inj2, t.inj3⟩
theorem TR.kind {H : Hp} {a0 : Addr} {F : Fm} {α : TA} (t : TR H a0 F α) {b : Addr} (h : Own F α b) : (∃ kvs, H b = some (.dK kvs)) ∨ ∃ ws : List Int, H b = some (.lst (ws.map V.int)) := by
  obtain ⟨q, hq, hb⟩ := h
  obtain ⟨x, e⟩ := Option.isSome_iff_exists.mp hq
  cases x with
  | dir ns =>
    obtain ⟨h1, h2, _⟩ := t.dir q ns e
    rcases hb with rfl | rfl
    · exact .inl ⟨_, h1⟩
    · exact .inl ⟨_, h2⟩
  | file ws =>
    obtain ⟨h1, h2, _⟩ := t.file q ws e
    rcases hb with rfl | rfl
    · exact .inl ⟨_, h1⟩
    · exact .inr ⟨_, h2⟩
theorem due_same {F : Fm} {p : List Int} {r : Rq} (h : isOkD (due F p r).1 = false) : (due F p r).2 = F := by
  have ok : isOkD okD = true := by show decide (("ok" : Str) = "ok") = true; decide
  have file : ∀ r : Rq, isOkD (dueFile F p (fileG F p r)).1 = false → (dueFile F p (fileG F p r)).2 = F := fun r h => by
    cases e : F p with
    | none => rw [dueFile_none e]
    | some x =>
      cases x with
      | dir ns => rw [dueFile_dir e]
      | file ws =>
        rw [dueFile_file e] at h ⊢
        cases r with
        | shrink a => exact absurd (ok.symm.trans h) (by decide)
        | put off new =>
          by_cases c : 48 < off + new.length
          · rw [show fileG F p (.put off new) ws = (noD "long", F) from if_pos c]
          · rw [show fileG F p (.put off new) ws = (okD, setF F p (putW ws off new)) from if_neg c] at h
            exact absurd (ok.symm.trans h) (by decide)
        | _ => rfl
  cases r with
  | make b =>
    show (dueMake F p b).2 = F
    have h : isOkD (dueMake F p b).1 = false := h
    by_cases hpe : p = []
    · subst hpe; rw [dueMake_nil]
    · cases e : F p.dropLast with
      | none => rw [dueMake_none hpe e]
      | some x =>
        cases x with
        | file ws => rw [dueMake_file hpe e]
        | dir ns =>
          by_cases hF : (F p).isSome = true
          · rw [dueMake_there hpe e hF]
          · rw [dueMake_new hpe e hF] at h; exact absurd (ok.symm.trans h) (by decide)
  | drop =>
    show (dueDrop F p).2 = F
    have h : isOkD (dueDrop F p).1 = false := h
    by_cases hpe : p = []
    · subst hpe; rw [dueDrop_nil]
    · cases e : F p with
      | none => rw [dueDrop_none hpe e]
      | some x =>
        cases x with
        | file ws => rw [dueDrop_file hpe e] at h; exact absurd (ok.symm.trans h) (by decide)
        | dir ns =>
          cases ns with
          | nil => rw [dueDrop_dir hpe e] at h; exact absurd (ok.symm.trans h) (by decide)
          | cons n ns => rw [dueDrop_full hpe e]
  | list =>
    show (dueList F p).2 = F
    cases e : F p with
    | none => rw [dueList_none e]
    | some x =>
      cases x with
      | file ws => rw [dueList_file e]
      | dir ns => rw [dueList_dir e]
  | put _ _ => exact file _ h
  | get _ _ => exact file _ h
  | shrink _ => exact file _ h
  | size => exact file _ h
theorem Chg.free {H H' : Hp} {a q : Addr} (c : Chg a H H') (n : q ≠ a) (h : H' q = none) : H q = none := by
  cases e : H q with
  | none => rfl
  | some o => rw [c q o n e] at h; cases h
/-! ### the law's state -/
structure LS (H : Hp) (tp s tr da sa pa : Addr) (F : Fm) (α : TA) (ds : List Deed) (xs : List V) (sl pl : List Int) : Prop where
  tape : Tape H tp s
  tr : TR H tr F α
  own : ∀ b, Own F α b → b ≠ s ∧ b ≠ da ∧ b ≠ sa ∧ b ≠ pa
  da' : H da = some (.lst xs)
  dd : DtAll H xs (ds.map rqDD)
  sa' : H sa = some (.lst (sl.map V.int))
  pa' : H pa = some (.lst (pl.map V.int))
  ne : da ≠ tp ∧ sa ≠ tp ∧ pa ≠ tp ∧ da ≠ s ∧ da ≠ sa ∧ da ≠ pa
structure PF (ds : List Deed) (sl pl : List Int) (n : Nat) : Prop where
  st : sl = ds.flatMap enc
  dec : ∀ t, My.dec (pl ++ t) = (My.dec t).map (ds ++ ·)
  wpl : Wds pl
  lpl : pl.length ≤ 18 * n
  lds : ds.length ≤ n
section
variable {H H' : Hp} {tp s tr da sa pa : Addr} {F : Fm} {α : TA} {ds : List Deed} {xs : List V} {sl pl : List Int}
theorem LS.not_tp (h : LS H tp s tr da sa pa F α ds xs sl pl) {b : Addr} (hb : Own F α b) : b ≠ tp := fun e => by
  obtain ⟨us, j, r, z, ha, _⟩ := h.tape
  rcases h.tr.kind hb with ⟨kvs, w⟩ | ⟨ws, w⟩
  · rw [e, ha] at w; cases w
  · rw [e, ha] at w
    cases ws with
    | nil => cases w
    | cons n r => cases w
theorem LS.same (h : LS H tp s tr da sa pa F α ds xs sl pl) (e : Same H H') : LS H' tp s tr da sa pa F α ds xs sl pl :=
  ⟨h.tape.same e, h.tr.same e, h.own, e _ _ h.da', h.dd.same e, e _ _ h.sa', e _ _ h.pa', h.ne⟩
theorem LS.chg (h : LS H tp s tr da sa pa F α ds xs sl pl) (t : Tape H' tp s) (c : Chg tp H H') : LS H' tp s tr da sa pa F α ds xs sl pl := by
  obtain ⟨n1, n2, n3, n4⟩ := h.ne
  exact ⟨t, h.tr.keep fun b o e w => c b o (h.not_tp w) e, h.own, c _ _ n1 h.da', h.dd.ts (h.tape.ts c) (tonly_rqs ds), c _ _ n2 h.sa', c _ _ n3 h.pa', h.ne⟩
theorem LS.newS (h : LS H tp s tr da sa pa F α ds xs sl pl) {q : Addr} (hq : H q = none) (sl' : List Int) : LS (upd H q (.lst (sl'.map V.int))) tp s tr da q pa F α ds xs sl' pl := by
  have e : Same H (upd H q (.lst (sl'.map V.int))) := Same.new hq
  have h' := h.same e
  obtain ⟨n1, n2, n3, n4, n5, n6⟩ := h.ne
  refine ⟨h'.tape, h'.tr, fun b hb => ?_, h'.da', h'.dd, upd_same, h'.pa', n1, h.tape.at hq, n3, n4, fun z => ?_, n6⟩
  · obtain ⟨m1, m2, m3, m4⟩ := h.own b hb
    refine ⟨m1, m2, fun z => ?_, m4⟩
    obtain ⟨o, ho⟩ := h.tr.live hb
    rw [z, hq] at ho; cases ho
  · have := h.da'
    rw [z, hq] at this; cases this
theorem LS.newP (h : LS H tp s tr da sa pa F α ds xs sl pl) {q : Addr} (hq : H q = none) (pl' : List Int) : LS (upd H q (.lst (pl'.map V.int))) tp s tr da sa q F α ds xs sl pl' := by
  have e : Same H (upd H q (.lst (pl'.map V.int))) := Same.new hq
  have h' := h.same e
  obtain ⟨n1, n2, n3, n4, n5, n6⟩ := h.ne
  refine ⟨h'.tape, h'.tr, fun b hb => ?_, h'.da', h'.dd, h'.sa', upd_same, n1, n2, h.tape.at hq, n4, n5, fun z => ?_⟩
  · obtain ⟨m1, m2, m3, m4⟩ := h.own b hb
    refine ⟨m1, m2, m3, fun z => ?_⟩
    obtain ⟨o, ho⟩ := h.tr.live hb
    rw [z, hq] at ho; cases ho
  · have := h.da'
    rw [z, hq] at this; cases this
theorem LS.ts_da (h : LS H tp s tr da sa pa F α ds xs sl pl) (o : HO) : TS H (upd H da o) := fun b ys e => by
  rw [upd_ne (ne_of e h.da' (by intro z; cases z))]; exact e
theorem LS.push (h : LS H tp s tr da sa pa F α ds xs sl pl) {v : V} {d : Deed} (hv : Dt H v (rqDD d)) : LS (upd H da (.lst (xs ++ [v]))) tp s tr da sa pa F α (ds ++ [d]) (xs ++ [v]) sl pl := by
  obtain ⟨n1, n2, n3, n4, n5, n6⟩ := h.ne
  have ts := h.ts_da (.lst (xs ++ [v]))
  refine ⟨h.tape.upd n1 n4, h.tr.keep fun b o e w => ?_, h.own, upd_same, ?_, ?_, ?_, h.ne⟩
  · rw [upd_ne (h.own b w).2.1]; exact e
  · rw [List.map_append]
    exact (h.dd.ts ts (tonly_rqs ds)).snoc (hv.ts ts tonly_rq)
  · rw [upd_ne n5.symm]; exact h.sa'
  · rw [upd_ne n6.symm]; exact h.pa'
theorem LS.ask (h : LS H tp s tr da sa pa F α ds xs sl pl) {F' : Fm} {α' : TA} (t : TR H' tr F' α') (lf : Left F α H H') (own : ∀ b, Own F' α' b → Own F α b ∨ H b = none) : LS H' tp s tr da sa pa F' α' ds xs sl pl ∧ TS H H' := by
  have inO : ∀ q, (F q).isSome = true → Own F α (α.inn q) := fun q h => ⟨q, h, .inr rfl⟩
  have notin : ∀ b o, H b = some o → (∀ kvs, o ≠ .dK kvs) → (∀ ws : List Int, o ≠ .lst (ws.map V.int)) → H' b = some o := fun b o e n1 n2 => lf b o e fun q hq z => by
    rcases h.tr.kind (inO q hq) with ⟨kvs, w⟩ | ⟨ws, w⟩
    · rw [← z, e] at w; exact n1 kvs (Option.some.inj w)
    · rw [← z, e] at w; exact n2 ws (Option.some.inj w)
  have ts : TS H H' := fun b xs e => notin b _ e (fun _ z => by cases z) (fun _ z => by cases z)
  have st : ∀ b o, H b = some o → (∀ q, Own F α q → q ≠ b) → H' b = some o := fun b o e n => lf b o e fun q hq z => n _ (inO q hq) z.symm
  refine ⟨⟨?_, t, fun b hb => ?_, st _ _ h.da' fun q w => (h.own q w).2.1, h.dd.ts ts (tonly_rqs ds), st _ _ h.sa' fun q w => (h.own q w).2.2.1, st _ _ h.pa' fun q w => (h.own q w).2.2.2, h.ne⟩, ts⟩
  · obtain ⟨us, j, r, z, ha, hs, y⟩ := id h.tape
    exact ⟨us, j, r, z, st _ _ ha fun q w => h.not_tp w, st _ _ hs fun q w => (h.own q w).1, y⟩
  · rcases own b hb with w | w
    · exact h.own b w
    · obtain ⟨us, j, r, z, ha, hs, y⟩ := id h.tape
      refine ⟨fun z => ?_, fun z => ?_, fun z => ?_, fun z => ?_⟩
      · rw [z, hs] at w; cases w
      · rw [z, h.da'] at w; cases w
      · rw [z, h.sa'] at w; cases w
      · rw [z, h.pa'] at w; cases w
end
theorem PF.start : PF [] [] [] 0 := ⟨rfl, fun t => by rw [List.nil_append]; cases My.dec t <;> rfl, fun x hx => (by cases hx), Nat.le_refl _, Nat.le_refl _⟩
theorem PF.skip {ds : List Deed} {sl pl : List Int} {n : Nat} (h : PF ds sl pl n) : PF ds sl pl (n + 1) := ⟨h.st, h.dec, h.wpl, by have := h.lpl; omega, by have := h.lds; omega⟩
theorem PF.step {ds : List Deed} {sl pl : List Int} {n : Nat} (h : PF ds sl pl n) {d : Deed} (g : goodDd d) {k : Nat} (hk : k ≤ 2) : PF (ds ++ [d]) (sl ++ enc d) (pl ++ List.replicate k 0 ++ enc d) (n + 1) := by
  obtain ⟨e1, e2⟩ := g.enc
  refine ⟨by rw [h.st, List.flatMap_append]; simp, fun t => ?_, (h.wpl.app fun x hx => ?_).app e2, ?_, by have := h.lds; rw [List.length_append, List.length_singleton]; omega⟩
  · rw [List.append_assoc, List.append_assoc, h.dec, dec_zeros, dec_enc g.deed g.good]
    cases My.dec t with
    | none => rfl
    | some y => show some (ds ++ d :: y) = some (ds ++ [d] ++ y); rw [List.append_assoc]; rfl
  · rw [List.eq_of_mem_replicate hx]; exact ⟨by decide, by decide⟩
  · have := h.lpl
    rw [List.length_append, List.length_append, List.length_replicate]; omega
theorem flat_len {ds : List Deed} (h : ∀ d ∈ ds, goodDd d) : (ds.flatMap enc).length ≤ 16 * ds.length := by
  induction ds with
  | nil => exact Nat.le_refl _
  | cons d ds ih =>
    have := ih fun e he => h e (List.mem_cons_of_mem _ he)
    have h1 := (h d List.mem_cons_self).enc.1
    rw [List.flatMap_cons, List.length_append, List.length_cons]; omega
end My

namespace My
open PySem L2
local macro_rules | `(tactic| walk_at "ne") => `(tactic| first | assumption | exact Ne.symm (by assumption) | exact ne_of_none (by assumption) (by assumption) | exact Ne.symm (ne_of_none (by assumption) (by assumption)))
local macro_rules | `(tactic| walk_at "hp") => `(tactic| first | assumption | with_reducible exact upd_same | (with_reducible refine Eq.trans (upd_ne ?_) ?_; rotate_left; walk_at "hp"; walk_at "ne"))
local macro_rules | `(tactic| walk_at "cnd") => `(tactic| first | omega | (show (0 : Int) < _; omega) | exact ⟨by omega, by omega⟩ | exact Or.inl ⟨by omega, by omega⟩ | exact Or.inr ⟨by omega, by omega⟩ | exact ⟨by omega, by omega, by decide⟩ | exact ⟨by omega, by omega, by omega⟩)
local macro_rules | `(tactic| walk_at "at") => `(tactic| first | exact atC 0 rfl rfl | exact atC 1 rfl rfl | exact atC 2 rfl rfl | exact atC 3 rfl rfl | exact atC 4 rfl rfl | exact atC 5 rfl rfl | exact atC 6 rfl rfl | exact atC 7 rfl rfl)
local macro_rules | `(tactic| walk_at "ix") => `(tactic| first | exact ixC 0 rfl (Nat.le_of_ble_eq_true rfl) | exact ixC 1 rfl (Nat.le_of_ble_eq_true rfl) | exact ixC 2 rfl (Nat.le_of_ble_eq_true rfl) | exact ixC 3 rfl (Nat.le_of_ble_eq_true rfl) | exact ixC 4 rfl (Nat.le_of_ble_eq_true rfl) | exact ixC 5 rfl (Nat.le_of_ble_eq_true rfl))
local macro_rules | `(tactic| walk_at "st") => `(tactic| first
  | refine ⟨_, rfl, ?_⟩
  | refine ⟨_, _, rfl, rfl, (by walk_at "cnd" : (_ : Prop)), ?_⟩
  | refine ⟨_, _, rfl, rfl, ?_⟩
  | refine ⟨rfl, ?_⟩
  | refine Or.inl ⟨_, rfl, ?_⟩
  | refine ⟨_, _, _, _, rfl, rfl, by exact SqL.of (by walk_at "hp"), by walk_at "at", ?_⟩
  | refine ⟨_, _, _, _, rfl, rfl, by exact SqT.of (by walk_at "hp"), by walk_at "at", ?_⟩
  | refine ⟨_, _, _, _, rfl, rfl, by walk_at "hp", by walk_at "ix", ?_⟩
  | refine ⟨_, _, rfl, Or.inl (by exact SqL.of (by walk_at "hp")), ?_⟩
  | refine ⟨_, _, rfl, Or.inr (by exact SqT.of (by walk_at "hp")), ?_⟩)
local macro_rules | `(tactic| walk_at "so") => `(tactic| first
  | refine ⟨_, _, _, _, _, rfl, by walk_at "hp", by assumption, by assumption, rfl, ?_⟩
  | refine ⟨_, _, _, _, rfl, by walk_at "hp", by assumption, by assumption, Nat.le_of_ble_eq_true rfl, ?_⟩
  | refine ⟨_, _, _, rfl, by walk_at "hp", rfl, ?_⟩
  | walk_at "st")
local macro_rules | `(tactic| walk_at "ro") => `(tactic| repeat walk_at "so")
local macro_rules | `(tactic| walk_at "run") => `(tactic| repeat walk_at "st")

theorem len_flat (ds : List Deed) : ds.length ≤ (ds.flatMap enc).length := by
  induction ds with
  | nil => exact Nat.zero_le _
  | cons d ds ih =>
    have := enc_pos d
    rw [List.flatMap_cons, List.length_append, List.length_cons]; omega
theorem tonly_path (p : List Int) : tonly (pthD p) = true := by
  have ti : tonlyAll (p.map PyData.int) = true := by
    induction p with
    | nil => unfold tonlyAll; rfl
    | cons n p ih =>
      rw [List.map_cons]
      unfold tonlyAll tonly
      rw [ih]; rfl
  unfold pthD tonly
  exact ti
theorem tonly_paths (ps : List (List Int)) : tonlyAll (ps.map pthD) = true := by
  induction ps with
  | nil => unfold tonlyAll; rfl
  | cons n ps ih =>
    rw [List.map_cons]
    unfold tonlyAll
    rw [ih, tonly_path n]; rfl
theorem paired_paths {H : Hp} : ∀ {ys : List V} {ps : List (List Int)}, DtAll H ys (ps.map pthD) → Paired (fun x p => ∃ t, x = V.ref t ∧ H t = some (.tup (p.map V.int))) ys ps
  | [], [], _ => .nil
  | y :: ys, p :: ps, h => by
    cases h with
    | cons h1 h2 => exact .cons (path_of h1) (paired_paths h2)
  | [], _ :: _, h => by cases h
  | _ :: _, [], h => by cases h
theorem cut_to (st : List Int) (k : Nat) : cutV (st.map V.int) none (some (k : Int)) = (st.take k).map V.int := by
  have := cut_int st 0 k
  rw [List.drop_zero] at this
  rw [← this]
  show _ = cutV _ (some ((0 : Nat) : Int)) (some (((0 : Nat) : Int) + (k : Int)))
  rw [show ((0 : Nat) : Int) + (k : Int) = (k : Int) by omega]; rfl
theorem F0_d3 (q : List Int) (h : (F0 q).isSome = true) : q.length ≤ 3 := by
  unfold F0 at h
  by_cases z : q = []
  · rw [z]; exact Nat.zero_le _
  · rw [if_neg z] at h; cases h
def spLaw (K : PySem.W.Frag) : Sp := fun vs H Q _ => ∃ (a : Addr) (ns : List Int), vs = [.ref a] ∧ SqL K H a (ns.map V.int) ∧ ∀ H', Q (.bl true) H'
section
variable {P : Program} {w : World} {K : PySem.W.Frag} {mg : Str → Option Value} {base : Heap} {A_PARTS : Addr}
abbrev s_law : Stmt := topS 50
abbrev ns_law : List Str := ["script", "tape", "tree", "deeds", "stream", "spread", "turn", "request", "image", "made", "deed", "paths", "parts", "joined", "part", "bent"]
theorem sc_law : FnScope ns_law ["script"] (defScope s_law) := ⟨rfl, rfl, rfl, by decide +kernel, rfl, by decide +kernel, by decide +kernel⟩

theorem ok_law {f : Addr} {fd : FuncData} (F : Fun K "law" "law" s_law f fd) (T : Txt K mg  w A_PARTS) (D_new_tree : Dfn P w K mg base CX0 1 "new_tree" [] spNew) (D_law_next : Dfn P w K mg base CX0 1 "_law_next" ["tape", "many"] spNext) (D_law_request : Dfn P w K mg base CX0 2 "_law_request" ["tape"] spRequest)
    (D_ask : Dfn P w K mg base CX0 4 "ask" ["tree", "request"] spAsk) (D_written : Dfn P w K mg base CX0 1 "written" ["deed"] spWritten) (D_deeds_of : Dfn P w K mg base CX0 7 "deeds_of" ["stream"] spDeeds) (D_tree_of : Dfn P w K mg base CX0 8 "tree_of" ["stream"] spTree) (D_image_of : Dfn P w K mg base CX0 2 "image_of" ["tree"] spImage)
    (D_parts_of : Dfn P w K mg base CX0 1 "parts_of" ["stream"] spParts7) (D_law_due : Dfn P w K mg base CX0 4 "_law_due" ["stream"] spDeeds) (D_law_bent : Dfn P w K mg base CX0 2 "_law_bent" ["tape", "stream"] spBent) : FnOk P w K mg base CX0 9 f fd ["script"] (spLaw K) := by
  refine F.ok sc_law (fun vs H Q E h => ?_) (fun cdv A outer s H vs Q E hr h => ?_)
  · obtain ⟨a, ns, rfl, _⟩ := h
    rfl
  · obtain ⟨a, ns, rfl, hS, k⟩ := h
    refine ⟨_, (pss_cons (ps_set (i := 1) sc_law.nd rfl (Or.inl rfl) (pe_lst (pa_cons (pe_callTy (kListOf K) (by rfl) T.b_list (by decide +kernel) (pa_cons (pv 0) pa_nil)) (pa_cons pe_int (pa_cons pe_int (pa_cons pe_int pa_nil))))))
  (pss_cons (ps_set (i := 2) sc_law.nd rfl (Or.inl rfl) (pe_dcall0 D_new_tree (hr.mono (by decide)) (by rfl) pass0))
  (pss_cons (ps_set (i := 3) sc_law.nd rfl (Or.inl rfl) (pe_lst pa_nil))
  (pss_cons (ps_set (i := 4) sc_law.nd rfl (Or.inl rfl) (pe_lst pa_nil))
  (pss_cons (ps_set (i := 5) sc_law.nd rfl (Or.inl rfl) (pe_lst pa_nil))
  (pss_cons (ps_for PassesOwn.never (by rfl) (pi_range1 (by rfl) T.b_range (pa_cons (pe_dcall D_law_next (hr.mono (by decide)) (by rfl) pass0 (pa_cons (pv 1) (pa_cons pe_int pa_nil))) pa_nil)) (pg_name (i := 6) sc_law.nd rfl (Or.inl rfl)) (pss_cons (ps_set (i := 7) sc_law.nd rfl (Or.inl rfl) (pe_dcall D_law_request (hr.mono (by decide)) (by rfl) pass0 (pa_cons (pv 1) pa_nil)))
  (pss_one (ps_if (pt_cmpR op_eq (pe_ix (kIxT K) (pe_dcall D_ask (hr.mono (by decide)) (by rfl) pass0 (pa_cons (pv 2) (pa_cons (pv 7) pa_nil))) pe_int (fun _ _ => rfl)) pe_str (nomark _)) (pss_cons (ps_expr (kBM K PySem.F.plainAttrs_list PySem.F.slot_list_append PySem.F.type_list_append mt_append (pv 3) (pa_cons (pv 7) pa_nil)))
  (pss_cons (ps_set (i := 4) sc_law.nd rfl (Or.inl rfl) (pe_op op_cat (pv 4) (pe_dcall D_written (hr.mono (by decide)) (by rfl) pass0 (pa_cons (pv 7) pa_nil))))
  (pss_one (ps_set (i := 5) sc_law.nd rfl (Or.inl rfl) (pe_op op_cat (pe_op op_cat (pv 5) (pe_op op_rep (pe_lst (pa_cons pe_int pa_nil)) (pe_dcall D_law_next (hr.mono (by decide)) (by rfl) pass0 (pa_cons (pv 1) (pa_cons pe_int pa_nil))))) (pe_dcall D_written (hr.mono (by decide)) (by rfl) pass0 (pa_cons (pv 7) pa_nil))))))) pss_nil))))
  (pss_cons (ps_if (PW.pt (pw_or (pt_cmpR (kNeD K hr.units) (pe_dcall D_deeds_of (hr.mono (by decide)) (by rfl) pass0 (pa_cons (pv 4) pa_nil)) (pv 3) (nomark _)) (pw_or (pt_cmpR (kNeD K hr.units) (pe_dcall D_deeds_of (hr.mono (by decide)) (by rfl) pass0 (pa_cons (pe_op op_cat (pv 5) (pe_lst (pa_cons pe_int (pa_cons pe_int pa_nil)))) pa_nil)) (pv 3) (nomark _)) (pw_or1 (pt_cmpR (op_neV K (units65 hr)) (pe_dcall D_tree_of (hr.mono (by decide)) (by rfl) pass0 (pa_cons (pv 5) pa_nil)) (pv 2) (nomark _)))))) (pss_one (ps_ret pe_bl)) pss_nil)
  (pss_cons (ps_set (i := 8) sc_law.nd rfl (Or.inl rfl) (pe_dcall D_image_of (hr.mono (by decide)) (by rfl) pass0 (pa_cons (pv 2) pa_nil)))
  (pss_cons (ps_set (i := 9) sc_law.nd rfl (Or.inl rfl) (pe_dcall D_deeds_of (hr.mono (by decide)) (by rfl) pass0 (pa_cons (pv 8) pa_nil)))
  (pss_cons (ps_if (PW.pt (pw_or (pt_cmpR (op_neV K (units65 hr)) (pe_dcall D_tree_of (hr.mono (by decide)) (by rfl) pass0 (pa_cons (pv 8) pa_nil)) (pv 2) (nomark _)) (pw_or1 (pt_cmpR op_gt (pe_callB (kLen K) (by rfl) T.b_len (by decide +kernel) (pa_cons (pe_lc (own := [("deed", 10)]) (by rfl) sc_law.nd (kpiL K (pv 9)) (blkOk_by (N := ns_law) (sc := defScope s_law) (by decide +kernel)) (fun _ _ _ _ _ => (pg_name (i := 10) sc_law.nd rfl (Or.inl rfl))) (fun _ _ _ _ _ => (pts_one (pt_cmpR (kNotIn K) (pe_ix (kIxT K) (pv 10) pe_int (fun _ _ => rfl)) (pe_tup (pa_cons pe_str (pa_cons pe_str pa_nil))) (by rfl)))) (fun _ _ _ _ _ => (pv 10))) pa_nil)) pe_int (nomark _))))) (pss_one (ps_ret pe_bl)) pss_nil)
  (pss_cons (ps_setLc (i := 11) (own := [("deed", 10)]) (by rfl) sc_law.nd rfl rfl (sw_true rfl rfl rfl (by decide +kernel)) (kpiL K (pv 9)) (blkOk_by (N := ns_law) (sc := defScope s_law) (by decide +kernel)) (fun _ _ _ _ _ => (pg_name (i := 10) sc_law.nd rfl (Or.inl rfl))) (fun _ _ _ _ _ => (pts_one (pt_cmpR op_eq (pe_ix (kIxT K) (pv 10) pe_int (fun _ _ => rfl)) pe_str (nomark _)))) (fun _ _ _ _ _ => (pe_ix (kIxT K) (pv 10) pe_int (fun _ _ => rfl))))
  (pss_cons (ps_if (PW.pt (pw_or (pt_cmpR (kNeD K hr.units) (pv 11) (pe_callB (cr_sortedTA K) (by rfl) T.b_sorted (by decide +kernel) (pa_cons (pv 11) pa_nil)) (nomark _)) (pw_or1 (pt_cmpR (kNeD K hr.units) (pe_dcall D_law_due (hr.mono (by decide)) (by rfl) pass0 (pa_cons (pv 4) pa_nil)) (pv 3) (nomark _))))) (pss_one (ps_ret pe_bl)) pss_nil)
  (pss_cons (ps_set (i := 12) sc_law.nd rfl (Or.inl rfl) (pe_dcall D_parts_of (hr.mono (by decide)) (by rfl) pass0 (pa_cons (pv 4) pa_nil)))
  (pss_cons (ps_set (i := 13) sc_law.nd rfl (Or.inl rfl) (pe_lst pa_nil))
  (pss_cons (ps_for PassesOwn.never (by rfl) (kpiL K (pv 12)) (pg_name (i := 14) sc_law.nd rfl (Or.inl rfl)) (pss_cons (ps_if (PW.pt (pw_or (pt_not (pt_val (pe_callB (kIsi K) (by rfl) T.b_isinstance (by decide +kernel) (pa_cons (pv 14) (pa_cons (pe_bltn (v := .ty "tuple") (by rfl) T.b_tuple (by decide +kernel) rfl) pa_nil))))) (pw_or1 (pt_cmpR op_ne (pe_callB (kLen K) (by rfl) T.b_len (by decide +kernel) (pa_cons (pv 14) pa_nil)) pe_int (nomark _))))) (pss_one (ps_ret pe_bl)) pss_nil)
  (pss_one (ps_set (i := 13) sc_law.nd rfl (Or.inl rfl) (pe_op op_cat (pv 13) (pe_callTy (kListOf K) (by rfl) T.b_list (by decide +kernel) (pa_cons (pv 14) pa_nil)))))))
  (pss_cons (ps_if (PW.pt (pw_or (pt_cmpR op_ne (pe_callB (kLen K) (by rfl) T.b_len (by decide +kernel) (pa_cons (pv 12) pa_nil)) (pe_op op_fdiv (pe_op op_add (pe_callB (kLen K) (by rfl) T.b_len (by decide +kernel) (pa_cons (pv 4) pa_nil)) pe_int) pe_int) (nomark _)) (pw_or (pt_cmpR (kNeD K hr.units) (pe_slice (kSlL K) (pv 13) po_none (po_some (pe_callB (kLen K) (by rfl) T.b_len (by decide +kernel) (pa_cons (pv 4) pa_nil)))) (pv 4) (nomark _)) (pw_or1 (pt_cmpR op_ne (pe_callB (kSum K rfl) (by rfl) T.b_sum (by decide +kernel) (pa_cons (pe_slice (kSlL K) (pv 13) (po_some (pe_callB (kLen K) (by rfl) T.b_len (by decide +kernel) (pa_cons (pv 4) pa_nil))) po_none) pa_nil)) pe_int (nomark _)))))) (pss_one (ps_ret pe_bl)) pss_nil)
  (pss_cons (ps_for PassesOwn.never (by rfl) (pi_range1 (by rfl) T.b_range (pa_cons pe_int pa_nil)) (pg_name (i := 6) sc_law.nd rfl (Or.inl rfl)) (pss_cons (ps_set (i := 15) sc_law.nd rfl (Or.inl rfl) (pe_dcall D_law_bent (hr.mono (by decide)) (by rfl) pass0 (pa_cons (pv 1) (pa_cons (pv 4) pa_nil))))
  (pss_one (ps_if (pt_cmpR (kNeD K hr.units) (pe_dcall D_deeds_of (hr.mono (by decide)) (by rfl) pass0 (pa_cons (pv 15) pa_nil)) (pe_dcall D_law_due (hr.mono (by decide)) (by rfl) pass0 (pa_cons (pv 15) pa_nil)) (nomark _)) (pss_one (ps_ret pe_bl)) pss_nil))))
  (pss_one (ps_ret (pe_and (pe_cmpR op_isN (pe_dcall D_tree_of (hr.mono (by decide)) (by rfl) pass0 (pa_cons (pe_lst (pa_cons pe_int (pa_cons pe_int (pa_cons pe_int pa_nil)))) pa_nil)) pe_non (nomark _)) (pe_one (pe_cmpR (op_eqV hr.units) (pe_dcall D_tree_of (hr.mono (by decide)) (by rfl) pass0 (pa_cons (pe_lst pa_nil) pa_nil)) (pe_dcall0 D_new_tree (hr.mono (by decide)) (by rfl) pass0) (nomark _))))))))))))))))))))))), ?_⟩
    refine ⟨_, rfl, _, _, rfl, .inl hS, fun p hp => ⟨szl rfl, fun tp htp => ?_⟩⟩
    have T0 : Tape (upd (upd H p (.lst (ns.map V.int))) tp (.lst [.ref p, .int 0, .int 0, .int 11])) tp p :=
      ⟨ns, 0, 0, 11, upd_same, Same.new htp _ _ upd_same, by decide, by decide, by decide, by decide⟩
    generalize upd (upd H p (.lst (ns.map V.int))) tp (.lst [.ref p, .int 0, .int 0, .int 11]) = G0 at T0
    refine ⟨rfl, fun tr d hd1 htr hd G1 s1 g1 g2 => ?_⟩
    have t1 : TR G1 tr F0 _ := TR.new0 hd1 g1 g2
    have T1 := T0.same s1
    clear g1 g2
    refine ⟨szl rfl, fun da hda => ?_⟩
    have sA := Same.new (o := .lst []) hda
    have hdA : (upd G1 da (.lst [])) da = some (.lst []) := upd_same
    generalize upd G1 da (.lst []) = GA at sA hdA
    refine ⟨szl rfl, fun sa hsa => ?_⟩
    have sB := Same.new (o := .lst []) hsa
    have hsB : (upd GA sa (.lst [])) sa = some (.lst []) := upd_same
    generalize upd GA sa (.lst []) = GB at sB hsB
    refine ⟨szl rfl, fun pa hpa => ?_⟩
    have sC := Same.new (o := .lst []) hpa
    have hpC : (upd GB pa (.lst [])) pa = some (.lst []) := upd_same
    generalize upd GB pa (.lst []) = GC at sC hpC
    have ls0 : LS GC tp p tr da sa pa F0 ⟨fun _ => tr, fun _ => d⟩ [] [] [] [] := by
      have sBC := sB.trans sC
      have sAC := sA.trans sBC
      have TA' := T1.same sA
      have TB := TA'.same sB
      refine ⟨TB.same sC, t1.same sAC, fun b hb => ⟨fun e => ?_, fun e => ?_, fun e => ?_, fun e => ?_⟩, sBC _ _ hdA, .nil, sC _ _ hsB, hpC, T1.at hda, TA'.at hsa, TB.at hpa, T1.at2 hda, ne_of_none hdA hsa, ne_of_none (sB _ _ hdA) hpa⟩
      · obtain ⟨us, j, r, z, ha, hs, _⟩ := T0
        obtain ⟨_, _, w⟩ := hb
        rcases w with w | w
        · have w : b = tr := w
          rw [← w, e, hs] at htr; cases htr
        · have w : b = d := w
          rw [← w, e, hs] at hd; cases hd
      · obtain ⟨o, ho⟩ := t1.live hb
        rw [e, hda] at ho; cases ho
      · obtain ⟨o, ho⟩ := (t1.same sA).live hb
        rw [e, hsa] at ho; cases ho
      · obtain ⟨o, ho⟩ := ((t1.same sA).same sB).live hb
        rw [e, hpa] at ho; cases ho
    clear t1 T1 T0
    refine ⟨_, rfl, tp, p, 30, rfl, by decide, by decide, ls0.tape, fun nn G4 n0 n30 t4 c4 => ?_⟩
    have ls4 := ls0.chg t4 c4
    refine ⟨_, rfl, by omega, by omega, for_range (fun i σ G => ∃ (sa pa : Addr) (F : Fm) (α : TA) (ds : List Deed) (xs : List V) (sl pl : List Int) (v6 v7 : Option V), σ = [some (.ref a), some (.ref tp), some (.ref tr), some (.ref da), some (.ref sa), some (.ref pa), v6, v7, none, none, none, none, none, none, none, none] ∧ LS G tp p tr da sa pa F α ds xs sl pl ∧ Nice ds F ∧ PF ds sl pl i) ?_ ?_ ?_⟩
    · exact ⟨sa, pa, F0, _, [], [], [], [], none, none, rfl, ls4, Nice.start, PF.start⟩
    · clear ls4 ls0 t4 c4
      rintro i σ G hi ⟨sa, pa, F, α, ds, xs, sl, pl, v6, v7, rfl, ls, nc, pf⟩
      have i30 : i < 30 := by omega
      refine ⟨_, rfl, tp, p, rfl, ls.tape, fun rv d G5 hrq gd t5 c5 => ?_⟩
      have ls5 := ls.chg t5 c5
      have lds := pf.lds
      have few : Few F := fun q ns e => by have := nc.cap q ns e; omega
      refine ⟨_, rfl, _, rfl, tr, F, α, rv, d.1, d.2, rfl, ls5.tr, few, hrq, good_ok gd.good gd.deed, fun v G6 α' t6 lf own6 hv => ?_⟩
      obtain ⟨ls6, ts⟩ := ls5.ask t6 lf own6
      have hrq6 : Dt G6 rv (rqDD d) := hrq.ts ts tonly_rq
      obtain ⟨z, rr, ez, hz⟩ := due_head (F := F) (p := d.1) (r := d.2)
      rw [ez] at hv
      obtain ⟨va, y1, y2, rfl, hva, hy1, hy2⟩ := hv.tup2
      cases hy1
      refine ⟨_, _, _, _, rfl, rfl, SqT.of hva, atC 0 rfl rfl, rfl, _, rfl, ?_⟩
      rcases hz with rfl | rfl
      · have ok : isOkD (due F d.1 d.2).1 = true := by rw [ez]; rfl
        have nc' := nc.step gd ok
        refine iteT ?_
        have hl : xs.length = ds.length := by rw [ls6.dd.len, List.length_map]
        refine ⟨_, rfl, .inl ⟨rfl, _, SqL.of ls6.da'⟩, _, rfl, da, xs, _, rfl, rfl, ls6.da', szt (by omega), ?_⟩
        have ls7 := ls6.push hrq6
        have hrq7 : Dt _ rv (rqDD d) := hrq6.ts (ls6.ts_da (.lst (xs ++ [rv]))) tonly_rq
        generalize upd G6 da (.lst (xs ++ [rv])) = G7 at ls7 hrq7
        have l1 : sl.length ≤ 16 * ds.length := by rw [pf.st]; exact flat_len nc.good
        have l2 := pf.lpl
        have l3 : (enc (d.1, d.2)).length ≤ 16 := gd.enc.1
        refine ⟨_, rfl, _, rfl, rv, d.1, d.2, rfl, hrq7, gd.deed, gd.small, fun q G8 s8 _ hq8 => ?_⟩
        have ls8 := ls7.same s8
        refine ⟨sa, q, _, _, rfl, rfl, ls8.sa', hq8, szn (by rw [List.length_map, List.length_map]; omega), fun q2 hq2 => ?_⟩
        rw [← List.map_append]
        have ls9 := ls8.newS hq2 (sl ++ enc d)
        have hrq9 : Dt _ rv (rqDD d) := (hrq7.same s8).same (Same.new (o := .lst ((sl ++ enc d).map V.int)) hq2)
        generalize upd G8 q2 (.lst ((sl ++ enc d).map V.int)) = G9 at ls9 hrq9
        refine ⟨_, rfl, szl rfl, fun z0 hz0 => ⟨_, rfl, tp, p, 3, rfl, by decide, by decide, (ls9.same (Same.new hz0)).tape, fun u GD u0 u3 tD cD => ?_⟩⟩
        have nz := ls9.tape.at hz0
        have hzD := cD _ _ nz (upd_same (H := G9) (a := z0) (o := .lst [.int 0]))
        have lsD := (ls9.same (Same.new (o := .lst [.int 0]) hz0)).chg tD cD
        have hrqD : Dt GD rv (rqDD d) := (hrq9.same (Same.new (o := .lst [.int 0]) hz0)).ts ((ls9.same (Same.new (o := .lst [.int 0]) hz0)).tape.ts cD) tonly_rq
        obtain ⟨m, rfl⟩ := Int.eq_ofNat_of_zero_le u0
        refine ⟨z0, _, _, rfl, rfl, hzD, by omega, by omega, szn (by rw [Int.toNat_natCast, List.length_singleton]; omega), fun z1 hz1 => ?_⟩
        have er : (List.replicate ((m : Int)).toNat [V.int 0]).flatten = (List.replicate m (0 : Int)).map V.int := by
          rw [Int.toNat_natCast]
          generalize m = m
          induction m with
          | zero => rfl
          | succ m ih => rw [List.replicate_succ, List.flatten_cons, ih, List.replicate_succ, List.map_cons]; rfl
        rw [er]
        have sE := Same.new (o := .lst ((List.replicate m (0 : Int)).map V.int)) hz1
        have lsE := lsD.same sE
        have hzE : (upd GD z1 (.lst ((List.replicate m (0 : Int)).map V.int))) z1 = some (.lst ((List.replicate m (0 : Int)).map V.int)) := upd_same
        have hrqE : Dt _ rv (rqDD d) := hrqD.same sE
        generalize upd GD z1 (.lst ((List.replicate m (0 : Int)).map V.int)) = GE at lsE hzE hrqE
        refine ⟨pa, z1, _, _, rfl, rfl, lsE.pa', hzE, szn (by rw [List.length_map, List.length_map, List.length_replicate]; omega), fun z2 hz2 => ?_⟩
        rw [← List.map_append]
        have sF := Same.new (o := .lst ((pl ++ List.replicate m 0).map V.int)) hz2
        have lsF := lsE.same sF
        have hzF : (upd GE z2 (.lst ((pl ++ List.replicate m 0).map V.int))) z2 = some (.lst ((pl ++ List.replicate m 0).map V.int)) := upd_same
        have hrqF : Dt _ rv (rqDD d) := hrqE.same sF
        generalize upd GE z2 (.lst ((pl ++ List.replicate m 0).map V.int)) = GF at lsF hzF hrqF
        refine ⟨_, rfl, rv, d.1, d.2, rfl, hrqF, gd.deed, gd.small, fun q3 GG sG _ hq3 => ?_⟩
        have lsG := lsF.same sG
        refine ⟨z2, q3, _, _, rfl, rfl, sG _ _ hzF, hq3, szn (by rw [List.length_map, List.length_map, List.length_append, List.length_replicate]; omega), fun q4 hq4 => ?_⟩
        rw [← List.map_append]
        exact ⟨q2, q4, _, _, _, _, _, _, _, _, rfl, lsG.newP hq4 (pl ++ List.replicate m 0 ++ enc d), nc', pf.step gd (by omega)⟩
      · have nok : isOkD (due F d.1 d.2).1 = false := by
          rw [ez]
          show decide (("no" : Str) = "ok") = false
          decide +kernel
        have eF := due_same nok
        refine iteF ⟨sa, pa, _, _, ds, xs, sl, pl, _, _, rfl, ls6, by rw [eF]; exact nc, pf.skip⟩
    · clear ls4 ls0 t4 c4 sA sB sC hdA hsB hpC hda hsa hpa
      rintro σ G ⟨sa, pa, F, α, ds, xs, sl, pl, v6, v7, rfl, ls, nc, pf⟩
      have n29 : nn.toNat ≤ 29 := by omega
      have lds := pf.lds
      have lpl := pf.lpl
      have lsl : sl.length ≤ 464 := by have := flat_len nc.good; rw [← pf.st] at this; omega
      have gds : ∀ d ∈ ds, isDeed d.2 ∧ goodD d = true := fun d hd => ⟨(nc.good d hd).deed, (nc.good d hd).good⟩
      have wsl : Wds sl := by rw [pf.st]; exact wds_flat fun d hd => (nc.good d hd).enc.2
      have edec : dec sl = some ds := by rw [pf.st]; exact dec_all gds
      have d3 : ∀ q, (F q).isSome = true → q.length ≤ 3 := fun q hq => (nc.box hq).1
      -- the deeds of the stream
      refine ⟨_, rfl, sa, sl, rfl, ls.sa', wsl, by omega, fun en => (by rw [edec] at en; cases en), fun ds1 en q1 H1 s1 _ hd1 => ?_⟩
      rw [edec] at en
      cases en
      have ls1 := ls.same s1
      refine ⟨_, rfl, dsD ds, dsD ds, hd1.dp, (Dt.lst ls1.da' ls1.dd).dp, shaped_ds _, shaped_ds _, _, rfl, ?_⟩
      rw [eqv_self (shaped_ds _)]
      -- with zeros between them
      refine iteF ⟨_, rfl, szl rfl, fun z hz => ?_⟩
      refine ⟨pa, z, _, _, rfl, rfl, Same.new hz _ _ ls1.pa', upd_same, szn (by rw [List.length_map]; show pl.length + 2 ≤ 100000; omega), fun z2 hz2 => ?_⟩
      have ez : pl.map V.int ++ [V.int 0, V.int 0] = (pl ++ [0, 0]).map V.int := by rw [List.map_append]; rfl
      rw [ez]
      have s2 := (Same.new (o := .lst [.int 0, .int 0]) hz).trans (Same.new (o := .lst ((pl ++ [0, 0]).map V.int)) hz2)
      have hz2' : (upd (upd H1 z (.lst [.int 0, .int 0])) z2 (.lst ((pl ++ [0, 0]).map V.int))) z2 = some (.lst ((pl ++ [0, 0]).map V.int)) := upd_same
      generalize upd (upd H1 z (.lst [.int 0, .int 0])) z2 (.lst ((pl ++ [0, 0]).map V.int)) = H2 at s2 hz2'
      have edec2 : dec (pl ++ [0, 0]) = some ds := by
        rw [pf.dec, show dec [0, 0] = some [] from rfl]
        show some (ds ++ []) = _
        rw [List.append_nil]
      refine ⟨z2, _, rfl, hz2', pf.wpl.app fun x hx => ?_, by rw [List.length_append]; show pl.length + 2 ≤ 4000; omega, fun en => (by rw [edec2] at en; cases en), fun ds2 en q2 H3 s3 _ hd2 => ?_⟩
      · rcases List.mem_cons.mp hx with e | hx
        · rw [e]; exact ⟨by decide, by decide⟩
        · rw [List.mem_singleton.mp hx]; exact ⟨by decide, by decide⟩
      rw [edec2] at en
      cases en
      have ls3 := (ls1.same s2).same s3
      refine ⟨_, rfl, dsD ds, dsD ds, hd2.dp, (Dt.lst ls3.da' ls3.dd).dp, shaped_ds _, shaped_ds _, _, rfl, ?_⟩
      rw [eqv_self (shaped_ds _)]
      -- the tree of it
      have edec3 : dec pl = some ds := by
        have := pf.dec []
        rw [List.append_nil, dec_nil] at this
        rw [this]
        show some (ds ++ []) = _
        rw [List.append_nil]
      have mk60 : mks ds < 60 := by
        have : mks ds ≤ ds.length := List.countP_le_length
        omega
      refine iteF ⟨_, rfl, pa, pl, rfl, ls3.pa', pf.wpl, by omega, fun ds' en => (by rw [edec3] at en; cases en; exact mk60), fun en => (by rw [edec3] at en; have en : runD F0 ds = none := en; rw [nc.run] at en; cases en), fun F' en c β H4 s4 hc t4 own4 => ?_⟩
      rw [edec3] at en
      have en : runD F0 ds = some F' := en
      rw [nc.run] at en
      cases en
      have ls4 := ls3.same s4
      obtain ⟨ks, ks', k1, k2, k3, k4⟩ := eqv_root (K := K) t4 ls4.tr rfl d3
      refine ⟨_, rfl, c, tr, 10, ks, ks', rfl, rfl, by decide, k1, k2, k3, k4, _, rfl, iteF ?_⟩
      -- the image
      have LLlen : (([] : List Int) :: ds.map (·.1)).length ≤ 30 := by rw [List.length_cons, List.length_map]; omega
      refine ⟨_, rfl, tr, F, α, [] :: ds.map (·.1), rfl, ls4.tr, by omega, fun q hq => ?_, d3, fun q ns e => by have := nc.cap q ns e; omega, fun L q5 H5 s5 _ asc mem hq5 => ?_⟩
      · rcases nc.nodes q hq with e | ⟨d, hd, e⟩
        · rw [e]; exact List.mem_cons_self
        · exact List.mem_cons_of_mem _ (List.mem_map.mpr ⟨d, hd, e⟩)
      have ls5 := ls4.same s5
      have Lnd : L.Nodup := asc.imp fun {a b} h e => by rw [e, lexL_irr] at h; cases h
      have L30 : L.length ≤ 30 := Nat.le_trans (nodup_lenD Lnd fun q hq => by
        rcases nc.nodes q ((mem q).mp hq) with e | ⟨d, hd, e⟩
        · rw [e]; exact List.mem_cons_self
        · exact List.mem_cons_of_mem _ (List.mem_map.mpr ⟨d, hd, e⟩)) LLlen
      have ig := img_good nc ls5.tr mem
      have idec : dec ((imgD F L).flatMap enc) = some (imgD F L) := dec_all fun d hd => ⟨(ig d hd).1, (ig d hd).2.1⟩
      have iwd : Wds ((imgD F L).flatMap enc) := wds_flat fun d hd => (ig d hd).2.2.1
      have ilen : ((imgD F L).flatMap enc).length ≤ 4000 := by
        have := imgD_len (F := F) (L := L) fun q hq => ⟨d3 q ((mem q).mp hq), by
          unfold wordsOf
          cases e : F q with
          | none => exact Nat.zero_le _
          | some x =>
            cases x with
            | dir ns => exact Nat.zero_le _
            | file ws => exact (ls5.tr.file q ws e).2.2⟩
        omega
      obtain ⟨FG, hFG, hct⟩ := img_all ls5.tr asc mem
      have imk : mks (imgD F L) < 60 := by have := img_mks F L; omega
      have ipaths := img_paths F L
      generalize himg : imgD F L = im at *
      -- its deeds
      refine ⟨_, rfl, q5, _, rfl, hq5, iwd, ilen, fun en => (by rw [idec] at en; cases en), fun ds6 en q6 H6 s6 _ hd6 => ?_⟩
      rw [idec] at en
      cases en
      have ls6 := ls5.same s6
      -- the tree of it
      refine ⟨_, rfl, q5, _, rfl, s6 _ _ hq5, iwd, ilen, fun ds' en => (by rw [idec] at en; cases en; exact imk), fun en => (by rw [idec] at en; have en : runD F0 im = none := en; rw [hFG] at en; cases en), fun F' en c' β' H7 s7 hc7 t7 own7 => ?_⟩
      rw [idec] at en
      have en : runD F0 im = some F' := en
      rw [hFG] at en
      cases en
      have ls7 := ls6.same s7
      obtain ⟨ms, ms', m1, m2, m3, m4⟩ := eqv_root (K := K) t7 ls7.tr hct fun q hq => d3 q (by rw [← ct_some, ← hct, ct_some]; exact hq)
      refine ⟨_, rfl, c', tr, 10, ms, ms', rfl, rfl, by decide, m1, m2, m3, m4, _, rfl, iteF ?_⟩
      have hd7 := hd6.same s7
      clear hd6 m1 m2 m3 m4 k1 k2 k3 k4
      cases hd7 with
      | @lst _ xs7 _ hx7 hs7 =>
      -- no other deeds
      refine ⟨_, rfl, q6, rfl, ⟨_, SqL.of hx7⟩, fun D hD => lc_list (K := K) (xs := xs7) (fun i G => Same H7 G ∧ G D = some (.lst [])) ⟨Same.new hD, upd_same⟩ (fun i G _ h => SqL.of (h.1 _ _ hx7)) ?_ ?_⟩
      · rintro i x Gf hx ⟨sf, hf⟩
        obtain ⟨dd, hdd, hx'⟩ := hs7.getV hx
        obtain ⟨de, hde, rfl⟩ := map_get hdd
        obtain ⟨_, _, _, _, gk⟩ := ig de (List.mem_of_getElem? hde)
        obtain ⟨va, y, rs, rfl, hva, hy, _⟩ := rq_of hx'
        refine ⟨rfl, ?_⟩
        refine (show _ from ?_)
        refine ⟨_, rfl, _, _, _, _, rfl, rfl, SqT.of (sf _ _ hva), atC 0 rfl rfl, szl rfl, fun u hu => ?_⟩
        refine ⟨u, _, rfl, .inr (SqT.of upd_same), rfl, rfl, _, rfl, ?_⟩
        have : inV (.str (rqW de.2)) [V.str "make", V.str "put"] = true := by
          rcases gk with g | ⟨ws, g⟩
          · obtain ⟨p1, r1⟩ := de
            cases r1 with
            | make b => exact (by decide +kernel : inV (.str "make") [V.str "make", V.str "put"] = true)
            | _ => cases g
          · rw [g]; exact (by decide +kernel : inV (.str "put") [V.str "make", V.str "put"] = true)
        rw [show (if true = true then !inV (.str (rqW de.2)) [V.str "make", V.str "put"] else inV (.str (rqW de.2)) [V.str "make", V.str "put"]) = false by rw [if_pos rfl, this]; rfl]
        exact ⟨sf.trans (Same.new hu), Same.new hu _ _ hf⟩
      rintro H8 ⟨s8, hf8⟩
      refine ⟨_, _, rfl, .inl (SqL.of hf8), _, _, rfl, rfl, _, rfl, iteF ?_⟩
      clear hf8
      have ls8 := ls7.same s8
      have hx8 := s8 _ _ hx7
      have hs8 := hs7.same s8
      -- the paths
      refine ⟨_, rfl, q6, rfl, ⟨_, SqL.of hx8⟩, fun D2 hD2 => lc_list (K := K) (xs := xs7) (fun i G => Same H8 G ∧ ∃ ys, G D2 = some (.lst ys) ∧ ys.length ≤ i ∧ DtAll G ys ((((im.take i).filter fun d => isMk d.2).map (·.1)).map pthD)) ⟨Same.new hD2, [], upd_same, Nat.le_refl _, by rw [List.take_zero]; exact .nil⟩ (fun i G _ h => SqL.of (h.1 _ _ hx8)) ?_ ?_⟩
      · rintro i x Gf hx ⟨sf, ys, hf, hyl, hys⟩
        obtain ⟨dd, hdd, hx'⟩ := hs8.getV hx
        obtain ⟨de, hde, rfl⟩ := map_get hdd
        obtain ⟨_, _, _, _, gk⟩ := ig de (List.mem_of_getElem? hde)
        obtain ⟨va, y, rs, rfl, hva, hy, _⟩ := rq_of hx'
        have il : i < xs7.length := (List.getElem?_eq_some_iff.mp hx).1
        have il2 : im.length ≤ 4000 := Nat.le_trans (len_flat im) ilen
        have xl : xs7.length = im.length := by rw [hs8.len, List.length_map]
        refine ⟨rfl, ?_⟩
        refine (show _ from ?_)
        refine ⟨_, rfl, _, _, _, _, rfl, rfl, SqT.of (sf _ _ hva), atC 0 rfl rfl, rfl, _, rfl, ?_⟩
        rw [← take_snoc hde, List.filter_append]
        rcases gk with g | ⟨ws, g⟩
        · have em : decide (V.str (rqW de.2) = V.str "make") = true := by
            obtain ⟨p1, r1⟩ := de
            cases r1 with
            | make b => exact (by decide +kernel : decide (V.str "make" = V.str "make") = true)
            | _ => cases g
          have ef : (List.filter (fun d : Deed => isMk d.2) [de]) = [de] := by simp [g]
          rw [em, if_pos rfl, ef]
          refine ⟨_, rfl, _, _, _, _, rfl, rfl, SqT.of (sf _ _ hva), atC 1 rfl rfl, ?_⟩
          have ts : TS Gf (upd Gf D2 (.lst (ys ++ [y]))) := fun b zs e => by rw [upd_ne (ne_of e hf (by intro z; cases z))]; exact e
          refine ⟨ys, hf, szt (by omega), Same.mut sf hD2, _, upd_same, by rw [List.length_append, List.length_singleton]; omega, ?_⟩
          rw [List.map_append, List.map_append]
          exact (hys.ts ts (tonly_paths _)).snoc ((dt_path (hy.same sf)).ts ts (tonly_path _))
        · have em : decide (V.str (rqW de.2) = V.str "make") = false := by
            rw [g]; exact (by decide +kernel : decide (V.str "put" = V.str "make") = false)
          have g' : isMk de.2 = false := by rw [g]; rfl
          have ef : (List.filter (fun d : Deed => isMk d.2) [de]) = [] := by simp [g']
          rw [em, if_neg (by decide), ef, List.append_nil]
          exact ⟨sf, ys, hf, by omega, hys⟩
      rintro H9 ⟨s9, ys, hf9, _, hys⟩
      have xl : xs7.length = im.length := by rw [hs8.len, List.length_map]
      rw [xl, List.take_length, ipaths] at hys
      have ls9 := ls8.same s9
      have pne : ∀ q ∈ pthsOf L, q ≠ [] := fun q hq => of_decide_eq_true (List.mem_filter.mp hq).2
      have pasc : (pthsOf L).Pairwise fun a b => lexL a b = true := asc.sublist List.filter_sublist
      generalize pthsOf L = ps at hys pne pasc
      refine ⟨_, rfl, _, rfl, D2, ys, ps, rfl, SqL.of hf9, paired_paths hys, pne, pasc, fun pz hpz => ?_⟩
      have sA := Same.new (o := .lst ys) hpz
      have hzA : (upd H9 pz (.lst ys)) pz = some (.lst ys) := upd_same
      generalize upd H9 pz (.lst ys) = HA at sA hzA
      have lsA := ls9.same sA
      refine ⟨.list (ps.map pthD), .list (ps.map pthD), (Dt.lst (sA _ _ hf9) (hys.same sA)).dp, (Dt.lst hzA (hys.same sA)).dp, shaped_paths _, shaped_paths _, _, rfl, ?_⟩
      rw [eqv_self (shaped_paths _)]
      -- what the law reads
      refine iteF ⟨_, rfl, sa, sl, rfl, lsA.sa', wsl, by omega, fun en => (by rw [edec] at en; cases en), fun ds8 en q8 HB sB _ hd8 => ?_⟩
      rw [edec] at en
      cases en
      have lsB := lsA.same sB
      refine ⟨_, rfl, dsD ds, dsD ds, hd8.dp, (Dt.lst lsB.da' lsB.dd).dp, shaped_ds _, shaped_ds _, _, rfl, ?_⟩
      rw [eqv_self (shaped_ds _)]
      refine iteF ?_
      clear hd8 hys hx8 hs8 hx7 hs7 hf9 hzA ls9 lsA ls8 ls7 ls6 ls5
      -- the parts
      refine ⟨_, rfl, sa, sl, rfl, lsB.sa', by omega, fun qp ts HC sC _ hts tl tt => ?_⟩
      have lsC := lsB.same sC
      refine ⟨szl rfl, fun j0 hj0 => ?_⟩
      have sD := Same.new (o := .lst []) hj0
      have hjD : (upd HC j0 (.lst [])) j0 = some (.lst []) := upd_same
      have lsD := lsC.same sD
      have htsD := sD _ _ hts
      generalize upd HC j0 (.lst []) = HD at sD hjD lsD htsD
      refine ⟨_, rfl, qp, rfl, ⟨_, SqL.of htsD⟩, for_list (xs := ts.map V.ref) (fun i σ H' => ∃ (v14 : Option V) (jj : Addr), σ = [some (.ref a), some (.ref tp), some (.ref tr), some (.ref da), some (.ref sa), some (.ref pa), v6, v7, some (.ref q5), some (.ref q6), none, some (.ref D2), some (.ref qp), some (.ref jj), v14, none] ∧ Same HD H' ∧ H' jj = some (.lst ((joinP sl i).map V.int))) ?_ ?_ ?_ ?_⟩
      · exact ⟨none, j0, rfl, Same.refl _, hjD⟩
      · rintro i σ H' _ ⟨_, _, _, sx, _⟩
        exact SqL.of (sx _ _ htsD)
      · rintro i x σ H' hi ⟨v14, jj, rfl, sx, hj⟩
        obtain ⟨t, ht, rfl⟩ := map_get hi
        have ht' : H' t = some (.tup ((padd sl i).map V.int)) := sx _ _ (sD _ _ (tt i t ht))
        have il : i < ts.length := (List.getElem?_eq_some_iff.mp ht).1
        refine ⟨_, rfl, _, _, _, _, _, rfl, .ty _, (dt_path ⟨t, rfl, ht'⟩).ty, kit_ty (kitTup _), _, rfl, ?_⟩
        refine iteF ⟨_, rfl, _, _, rfl, .inr (SqT.of ht'), rfl, _, rfl, ?_⟩
        rw [List.length_map, padd_len]
        refine iteF ⟨_, rfl, _, rfl, _, _, rfl, .inr (SqT.of ht'), fun u hu => ?_⟩
        have s1 := Same.new (o := .lst ((padd sl i).map V.int)) hu
        refine ⟨jj, u, _, _, rfl, rfl, s1 _ _ hj, upd_same, szn (by rw [List.length_map, List.length_map, joinP_len, padd_len]; omega), fun u2 hu2 => ?_⟩
        rw [← List.map_append, ← joinP_succ]
        exact ⟨_, u2, rfl, sx.trans (s1.trans (Same.new hu2)), upd_same⟩
      · rintro σ HE ⟨v14, jj, rfl, sE, hj⟩
        rw [List.length_map] at hj
        have lsE := lsD.same sE
        have htsE := sE _ _ htsD
        have ejt : joinP sl ts.length = sl ++ List.replicate (7 * ts.length - sl.length) 0 := by
          rw [joinP_take, List.take_of_length_le (by omega)]
        rw [ejt] at hj
        generalize 7 * ts.length - sl.length = zn at hj ejt
        refine ⟨_, rfl, _, _, rfl, .inl (SqL.of htsE), _, rfl, _, _, rfl, .inl (SqL.of lsE.sa'), _, _, rfl, rfl, _, _, rfl, rfl, ⟨by decide, by decide⟩, rfl, _, rfl, ?_⟩
        have ekey : (!decide (V.int (((ts.map V.ref).length : Nat) : Int) = V.int (((((sl.map V.int).length : Nat) : Int) + 6) / 7))) = false := by
          rw [List.length_map, List.length_map, tl, decide_eq_true (by congr 1 <;> omega)]; rfl
        rw [ekey]
        refine iteF ⟨_, rfl, _, rfl, _, _, rfl, .inl (SqL.of lsE.sa'), _, rfl, jj, _, rfl, SqL.of hj, fun c1 hc1 => ?_⟩
        rw [List.length_map, cut_to, List.take_left]
        have sF := Same.new (o := .lst (sl.map V.int)) hc1
        have hcF : (upd HE c1 (.lst (sl.map V.int))) c1 = some (.lst (sl.map V.int)) := upd_same
        have lsF := lsE.same sF
        have hjF := sF _ _ hj
        generalize upd HE c1 (.lst (sl.map V.int)) = HF at sF hcF lsF hjF
        refine ⟨_, rfl, .list (sl.map PyData.int), .list (sl.map PyData.int), (Dt.lst hcF (dt_ints _)).dp, (Dt.lst lsF.sa' (dt_ints _)).dp, shaped_ints _, shaped_ints _, _, rfl, ?_⟩
        rw [eqv_self (shaped_ints _)]
        refine iteF ⟨_, rfl, _, rfl, _, _, rfl, .inl (SqL.of lsF.sa'), _, rfl, jj, _, rfl, SqL.of hjF, fun c2 hc2 => ?_⟩
        rw [List.length_map, cut_from, List.drop_left]
        have sG := Same.new (o := .lst ((List.replicate zn (0 : Int)).map V.int)) hc2
        have lsG := lsF.same sG
        refine ⟨c2, List.replicate zn 0, rfl, SqL.of upd_same, rfl, _, rfl, ?_⟩
        rw [sum_zeros]
        refine iteF ?_
        generalize upd HF c2 (.lst ((List.replicate zn (0 : Int)).map V.int)) = HG at lsG
        clear hjF hcF sF sG lsF lsE hj ejt htsE
        -- four bent streams
        refine ⟨_, rfl, by decide, by decide, for_range (fun i σ G => ∃ (v6 v15 v14 : Option V), σ = [some (.ref a), some (.ref tp), some (.ref tr), some (.ref da), some (.ref sa), some (.ref pa), v6, v7, some (.ref q5), some (.ref q6), none, some (.ref D2), some (.ref qp), some (.ref jj), v14, v15] ∧ LS G tp p tr da sa pa F α ds xs sl pl) ?_ ?_ ?_⟩
        · exact ⟨_, _, _, rfl, lsG⟩
        · rintro i σ G hi ⟨v6, v15, v14, rfl, lsg⟩
          refine ⟨_, rfl, _, rfl, tp, p, sa, sl, rfl, lsg.tape, lsg.sa', wsl, by omega, lsg.ne.2.1, fun q G1 bt hq wb lb t1 c1 => ?_⟩
          have ls1 := lsg.chg t1 c1
          cases eb : dec bt with
          | none =>
            refine ⟨_, rfl, q, bt, rfl, hq, wb, lb, fun _ G2 s2 => ?_, fun ds' en => (by rw [eb] at en; cases en)⟩
            refine ⟨_, rfl, q, bt, rfl, s2 _ _ hq, wb, lb, fun _ G3 s3 => ?_, fun ds' en => (by rw [eb] at en; cases en)⟩
            refine ⟨.none, .none, Dt.non.dp, Dt.non.dp, rfl, rfl, _, rfl, ?_⟩
            exact iteF ⟨_, _, _, rfl, (ls1.same s2).same s3⟩
          | some bs =>
            refine ⟨_, rfl, q, bt, rfl, hq, wb, lb, fun en => (by rw [eb] at en; cases en), fun ds' en r2 G2 s2 _ h2 => ?_⟩
            rw [eb] at en
            cases en
            refine ⟨_, rfl, q, bt, rfl, s2 _ _ hq, wb, lb, fun en => (by rw [eb] at en; cases en), fun ds' en r3 G3 s3 _ h3 => ?_⟩
            rw [eb] at en
            cases en
            refine ⟨dsD bs, dsD bs, (h2.same s3).dp, h3.dp, shaped_ds _, shaped_ds _, _, rfl, ?_⟩
            rw [eqv_self (shaped_ds _)]
            exact iteF ⟨_, _, _, rfl, (ls1.same s2).same s3⟩
        · rintro σ G ⟨v6, v15, v14, rfl, lsg⟩
          -- a stream that makes no tree, and the empty one
          refine ⟨szl rfl, fun z hz => ?_⟩
          have hzz : (upd G z (.lst [.int 5, .int 1, .int 9])) z = some (.lst (([5, 1, 9] : List Int).map V.int)) := upd_same
          refine ⟨z, [5, 1, 9], rfl, hzz, fun x hx => ?_, by decide, fun ds' en => (by rw [dec_519] at en; cases en; decide), fun _ G2 s2 => ?_, fun F' en => (by rw [dec_519] at en; have en : runD F0 [([9], .drop)] = some F' := en; rw [run_519] at en; cases en)⟩
          · have : x = 5 ∨ x = 1 ∨ x = 9 := by simpa using hx
            rcases this with rfl | rfl | rfl <;> exact ⟨by decide, by decide⟩
          refine ⟨rfl, _, rfl, ?_⟩
          refine iteT ?_
          refine ⟨szl rfl, fun z2 hz2 => ?_⟩
          have hzz2 : (upd G2 z2 (.lst [])) z2 = some (.lst (([] : List Int).map V.int)) := upd_same
          refine ⟨z2, [], rfl, hzz2, fun x hx => (by cases hx), by decide, fun ds' en => (by rw [dec_nil] at en; cases en; decide), fun en => (by rw [dec_nil] at en; cases en), fun F' en c β G3 s3 hc3 t3 own3 => ?_⟩
          have en : some F0 = some F' := en
          cases en
          refine ⟨rfl, fun tr2 d2 hd12 htr2 hd22 G4 s4 h1 h2 => ?_⟩
          have t4 : TR G4 tr2 F0 _ := TR.new0 hd12 h1 h2
          obtain ⟨ks, ls, k1, k2, k3, k4⟩ := eqv_root (K := K) (t3.same s4) t4 rfl F0_d3
          exact ⟨10, by decide, .inr ⟨c, tr2, ks, ls, rfl, rfl, k1, k2, k3, k4⟩, k _⟩
end
end My

namespace My
open PySem L2
/-! ### what the top has written, and the end -/
/-- an error of the class at S is what an except of S names -/
theorem exm_self {K : PySem.W.Frag} {S : Addr} (h1 : PySem.W.subIn K (.ref S) (.type "BaseException") = some true) (h2 : PySem.W.isClsIn K S = true) (h3 : PySem.W.typeIn K (.ref S) = some (.type "type")) (h4 : PySem.W.subIn K (.ref S) (.ref S) = some true) : PySem.W.exmOne K (.ref S) (.ref S) = some true := by
  have e1 : (PySem.W.subIn K (.ref S) (.type "BaseException") == some true) = true := by rw [h1] <;> rfl
  have e2 : ((PySem.W.clsIn K S).isSome && PySem.W.typeIn K (.ref S) == some (.type "type")) = true := by
    have h2' : (PySem.W.clsIn K S).isSome = true := h2
    rw [h2', h3] <;> rfl
  unfold PySem.W.exmOne PySem.W.kitCls
  refine (if_pos e1).trans ((if_pos e2).trans ?_)
  exact h4
theorem all_mk {l : PySem.W.OpenLaw} {w : World} {K : PySem.W.Frag} {h : Heap} {mg : Str → Option Value} {fa : Addr} (X : K.In h) (G : h.Ns mainGlobals mg) (hfa : mg "law" = some (.ref fa))
    {f_law_next : Addr} {od_law_next an_law_next : Option Addr} {sl_law_next : Array (Option Value)} {oc_law_next kV_law_next dc_law_next pm_law_next cd_law_next ct_law_next : Value}
    {f_is_at_least : Addr} {od_is_at_least an_is_at_least : Option Addr} {sl_is_at_least : Array (Option Value)} {oc_is_at_least kV_is_at_least dc_is_at_least pm_is_at_least cd_is_at_least ct_is_at_least : Value}
    {f_is_between : Addr} {od_is_between an_is_between : Option Addr} {sl_is_between : Array (Option Value)} {oc_is_between kV_is_between dc_is_between pm_is_between cd_is_between ct_is_between : Value}
    {f_is_word : Addr} {od_is_word an_is_word : Option Addr} {sl_is_word : Array (Option Value)} {oc_is_word kV_is_word dc_is_word pm_is_word cd_is_word ct_is_word : Value}
    {f_is_name : Addr} {od_is_name an_is_name : Option Addr} {sl_is_name : Array (Option Value)} {oc_is_name kV_is_name dc_is_name pm_is_name cd_is_name ct_is_name : Value}
    {f_is_number : Addr} {od_is_number an_is_number : Option Addr} {sl_is_number : Array (Option Value)} {oc_is_number kV_is_number dc_is_number pm_is_number cd_is_number ct_is_number : Value}
    {f_is_path : Addr} {od_is_path an_is_path : Option Addr} {sl_is_path : Array (Option Value)} {oc_is_path kV_is_path dc_is_path pm_is_path cd_is_path ct_is_path : Value}
    {f_are_words : Addr} {od_are_words an_are_words : Option Addr} {sl_are_words : Array (Option Value)} {oc_are_words kV_are_words dc_are_words pm_are_words cd_are_words ct_are_words : Value}
    {f_are_none : Addr} {od_are_none an_are_none : Option Addr} {sl_are_none : Array (Option Value)} {oc_are_none kV_are_none dc_are_none pm_are_none cd_are_none ct_are_none : Value}
    {f_is_one_number : Addr} {od_is_one_number an_is_one_number : Option Addr} {sl_is_one_number : Array (Option Value)} {oc_is_one_number kV_is_one_number dc_is_one_number pm_is_one_number cd_is_one_number ct_is_one_number : Value}
    {f_are_two_numbers : Addr} {od_are_two_numbers an_are_two_numbers : Option Addr} {sl_are_two_numbers : Array (Option Value)} {oc_are_two_numbers kV_are_two_numbers dc_are_two_numbers pm_are_two_numbers cd_are_two_numbers ct_are_two_numbers : Value}
    {f_are_place_and_words : Addr} {od_are_place_and_words an_are_place_and_words : Option Addr} {sl_are_place_and_words : Array (Option Value)} {oc_are_place_and_words kV_are_place_and_words dc_are_place_and_words pm_are_place_and_words cd_are_place_and_words ct_are_place_and_words : Value}
    {f_is_one_kind : Addr} {od_is_one_kind an_is_one_kind : Option Addr} {sl_is_one_kind : Array (Option Value)} {oc_is_one_kind kV_is_one_kind dc_is_one_kind pm_is_one_kind cd_is_one_kind ct_is_one_kind : Value}
    {f_is_request : Addr} {od_is_request an_is_request : Option Addr} {sl_is_request : Array (Option Value)} {oc_is_request kV_is_request dc_is_request pm_is_request cd_is_request ct_is_request : Value}
    {f_is_directory : Addr} {od_is_directory an_is_directory : Option Addr} {sl_is_directory : Array (Option Value)} {oc_is_directory kV_is_directory dc_is_directory pm_is_directory cd_is_directory ct_is_directory : Value}
    {f_part_at : Addr} {od_part_at an_part_at : Option Addr} {sl_part_at : Array (Option Value)} {oc_part_at kV_part_at dc_part_at pm_part_at cd_part_at ct_part_at : Value}
    {f_new_tree : Addr} {od_new_tree an_new_tree : Option Addr} {sl_new_tree : Array (Option Value)} {oc_new_tree kV_new_tree dc_new_tree pm_new_tree cd_new_tree ct_new_tree : Value}
    {f_list : Addr} {od_list an_list : Option Addr} {sl_list : Array (Option Value)} {oc_list kV_list dc_list pm_list cd_list ct_list : Value}
    {f_put : Addr} {od_put an_put : Option Addr} {sl_put : Array (Option Value)} {oc_put kV_put dc_put pm_put cd_put ct_put : Value}
    {f_make : Addr} {od_make an_make : Option Addr} {sl_make : Array (Option Value)} {oc_make kV_make dc_make pm_make cd_make ct_make : Value}
    {f_drop : Addr} {od_drop an_drop : Option Addr} {sl_drop : Array (Option Value)} {oc_drop kV_drop dc_drop pm_drop cd_drop ct_drop : Value}
    {f_ask_file : Addr} {od_ask_file an_ask_file : Option Addr} {sl_ask_file : Array (Option Value)} {oc_ask_file kV_ask_file dc_ask_file pm_ask_file cd_ask_file ct_ask_file : Value}
    {f_ask : Addr} {od_ask an_ask : Option Addr} {sl_ask : Array (Option Value)} {oc_ask kV_ask dc_ask pm_ask cd_ask ct_ask : Value}
    {f_written : Addr} {od_written an_written : Option Addr} {sl_written : Array (Option Value)} {oc_written kV_written dc_written pm_written cd_written ct_written : Value}
    {f_counted : Addr} {od_counted an_counted : Option Addr} {sl_counted : Array (Option Value)} {oc_counted kV_counted dc_counted pm_counted cd_counted ct_counted : Value}
    {f_deed_at : Addr} {od_deed_at an_deed_at : Option Addr} {sl_deed_at : Array (Option Value)} {oc_deed_at kV_deed_at dc_deed_at pm_deed_at cd_deed_at ct_deed_at : Value}
    {f_deeds_of : Addr} {od_deeds_of an_deeds_of : Option Addr} {sl_deeds_of : Array (Option Value)} {oc_deeds_of kV_deeds_of dc_deeds_of pm_deeds_of cd_deeds_of ct_deeds_of : Value}
    {f_tree_of : Addr} {od_tree_of an_tree_of : Option Addr} {sl_tree_of : Array (Option Value)} {oc_tree_of kV_tree_of dc_tree_of pm_tree_of cd_tree_of ct_tree_of : Value}
    {f_image_of : Addr} {od_image_of an_image_of : Option Addr} {sl_image_of : Array (Option Value)} {oc_image_of kV_image_of dc_image_of pm_image_of cd_image_of ct_image_of : Value}
    {f_parts_of : Addr} {od_parts_of an_parts_of : Option Addr} {sl_parts_of : Array (Option Value)} {oc_parts_of kV_parts_of dc_parts_of pm_parts_of cd_parts_of ct_parts_of : Value}
    {f_law_word : Addr} {od_law_word an_law_word : Option Addr} {sl_law_word : Array (Option Value)} {oc_law_word kV_law_word dc_law_word pm_law_word cd_law_word ct_law_word : Value}
    {f_law_row : Addr} {od_law_row an_law_row : Option Addr} {sl_law_row : Array (Option Value)} {oc_law_row kV_law_row dc_law_row pm_law_row cd_law_row ct_law_row : Value}
    {f_law_deed : Addr} {od_law_deed an_law_deed : Option Addr} {sl_law_deed : Array (Option Value)} {oc_law_deed kV_law_deed dc_law_deed pm_law_deed cd_law_deed ct_law_deed : Value}
    {f_law_due : Addr} {od_law_due an_law_due : Option Addr} {sl_law_due : Array (Option Value)} {oc_law_due kV_law_due dc_law_due pm_law_due cd_law_due ct_law_due : Value}
    {f_law_request : Addr} {od_law_request an_law_request : Option Addr} {sl_law_request : Array (Option Value)} {oc_law_request kV_law_request dc_law_request pm_law_request cd_law_request ct_law_request : Value}
    {f_law_bent : Addr} {od_law_bent an_law_bent : Option Addr} {sl_law_bent : Array (Option Value)} {oc_law_bent kV_law_bent dc_law_bent pm_law_bent cd_law_bent ct_law_bent : Value}
    {f_law : Addr} {od_law an_law : Option Addr} {sl_law : Array (Option Value)} {oc_law kV_law dc_law pm_law cd_law ct_law : Value}
    {A_PARTS : Addr} {n_PARTS : Nat} {es_PARTS : Array DictEntry}
    {t_MOST_WORDS : Tok}
    {t_TOP : Tok}
    {t__DROP : Tok}
    {t__MAKE_DIRECTORY : Tok}
    {t__MAKE_FILE : Tok}
    {t__PUT : Tok}
    {t__SHRINK : Tok}
    {t__SIZE : Tok}
    (a_law_next : PySem.W.nsIn K mainGlobals "_law_next" = some (some (.ref f_law_next)))
    (l_law_next : K.lookup f_law_next = some ⟨oc_law_next, od_law_next, .func (PySem.W.fnOf "_law_next" "_law_next" (defArgs s_law_next) (defBody s_law_next) (defScope s_law_next) .none kV_law_next dc_law_next pm_law_next an_law_next cd_law_next ct_law_next), sl_law_next⟩)
    (q_law_next : PySem.W.codeIn K cd_law_next "_law_next" = true)
    (k_law_next : PySem.W.keepIn K (.ref f_law_next) = true)
    (a_is_at_least : PySem.W.nsIn K mainGlobals "is_at_least" = some (some (.ref f_is_at_least)))
    (l_is_at_least : K.lookup f_is_at_least = some ⟨oc_is_at_least, od_is_at_least, .func (PySem.W.fnOf "is_at_least" "is_at_least" (defArgs s_is_at_least) (defBody s_is_at_least) (defScope s_is_at_least) .none kV_is_at_least dc_is_at_least pm_is_at_least an_is_at_least cd_is_at_least ct_is_at_least), sl_is_at_least⟩)
    (q_is_at_least : PySem.W.codeIn K cd_is_at_least "is_at_least" = true)
    (k_is_at_least : PySem.W.keepIn K (.ref f_is_at_least) = true)
    (a_is_between : PySem.W.nsIn K mainGlobals "is_between" = some (some (.ref f_is_between)))
    (l_is_between : K.lookup f_is_between = some ⟨oc_is_between, od_is_between, .func (PySem.W.fnOf "is_between" "is_between" (defArgs s_is_between) (defBody s_is_between) (defScope s_is_between) .none kV_is_between dc_is_between pm_is_between an_is_between cd_is_between ct_is_between), sl_is_between⟩)
    (q_is_between : PySem.W.codeIn K cd_is_between "is_between" = true)
    (k_is_between : PySem.W.keepIn K (.ref f_is_between) = true)
    (a_is_word : PySem.W.nsIn K mainGlobals "is_word" = some (some (.ref f_is_word)))
    (l_is_word : K.lookup f_is_word = some ⟨oc_is_word, od_is_word, .func (PySem.W.fnOf "is_word" "is_word" (defArgs s_is_word) (defBody s_is_word) (defScope s_is_word) .none kV_is_word dc_is_word pm_is_word an_is_word cd_is_word ct_is_word), sl_is_word⟩)
    (q_is_word : PySem.W.codeIn K cd_is_word "is_word" = true)
    (k_is_word : PySem.W.keepIn K (.ref f_is_word) = true)
    (a_is_name : PySem.W.nsIn K mainGlobals "is_name" = some (some (.ref f_is_name)))
    (l_is_name : K.lookup f_is_name = some ⟨oc_is_name, od_is_name, .func (PySem.W.fnOf "is_name" "is_name" (defArgs s_is_name) (defBody s_is_name) (defScope s_is_name) .none kV_is_name dc_is_name pm_is_name an_is_name cd_is_name ct_is_name), sl_is_name⟩)
    (q_is_name : PySem.W.codeIn K cd_is_name "is_name" = true)
    (k_is_name : PySem.W.keepIn K (.ref f_is_name) = true)
    (a_is_number : PySem.W.nsIn K mainGlobals "_is_number" = some (some (.ref f_is_number)))
    (l_is_number : K.lookup f_is_number = some ⟨oc_is_number, od_is_number, .func (PySem.W.fnOf "_is_number" "_is_number" (defArgs s_is_number) (defBody s_is_number) (defScope s_is_number) .none kV_is_number dc_is_number pm_is_number an_is_number cd_is_number ct_is_number), sl_is_number⟩)
    (q_is_number : PySem.W.codeIn K cd_is_number "_is_number" = true)
    (k_is_number : PySem.W.keepIn K (.ref f_is_number) = true)
    (a_is_path : PySem.W.nsIn K mainGlobals "_is_path" = some (some (.ref f_is_path)))
    (l_is_path : K.lookup f_is_path = some ⟨oc_is_path, od_is_path, .func (PySem.W.fnOf "_is_path" "_is_path" (defArgs s_is_path) (defBody s_is_path) (defScope s_is_path) .none kV_is_path dc_is_path pm_is_path an_is_path cd_is_path ct_is_path), sl_is_path⟩)
    (q_is_path : PySem.W.codeIn K cd_is_path "_is_path" = true)
    (k_is_path : PySem.W.keepIn K (.ref f_is_path) = true)
    (a_are_words : PySem.W.nsIn K mainGlobals "_are_words" = some (some (.ref f_are_words)))
    (l_are_words : K.lookup f_are_words = some ⟨oc_are_words, od_are_words, .func (PySem.W.fnOf "_are_words" "_are_words" (defArgs s_are_words) (defBody s_are_words) (defScope s_are_words) .none kV_are_words dc_are_words pm_are_words an_are_words cd_are_words ct_are_words), sl_are_words⟩)
    (q_are_words : PySem.W.codeIn K cd_are_words "_are_words" = true)
    (k_are_words : PySem.W.keepIn K (.ref f_are_words) = true)
    (a_are_none : PySem.W.nsIn K mainGlobals "_are_none" = some (some (.ref f_are_none)))
    (l_are_none : K.lookup f_are_none = some ⟨oc_are_none, od_are_none, .func (PySem.W.fnOf "_are_none" "_are_none" (defArgs s_are_none) (defBody s_are_none) (defScope s_are_none) .none kV_are_none dc_are_none pm_are_none an_are_none cd_are_none ct_are_none), sl_are_none⟩)
    (q_are_none : PySem.W.codeIn K cd_are_none "_are_none" = true)
    (k_are_none : PySem.W.keepIn K (.ref f_are_none) = true)
    (a_is_one_number : PySem.W.nsIn K mainGlobals "_is_one_number" = some (some (.ref f_is_one_number)))
    (l_is_one_number : K.lookup f_is_one_number = some ⟨oc_is_one_number, od_is_one_number, .func (PySem.W.fnOf "_is_one_number" "_is_one_number" (defArgs s_is_one_number) (defBody s_is_one_number) (defScope s_is_one_number) .none kV_is_one_number dc_is_one_number pm_is_one_number an_is_one_number cd_is_one_number ct_is_one_number), sl_is_one_number⟩)
    (q_is_one_number : PySem.W.codeIn K cd_is_one_number "_is_one_number" = true)
    (k_is_one_number : PySem.W.keepIn K (.ref f_is_one_number) = true)
    (a_are_two_numbers : PySem.W.nsIn K mainGlobals "_are_two_numbers" = some (some (.ref f_are_two_numbers)))
    (l_are_two_numbers : K.lookup f_are_two_numbers = some ⟨oc_are_two_numbers, od_are_two_numbers, .func (PySem.W.fnOf "_are_two_numbers" "_are_two_numbers" (defArgs s_are_two_numbers) (defBody s_are_two_numbers) (defScope s_are_two_numbers) .none kV_are_two_numbers dc_are_two_numbers pm_are_two_numbers an_are_two_numbers cd_are_two_numbers ct_are_two_numbers), sl_are_two_numbers⟩)
    (q_are_two_numbers : PySem.W.codeIn K cd_are_two_numbers "_are_two_numbers" = true)
    (k_are_two_numbers : PySem.W.keepIn K (.ref f_are_two_numbers) = true)
    (a_are_place_and_words : PySem.W.nsIn K mainGlobals "_are_place_and_words" = some (some (.ref f_are_place_and_words)))
    (l_are_place_and_words : K.lookup f_are_place_and_words = some ⟨oc_are_place_and_words, od_are_place_and_words, .func (PySem.W.fnOf "_are_place_and_words" "_are_place_and_words" (defArgs s_are_place_and_words) (defBody s_are_place_and_words) (defScope s_are_place_and_words) .none kV_are_place_and_words dc_are_place_and_words pm_are_place_and_words an_are_place_and_words cd_are_place_and_words ct_are_place_and_words), sl_are_place_and_words⟩)
    (q_are_place_and_words : PySem.W.codeIn K cd_are_place_and_words "_are_place_and_words" = true)
    (k_are_place_and_words : PySem.W.keepIn K (.ref f_are_place_and_words) = true)
    (a_is_one_kind : PySem.W.nsIn K mainGlobals "_is_one_kind" = some (some (.ref f_is_one_kind)))
    (l_is_one_kind : K.lookup f_is_one_kind = some ⟨oc_is_one_kind, od_is_one_kind, .func (PySem.W.fnOf "_is_one_kind" "_is_one_kind" (defArgs s_is_one_kind) (defBody s_is_one_kind) (defScope s_is_one_kind) .none kV_is_one_kind dc_is_one_kind pm_is_one_kind an_is_one_kind cd_is_one_kind ct_is_one_kind), sl_is_one_kind⟩)
    (q_is_one_kind : PySem.W.codeIn K cd_is_one_kind "_is_one_kind" = true)
    (k_is_one_kind : PySem.W.keepIn K (.ref f_is_one_kind) = true)
    (a_is_request : PySem.W.nsIn K mainGlobals "is_request" = some (some (.ref f_is_request)))
    (l_is_request : K.lookup f_is_request = some ⟨oc_is_request, od_is_request, .func (PySem.W.fnOf "is_request" "is_request" (defArgs s_is_request) (defBody s_is_request) (defScope s_is_request) .none kV_is_request dc_is_request pm_is_request an_is_request cd_is_request ct_is_request), sl_is_request⟩)
    (q_is_request : PySem.W.codeIn K cd_is_request "is_request" = true)
    (k_is_request : PySem.W.keepIn K (.ref f_is_request) = true)
    (a_is_directory : PySem.W.nsIn K mainGlobals "is_directory" = some (some (.ref f_is_directory)))
    (l_is_directory : K.lookup f_is_directory = some ⟨oc_is_directory, od_is_directory, .func (PySem.W.fnOf "is_directory" "is_directory" (defArgs s_is_directory) (defBody s_is_directory) (defScope s_is_directory) .none kV_is_directory dc_is_directory pm_is_directory an_is_directory cd_is_directory ct_is_directory), sl_is_directory⟩)
    (q_is_directory : PySem.W.codeIn K cd_is_directory "is_directory" = true)
    (k_is_directory : PySem.W.keepIn K (.ref f_is_directory) = true)
    (a_part_at : PySem.W.nsIn K mainGlobals "part_at" = some (some (.ref f_part_at)))
    (l_part_at : K.lookup f_part_at = some ⟨oc_part_at, od_part_at, .func (PySem.W.fnOf "part_at" "part_at" (defArgs s_part_at) (defBody s_part_at) (defScope s_part_at) .none kV_part_at dc_part_at pm_part_at an_part_at cd_part_at ct_part_at), sl_part_at⟩)
    (q_part_at : PySem.W.codeIn K cd_part_at "part_at" = true)
    (k_part_at : PySem.W.keepIn K (.ref f_part_at) = true)
    (a_new_tree : PySem.W.nsIn K mainGlobals "new_tree" = some (some (.ref f_new_tree)))
    (l_new_tree : K.lookup f_new_tree = some ⟨oc_new_tree, od_new_tree, .func (PySem.W.fnOf "new_tree" "new_tree" (defArgs s_new_tree) (defBody s_new_tree) (defScope s_new_tree) .none kV_new_tree dc_new_tree pm_new_tree an_new_tree cd_new_tree ct_new_tree), sl_new_tree⟩)
    (q_new_tree : PySem.W.codeIn K cd_new_tree "new_tree" = true)
    (k_new_tree : PySem.W.keepIn K (.ref f_new_tree) = true)
    (a_list : PySem.W.nsIn K mainGlobals "_list" = some (some (.ref f_list)))
    (l_list : K.lookup f_list = some ⟨oc_list, od_list, .func (PySem.W.fnOf "_list" "_list" (defArgs s_list) (defBody s_list) (defScope s_list) .none kV_list dc_list pm_list an_list cd_list ct_list), sl_list⟩)
    (q_list : PySem.W.codeIn K cd_list "_list" = true)
    (k_list : PySem.W.keepIn K (.ref f_list) = true)
    (a_put : PySem.W.nsIn K mainGlobals "_put" = some (some (.ref f_put)))
    (l_put : K.lookup f_put = some ⟨oc_put, od_put, .func (PySem.W.fnOf "_put" "_put" (defArgs s_put) (defBody s_put) (defScope s_put) .none kV_put dc_put pm_put an_put cd_put ct_put), sl_put⟩)
    (q_put : PySem.W.codeIn K cd_put "_put" = true)
    (k_put : PySem.W.keepIn K (.ref f_put) = true)
    (a_make : PySem.W.nsIn K mainGlobals "_make" = some (some (.ref f_make)))
    (l_make : K.lookup f_make = some ⟨oc_make, od_make, .func (PySem.W.fnOf "_make" "_make" (defArgs s_make) (defBody s_make) (defScope s_make) .none kV_make dc_make pm_make an_make cd_make ct_make), sl_make⟩)
    (q_make : PySem.W.codeIn K cd_make "_make" = true)
    (k_make : PySem.W.keepIn K (.ref f_make) = true)
    (a_drop : PySem.W.nsIn K mainGlobals "_drop" = some (some (.ref f_drop)))
    (l_drop : K.lookup f_drop = some ⟨oc_drop, od_drop, .func (PySem.W.fnOf "_drop" "_drop" (defArgs s_drop) (defBody s_drop) (defScope s_drop) .none kV_drop dc_drop pm_drop an_drop cd_drop ct_drop), sl_drop⟩)
    (q_drop : PySem.W.codeIn K cd_drop "_drop" = true)
    (k_drop : PySem.W.keepIn K (.ref f_drop) = true)
    (a_ask_file : PySem.W.nsIn K mainGlobals "_ask_file" = some (some (.ref f_ask_file)))
    (l_ask_file : K.lookup f_ask_file = some ⟨oc_ask_file, od_ask_file, .func (PySem.W.fnOf "_ask_file" "_ask_file" (defArgs s_ask_file) (defBody s_ask_file) (defScope s_ask_file) .none kV_ask_file dc_ask_file pm_ask_file an_ask_file cd_ask_file ct_ask_file), sl_ask_file⟩)
    (q_ask_file : PySem.W.codeIn K cd_ask_file "_ask_file" = true)
    (k_ask_file : PySem.W.keepIn K (.ref f_ask_file) = true)
    (a_ask : PySem.W.nsIn K mainGlobals "ask" = some (some (.ref f_ask)))
    (l_ask : K.lookup f_ask = some ⟨oc_ask, od_ask, .func (PySem.W.fnOf "ask" "ask" (defArgs s_ask) (defBody s_ask) (defScope s_ask) .none kV_ask dc_ask pm_ask an_ask cd_ask ct_ask), sl_ask⟩)
    (q_ask : PySem.W.codeIn K cd_ask "ask" = true)
    (k_ask : PySem.W.keepIn K (.ref f_ask) = true)
    (a_written : PySem.W.nsIn K mainGlobals "written" = some (some (.ref f_written)))
    (l_written : K.lookup f_written = some ⟨oc_written, od_written, .func (PySem.W.fnOf "written" "written" (defArgs s_written) (defBody s_written) (defScope s_written) .none kV_written dc_written pm_written an_written cd_written ct_written), sl_written⟩)
    (q_written : PySem.W.codeIn K cd_written "written" = true)
    (k_written : PySem.W.keepIn K (.ref f_written) = true)
    (a_counted : PySem.W.nsIn K mainGlobals "_counted" = some (some (.ref f_counted)))
    (l_counted : K.lookup f_counted = some ⟨oc_counted, od_counted, .func (PySem.W.fnOf "_counted" "_counted" (defArgs s_counted) (defBody s_counted) (defScope s_counted) .none kV_counted dc_counted pm_counted an_counted cd_counted ct_counted), sl_counted⟩)
    (q_counted : PySem.W.codeIn K cd_counted "_counted" = true)
    (k_counted : PySem.W.keepIn K (.ref f_counted) = true)
    (a_deed_at : PySem.W.nsIn K mainGlobals "_deed_at" = some (some (.ref f_deed_at)))
    (l_deed_at : K.lookup f_deed_at = some ⟨oc_deed_at, od_deed_at, .func (PySem.W.fnOf "_deed_at" "_deed_at" (defArgs s_deed_at) (defBody s_deed_at) (defScope s_deed_at) .none kV_deed_at dc_deed_at pm_deed_at an_deed_at cd_deed_at ct_deed_at), sl_deed_at⟩)
    (q_deed_at : PySem.W.codeIn K cd_deed_at "_deed_at" = true)
    (k_deed_at : PySem.W.keepIn K (.ref f_deed_at) = true)
    (a_deeds_of : PySem.W.nsIn K mainGlobals "deeds_of" = some (some (.ref f_deeds_of)))
    (l_deeds_of : K.lookup f_deeds_of = some ⟨oc_deeds_of, od_deeds_of, .func (PySem.W.fnOf "deeds_of" "deeds_of" (defArgs s_deeds_of) (defBody s_deeds_of) (defScope s_deeds_of) .none kV_deeds_of dc_deeds_of pm_deeds_of an_deeds_of cd_deeds_of ct_deeds_of), sl_deeds_of⟩)
    (q_deeds_of : PySem.W.codeIn K cd_deeds_of "deeds_of" = true)
    (k_deeds_of : PySem.W.keepIn K (.ref f_deeds_of) = true)
    (a_tree_of : PySem.W.nsIn K mainGlobals "tree_of" = some (some (.ref f_tree_of)))
    (l_tree_of : K.lookup f_tree_of = some ⟨oc_tree_of, od_tree_of, .func (PySem.W.fnOf "tree_of" "tree_of" (defArgs s_tree_of) (defBody s_tree_of) (defScope s_tree_of) .none kV_tree_of dc_tree_of pm_tree_of an_tree_of cd_tree_of ct_tree_of), sl_tree_of⟩)
    (q_tree_of : PySem.W.codeIn K cd_tree_of "tree_of" = true)
    (k_tree_of : PySem.W.keepIn K (.ref f_tree_of) = true)
    (a_image_of : PySem.W.nsIn K mainGlobals "image_of" = some (some (.ref f_image_of)))
    (l_image_of : K.lookup f_image_of = some ⟨oc_image_of, od_image_of, .func (PySem.W.fnOf "image_of" "image_of" (defArgs s_image_of) (defBody s_image_of) (defScope s_image_of) .none kV_image_of dc_image_of pm_image_of an_image_of cd_image_of ct_image_of), sl_image_of⟩)
    (q_image_of : PySem.W.codeIn K cd_image_of "image_of" = true)
    (k_image_of : PySem.W.keepIn K (.ref f_image_of) = true)
    (a_parts_of : PySem.W.nsIn K mainGlobals "parts_of" = some (some (.ref f_parts_of)))
    (l_parts_of : K.lookup f_parts_of = some ⟨oc_parts_of, od_parts_of, .func (PySem.W.fnOf "parts_of" "parts_of" (defArgs s_parts_of) (defBody s_parts_of) (defScope s_parts_of) .none kV_parts_of dc_parts_of pm_parts_of an_parts_of cd_parts_of ct_parts_of), sl_parts_of⟩)
    (q_parts_of : PySem.W.codeIn K cd_parts_of "parts_of" = true)
    (k_parts_of : PySem.W.keepIn K (.ref f_parts_of) = true)
    (a_law_word : PySem.W.nsIn K mainGlobals "_law_word" = some (some (.ref f_law_word)))
    (l_law_word : K.lookup f_law_word = some ⟨oc_law_word, od_law_word, .func (PySem.W.fnOf "_law_word" "_law_word" (defArgs s_law_word) (defBody s_law_word) (defScope s_law_word) .none kV_law_word dc_law_word pm_law_word an_law_word cd_law_word ct_law_word), sl_law_word⟩)
    (q_law_word : PySem.W.codeIn K cd_law_word "_law_word" = true)
    (k_law_word : PySem.W.keepIn K (.ref f_law_word) = true)
    (a_law_row : PySem.W.nsIn K mainGlobals "_law_row" = some (some (.ref f_law_row)))
    (l_law_row : K.lookup f_law_row = some ⟨oc_law_row, od_law_row, .func (PySem.W.fnOf "_law_row" "_law_row" (defArgs s_law_row) (defBody s_law_row) (defScope s_law_row) .none kV_law_row dc_law_row pm_law_row an_law_row cd_law_row ct_law_row), sl_law_row⟩)
    (q_law_row : PySem.W.codeIn K cd_law_row "_law_row" = true)
    (k_law_row : PySem.W.keepIn K (.ref f_law_row) = true)
    (a_law_deed : PySem.W.nsIn K mainGlobals "_law_deed" = some (some (.ref f_law_deed)))
    (l_law_deed : K.lookup f_law_deed = some ⟨oc_law_deed, od_law_deed, .func (PySem.W.fnOf "_law_deed" "_law_deed" (defArgs s_law_deed) (defBody s_law_deed) (defScope s_law_deed) .none kV_law_deed dc_law_deed pm_law_deed an_law_deed cd_law_deed ct_law_deed), sl_law_deed⟩)
    (q_law_deed : PySem.W.codeIn K cd_law_deed "_law_deed" = true)
    (k_law_deed : PySem.W.keepIn K (.ref f_law_deed) = true)
    (a_law_due : PySem.W.nsIn K mainGlobals "_law_due" = some (some (.ref f_law_due)))
    (l_law_due : K.lookup f_law_due = some ⟨oc_law_due, od_law_due, .func (PySem.W.fnOf "_law_due" "_law_due" (defArgs s_law_due) (defBody s_law_due) (defScope s_law_due) .none kV_law_due dc_law_due pm_law_due an_law_due cd_law_due ct_law_due), sl_law_due⟩)
    (q_law_due : PySem.W.codeIn K cd_law_due "_law_due" = true)
    (k_law_due : PySem.W.keepIn K (.ref f_law_due) = true)
    (a_law_request : PySem.W.nsIn K mainGlobals "_law_request" = some (some (.ref f_law_request)))
    (l_law_request : K.lookup f_law_request = some ⟨oc_law_request, od_law_request, .func (PySem.W.fnOf "_law_request" "_law_request" (defArgs s_law_request) (defBody s_law_request) (defScope s_law_request) .none kV_law_request dc_law_request pm_law_request an_law_request cd_law_request ct_law_request), sl_law_request⟩)
    (q_law_request : PySem.W.codeIn K cd_law_request "_law_request" = true)
    (k_law_request : PySem.W.keepIn K (.ref f_law_request) = true)
    (a_law_bent : PySem.W.nsIn K mainGlobals "_law_bent" = some (some (.ref f_law_bent)))
    (l_law_bent : K.lookup f_law_bent = some ⟨oc_law_bent, od_law_bent, .func (PySem.W.fnOf "_law_bent" "_law_bent" (defArgs s_law_bent) (defBody s_law_bent) (defScope s_law_bent) .none kV_law_bent dc_law_bent pm_law_bent an_law_bent cd_law_bent ct_law_bent), sl_law_bent⟩)
    (q_law_bent : PySem.W.codeIn K cd_law_bent "_law_bent" = true)
    (k_law_bent : PySem.W.keepIn K (.ref f_law_bent) = true)
    (a_law : PySem.W.nsIn K mainGlobals "law" = some (some (.ref f_law)))
    (l_law : K.lookup f_law = some ⟨oc_law, od_law, .func (PySem.W.fnOf "law" "law" (defArgs s_law) (defBody s_law) (defScope s_law) .none kV_law dc_law pm_law an_law cd_law ct_law), sl_law⟩)
    (q_law : PySem.W.codeIn K cd_law "law" = true)
    (k_law : PySem.W.keepIn K (.ref f_law) = true)
    (y__PARTS : PySem.W.nsIn K mainGlobals "_PARTS" = some (some (.ref A_PARTS)))
    (l__PARTS : K.lookup A_PARTS = some ⟨.type "dict", none, .dict es_PARTS n_PARTS, #[]⟩)
    (kl__PARTS : PySem.W.KeysLit w.params es_PARTS.toList)
    (lo__PARTS : (A_PARTS == sysModules) = false)
    (p0 : PySem.W.nsIn K A_PARTS "make" = some (some (.ref f_is_one_kind)))
    (p1 : PySem.W.nsIn K A_PARTS "put" = some (some (.ref f_are_place_and_words)))
    (p2 : PySem.W.nsIn K A_PARTS "get" = some (some (.ref f_are_two_numbers)))
    (p3 : PySem.W.nsIn K A_PARTS "size" = some (some (.ref f_are_none)))
    (p4 : PySem.W.nsIn K A_PARTS "shrink" = some (some (.ref f_is_one_number)))
    (p5 : PySem.W.nsIn K A_PARTS "drop" = some (some (.ref f_are_none)))
    (p6 : PySem.W.nsIn K A_PARTS "list" = some (some (.ref f_are_none)))
    (p7 : PySem.W.nsIn K A_PARTS "sync" = some none)
    (z_abs : PySem.W.nsIn K mainGlobals "abs" = some none)
    (z_all : PySem.W.nsIn K mainGlobals "all" = some none)
    (z_bool : PySem.W.nsIn K mainGlobals "bool" = some none)
    (z_int : PySem.W.nsIn K mainGlobals "int" = some none)
    (z_isinstance : PySem.W.nsIn K mainGlobals "isinstance" = some none)
    (z_len : PySem.W.nsIn K mainGlobals "len" = some none)
    (z_list : PySem.W.nsIn K mainGlobals "list" = some none)
    (z_range : PySem.W.nsIn K mainGlobals "range" = some none)
    (z_sorted : PySem.W.nsIn K mainGlobals "sorted" = some none)
    (z_str : PySem.W.nsIn K mainGlobals "str" = some none)
    (z_sum : PySem.W.nsIn K mainGlobals "sum" = some none)
    (z_tuple : PySem.W.nsIn K mainGlobals "tuple" = some none)
    (y_MOST_WORDS : PySem.W.nsIn K mainGlobals "MOST_WORDS" = some (some (.int 48 t_MOST_WORDS)))
    (y_TOP : PySem.W.nsIn K mainGlobals "TOP" = some (some (.int 4294967295 t_TOP)))
    (y__DROP : PySem.W.nsIn K mainGlobals "_DROP" = some (some (.int 5 t__DROP)))
    (y__MAKE_DIRECTORY : PySem.W.nsIn K mainGlobals "_MAKE_DIRECTORY" = some (some (.int 1 t__MAKE_DIRECTORY)))
    (y__MAKE_FILE : PySem.W.nsIn K mainGlobals "_MAKE_FILE" = some (some (.int 2 t__MAKE_FILE)))
    (y__PUT : PySem.W.nsIn K mainGlobals "_PUT" = some (some (.int 3 t__PUT)))
    (y__SHRINK : PySem.W.nsIn K mainGlobals "_SHRINK" = some (some (.int 4 t__SHRINK)))
    (y__SIZE : PySem.W.nsIn K mainGlobals "_SIZE" = some (some (.int 7 t__SIZE))) :
    ∃ fd : FuncData, (∀ (s : Shared) (v : Value), BindsTo s fd ⟨[v], []⟩ [("script", v)]) ∧ ∀ base : Heap, K.In base → base.Ns mainGlobals mg → FnOk l.prog w K mg base CX0 9 fa fd ["script"] (spLaw K) := by
  have e := hfa.symm.trans (PySem.W.mg_of X G a_law)
  cases e
  have T : Txt K mg w A_PARTS := ⟨PySem.W.mg_none_of X G z_abs, PySem.W.mg_none_of X G z_all, PySem.W.mg_none_of X G z_bool, PySem.W.mg_none_of X G z_int, PySem.W.mg_none_of X G z_isinstance, PySem.W.mg_none_of X G z_len, PySem.W.mg_none_of X G z_list, PySem.W.mg_none_of X G z_range, PySem.W.mg_none_of X G z_sorted, PySem.W.mg_none_of X G z_str, PySem.W.mg_none_of X G z_sum, PySem.W.mg_none_of X G z_tuple, ⟨_, PySem.W.mg_of X G y_MOST_WORDS⟩, ⟨_, PySem.W.mg_of X G y_TOP⟩, ⟨_, PySem.W.mg_of X G y__DROP⟩, ⟨_, PySem.W.mg_of X G y__MAKE_DIRECTORY⟩, ⟨_, PySem.W.mg_of X G y__MAKE_FILE⟩, ⟨_, PySem.W.mg_of X G y__PUT⟩, ⟨_, PySem.W.mg_of X G y__SHRINK⟩, ⟨_, PySem.W.mg_of X G y__SIZE⟩, PySem.W.mg_of X G y__PARTS, ⟨_, _, l__PARTS⟩, ⟨_, PySem.W.mg_of X G a_is_one_kind, _, _, l__PARTS, kl__PARTS, lo__PARTS, .inl ⟨_, .ref _, p0, rfl, rfl⟩⟩, ⟨_, PySem.W.mg_of X G a_are_place_and_words, _, _, l__PARTS, kl__PARTS, lo__PARTS, .inl ⟨_, .ref _, p1, rfl, rfl⟩⟩, ⟨_, PySem.W.mg_of X G a_are_two_numbers, _, _, l__PARTS, kl__PARTS, lo__PARTS, .inl ⟨_, .ref _, p2, rfl, rfl⟩⟩, ⟨_, PySem.W.mg_of X G a_are_none, _, _, l__PARTS, kl__PARTS, lo__PARTS, .inl ⟨_, .ref _, p3, rfl, rfl⟩⟩, ⟨_, PySem.W.mg_of X G a_is_one_number, _, _, l__PARTS, kl__PARTS, lo__PARTS, .inl ⟨_, .ref _, p4, rfl, rfl⟩⟩, ⟨_, PySem.W.mg_of X G a_are_none, _, _, l__PARTS, kl__PARTS, lo__PARTS, .inl ⟨_, .ref _, p5, rfl, rfl⟩⟩, ⟨_, PySem.W.mg_of X G a_are_none, _, _, l__PARTS, kl__PARTS, lo__PARTS, .inl ⟨_, .ref _, p6, rfl, rfl⟩⟩, ⟨_, _, l__PARTS, kl__PARTS, lo__PARTS, .inr ⟨p7, rfl⟩⟩⟩
  have F_law_next := fun_mk (st := s_law_next) l_law_next q_law_next k_law_next
  have B_law_next := F_law_next.binds (ps := ["tape", "many"]) fun _ _ _ _ _ _ us hl => match us, hl with | [_, _], _ => rfl
  have F_is_at_least := fun_mk (st := s_is_at_least) l_is_at_least q_is_at_least k_is_at_least
  have B_is_at_least := F_is_at_least.binds (ps := ["value", "least"]) fun _ _ _ _ _ _ us hl => match us, hl with | [_, _], _ => rfl
  have F_is_between := fun_mk (st := s_is_between) l_is_between q_is_between k_is_between
  have B_is_between := F_is_between.binds (ps := ["value", "least", "most"]) fun _ _ _ _ _ _ us hl => match us, hl with | [_, _, _], _ => rfl
  have F_is_word := fun_mk (st := s_is_word) l_is_word q_is_word k_is_word
  have B_is_word := F_is_word.binds (ps := ["value"]) fun _ _ _ _ _ _ us hl => match us, hl with | [_], _ => rfl
  have F_is_name := fun_mk (st := s_is_name) l_is_name q_is_name k_is_name
  have B_is_name := F_is_name.binds (ps := ["value"]) fun _ _ _ _ _ _ us hl => match us, hl with | [_], _ => rfl
  have F_is_number := fun_mk (st := s_is_number) l_is_number q_is_number k_is_number
  have B_is_number := F_is_number.binds (ps := ["value"]) fun _ _ _ _ _ _ us hl => match us, hl with | [_], _ => rfl
  have F_is_path := fun_mk (st := s_is_path) l_is_path q_is_path k_is_path
  have B_is_path := F_is_path.binds (ps := ["value"]) fun _ _ _ _ _ _ us hl => match us, hl with | [_], _ => rfl
  have F_are_words := fun_mk (st := s_are_words) l_are_words q_are_words k_are_words
  have B_are_words := F_are_words.binds (ps := ["value"]) fun _ _ _ _ _ _ us hl => match us, hl with | [_], _ => rfl
  have F_are_none := fun_mk (st := s_are_none) l_are_none q_are_none k_are_none
  have B_are_none := F_are_none.binds (ps := ["parts"]) fun _ _ _ _ _ _ us hl => match us, hl with | [_], _ => rfl
  have F_is_one_number := fun_mk (st := s_is_one_number) l_is_one_number q_is_one_number k_is_one_number
  have B_is_one_number := F_is_one_number.binds (ps := ["parts"]) fun _ _ _ _ _ _ us hl => match us, hl with | [_], _ => rfl
  have F_are_two_numbers := fun_mk (st := s_are_two_numbers) l_are_two_numbers q_are_two_numbers k_are_two_numbers
  have B_are_two_numbers := F_are_two_numbers.binds (ps := ["parts"]) fun _ _ _ _ _ _ us hl => match us, hl with | [_], _ => rfl
  have F_are_place_and_words := fun_mk (st := s_are_place_and_words) l_are_place_and_words q_are_place_and_words k_are_place_and_words
  have B_are_place_and_words := F_are_place_and_words.binds (ps := ["parts"]) fun _ _ _ _ _ _ us hl => match us, hl with | [_], _ => rfl
  have F_is_one_kind := fun_mk (st := s_is_one_kind) l_is_one_kind q_is_one_kind k_is_one_kind
  have B_is_one_kind := F_is_one_kind.binds (ps := ["parts"]) fun _ _ _ _ _ _ us hl => match us, hl with | [_], _ => rfl
  have F_is_request := fun_mk (st := s_is_request) l_is_request q_is_request k_is_request
  have B_is_request := F_is_request.binds (ps := ["value"]) fun _ _ _ _ _ _ us hl => match us, hl with | [_], _ => rfl
  have F_is_directory := fun_mk (st := s_is_directory) l_is_directory q_is_directory k_is_directory
  have B_is_directory := F_is_directory.binds (ps := ["part"]) fun _ _ _ _ _ _ us hl => match us, hl with | [_], _ => rfl
  have F_part_at := fun_mk (st := s_part_at) l_part_at q_part_at k_part_at
  have B_part_at := F_part_at.binds (ps := ["tree", "path"]) fun _ _ _ _ _ _ us hl => match us, hl with | [_, _], _ => rfl
  have F_new_tree := fun_mk (st := s_new_tree) l_new_tree q_new_tree k_new_tree
  have B_new_tree := F_new_tree.binds (ps := []) fun _ _ _ _ _ _ us hl => match us, hl with | [], _ => rfl
  have F_list := fun_mk (st := s_list) l_list q_list k_list
  have B_list := F_list.binds (ps := ["part"]) fun _ _ _ _ _ _ us hl => match us, hl with | [_], _ => rfl
  have F_put := fun_mk (st := s_put) l_put q_put k_put
  have B_put := F_put.binds (ps := ["words", "offset", "new"]) fun _ _ _ _ _ _ us hl => match us, hl with | [_, _, _], _ => rfl
  have F_make := fun_mk (st := s_make) l_make q_make k_make
  have B_make := F_make.binds (ps := ["tree", "path", "kind"]) fun _ _ _ _ _ _ us hl => match us, hl with | [_, _, _], _ => rfl
  have F_drop := fun_mk (st := s_drop) l_drop q_drop k_drop
  have B_drop := F_drop.binds (ps := ["tree", "path", "part"]) fun _ _ _ _ _ _ us hl => match us, hl with | [_, _, _], _ => rfl
  have F_ask_file := fun_mk (st := s_ask_file) l_ask_file q_ask_file k_ask_file
  have B_ask_file := F_ask_file.binds (ps := ["words", "word", "parts"]) fun _ _ _ _ _ _ us hl => match us, hl with | [_, _, _], _ => rfl
  have F_ask := fun_mk (st := s_ask) l_ask q_ask k_ask
  have B_ask := F_ask.binds (ps := ["tree", "request"]) fun _ _ _ _ _ _ us hl => match us, hl with | [_, _], _ => rfl
  have F_written := fun_mk (st := s_written) l_written q_written k_written
  have B_written := F_written.binds (ps := ["deed"]) fun _ _ _ _ _ _ us hl => match us, hl with | [_], _ => rfl
  have F_counted := fun_mk (st := s_counted) l_counted q_counted k_counted
  have B_counted := F_counted.binds (ps := ["stream", "at"]) fun _ _ _ _ _ _ us hl => match us, hl with | [_, _], _ => rfl
  have F_deed_at := fun_mk (st := s_deed_at) l_deed_at q_deed_at k_deed_at
  have B_deed_at := F_deed_at.binds (ps := ["stream", "at"]) fun _ _ _ _ _ _ us hl => match us, hl with | [_, _], _ => rfl
  have F_deeds_of := fun_mk (st := s_deeds_of) l_deeds_of q_deeds_of k_deeds_of
  have B_deeds_of := F_deeds_of.binds (ps := ["stream"]) fun _ _ _ _ _ _ us hl => match us, hl with | [_], _ => rfl
  have F_tree_of := fun_mk (st := s_tree_of) l_tree_of q_tree_of k_tree_of
  have B_tree_of := F_tree_of.binds (ps := ["stream"]) fun _ _ _ _ _ _ us hl => match us, hl with | [_], _ => rfl
  have F_image_of := fun_mk (st := s_image_of) l_image_of q_image_of k_image_of
  have B_image_of := F_image_of.binds (ps := ["tree"]) fun _ _ _ _ _ _ us hl => match us, hl with | [_], _ => rfl
  have F_parts_of := fun_mk (st := s_parts_of) l_parts_of q_parts_of k_parts_of
  have B_parts_of := F_parts_of.binds (ps := ["stream"]) fun _ _ _ _ _ _ us hl => match us, hl with | [_], _ => rfl
  have F_law_word := fun_mk (st := s_law_word) l_law_word q_law_word k_law_word
  have B_law_word := F_law_word.binds (ps := ["stream", "state"]) fun _ _ _ _ _ _ us hl => match us, hl with | [_, _], _ => rfl
  have F_law_row := fun_mk (st := s_law_row) l_law_row q_law_row k_law_row
  have B_law_row := F_law_row.binds (ps := ["stream", "state"]) fun _ _ _ _ _ _ us hl => match us, hl with | [_, _], _ => rfl
  have F_law_deed := fun_mk (st := s_law_deed) l_law_deed q_law_deed k_law_deed
  have B_law_deed := F_law_deed.binds (ps := ["stream", "state", "number"]) fun _ _ _ _ _ _ us hl => match us, hl with | [_, _, _], _ => rfl
  have F_law_due := fun_mk (st := s_law_due) l_law_due q_law_due k_law_due
  have B_law_due := F_law_due.binds (ps := ["stream"]) fun _ _ _ _ _ _ us hl => match us, hl with | [_], _ => rfl
  have F_law_request := fun_mk (st := s_law_request) l_law_request q_law_request k_law_request
  have B_law_request := F_law_request.binds (ps := ["tape"]) fun _ _ _ _ _ _ us hl => match us, hl with | [_], _ => rfl
  have F_law_bent := fun_mk (st := s_law_bent) l_law_bent q_law_bent k_law_bent
  have B_law_bent := F_law_bent.binds (ps := ["tape", "stream"]) fun _ _ _ _ _ _ us hl => match us, hl with | [_, _], _ => rfl
  have F_law := fun_mk (st := s_law) l_law q_law k_law
  refine ⟨PySem.W.fnOf "law" "law" (defArgs s_law) (defBody s_law) (defScope s_law) .none kV_law dc_law pm_law an_law cd_law ct_law, fun s v => .of_eq rfl, fun base _ _ => ?_⟩
  have D_law_next : Dfn l.prog w K mg base CX0 1 "_law_next" ["tape", "many"] spNext := ⟨f_law_next, _, ok_law_next F_law_next T , PySem.W.mg_of X G a_law_next, k_law_next, B_law_next⟩
  have D_is_at_least : Dfn l.prog w K mg base CX0 1 "is_at_least" ["value", "least"] spGe := ⟨f_is_at_least, _, ok_is_at_least F_is_at_least T , PySem.W.mg_of X G a_is_at_least, k_is_at_least, B_is_at_least⟩
  have D_is_between : Dfn l.prog w K mg base CX0 2 "is_between" ["value", "least", "most"] spBtw := ⟨f_is_between, _, ok_is_between F_is_between T D_is_at_least, PySem.W.mg_of X G a_is_between, k_is_between, B_is_between⟩
  have D_is_word : Dfn l.prog w K mg base CX0 3 "is_word" ["value"] spWord := ⟨f_is_word, _, ok_is_word F_is_word T D_is_between, PySem.W.mg_of X G a_is_word, k_is_word, B_is_word⟩
  have D_is_name : Dfn l.prog w K mg base CX0 4 "is_name" ["value"] (spD0 isNm) := ⟨f_is_name, _, ok_is_name F_is_name T D_is_word, PySem.W.mg_of X G a_is_name, k_is_name, B_is_name⟩
  have D_is_number : Dfn l.prog w K mg base CX0 3 "_is_number" ["value"] (spD0 isNum) := ⟨f_is_number, _, ok_is_number F_is_number T D_is_between, PySem.W.mg_of X G a_is_number, k_is_number, B_is_number⟩
  have D_is_path : Dfn l.prog w K mg base CX0 5 "_is_path" ["value"] (spD isPath) := ⟨f_is_path, _, ok_is_path F_is_path T D_is_name, PySem.W.mg_of X G a_is_path, k_is_path, B_is_path⟩
  have D_are_words : Dfn l.prog w K mg base CX0 4 "_are_words" ["value"] (spD areW) := ⟨f_are_words, _, ok_are_words F_are_words T D_is_between D_is_word, PySem.W.mg_of X G a_are_words, k_are_words, B_are_words⟩
  have D_are_none : Dfn l.prog w K mg base CX0 1 "_are_none" ["parts"] (spParts pNone) := ⟨f_are_none, _, ok_are_none F_are_none T , PySem.W.mg_of X G a_are_none, k_are_none, B_are_none⟩
  have D_is_one_number : Dfn l.prog w K mg base CX0 4 "_is_one_number" ["parts"] (spParts pNum) := ⟨f_is_one_number, _, ok_is_one_number F_is_one_number T D_is_number, PySem.W.mg_of X G a_is_one_number, k_is_one_number, B_is_one_number⟩
  have D_are_two_numbers : Dfn l.prog w K mg base CX0 4 "_are_two_numbers" ["parts"] (spParts pTwo) := ⟨f_are_two_numbers, _, ok_are_two_numbers F_are_two_numbers T D_is_number, PySem.W.mg_of X G a_are_two_numbers, k_are_two_numbers, B_are_two_numbers⟩
  have D_are_place_and_words : Dfn l.prog w K mg base CX0 5 "_are_place_and_words" ["parts"] (spParts pPut) := ⟨f_are_place_and_words, _, ok_are_place_and_words F_are_place_and_words T D_is_number D_are_words, PySem.W.mg_of X G a_are_place_and_words, k_are_place_and_words, B_are_place_and_words⟩
  have D_is_one_kind : Dfn l.prog w K mg base CX0 1 "_is_one_kind" ["parts"] (spParts pKind) := ⟨f_is_one_kind, _, ok_is_one_kind F_is_one_kind T , PySem.W.mg_of X G a_is_one_kind, k_is_one_kind, B_is_one_kind⟩
  have D_is_request : Dfn l.prog w K mg base CX0 6 "is_request" ["value"] spReq := ⟨f_is_request, _, ok_is_request F_is_request T D_is_path D_is_one_kind D_are_place_and_words D_are_two_numbers D_are_none D_is_one_number, PySem.W.mg_of X G a_is_request, k_is_request, B_is_request⟩
  have D_is_directory : Dfn l.prog w K mg base CX0 1 "is_directory" ["part"] spIsDir := ⟨f_is_directory, _, ok_is_directory F_is_directory T , PySem.W.mg_of X G a_is_directory, k_is_directory, B_is_directory⟩
  have D_part_at : Dfn l.prog w K mg base CX0 2 "part_at" ["tree", "path"] spAt := ⟨f_part_at, _, ok_part_at F_part_at T D_is_directory, PySem.W.mg_of X G a_part_at, k_part_at, B_part_at⟩
  have D_new_tree : Dfn l.prog w K mg base CX0 1 "new_tree" [] spNew := ⟨f_new_tree, _, ok_new_tree F_new_tree T , PySem.W.mg_of X G a_new_tree, k_new_tree, B_new_tree⟩
  have D_list : Dfn l.prog w K mg base CX0 2 "_list" ["part"] spLst := ⟨f_list, _, ok_list F_list T D_is_directory, PySem.W.mg_of X G a_list, k_list, B_list⟩
  have D_put : Dfn l.prog w K mg base CX0 1 "_put" ["words", "offset", "new"] spPut := ⟨f_put, _, ok_put F_put T , PySem.W.mg_of X G a_put, k_put, B_put⟩
  have D_make : Dfn l.prog w K mg base CX0 3 "_make" ["tree", "path", "kind"] spMake := ⟨f_make, _, ok_make F_make T D_part_at D_is_directory D_new_tree, PySem.W.mg_of X G a_make, k_make, B_make⟩
  have D_drop : Dfn l.prog w K mg base CX0 3 "_drop" ["tree", "path", "part"] spDrop := ⟨f_drop, _, ok_drop F_drop T D_part_at D_is_directory, PySem.W.mg_of X G a_drop, k_drop, B_drop⟩
  have D_ask_file : Dfn l.prog w K mg base CX0 2 "_ask_file" ["words", "word", "parts"] spAskFile := ⟨f_ask_file, _, ok_ask_file F_ask_file T D_put, PySem.W.mg_of X G a_ask_file, k_ask_file, B_ask_file⟩
  have D_ask : Dfn l.prog w K mg base CX0 4 "ask" ["tree", "request"] spAsk := ⟨f_ask, _, ok_ask F_ask T D_make D_part_at D_drop D_list D_is_directory D_ask_file, PySem.W.mg_of X G a_ask, k_ask, B_ask⟩
  have D_written : Dfn l.prog w K mg base CX0 1 "written" ["deed"] spWritten := ⟨f_written, _, ok_written F_written T , PySem.W.mg_of X G a_written, k_written, B_written⟩
  have D_counted : Dfn l.prog w K mg base CX0 1 "_counted" ["stream", "at"] spCounted := ⟨f_counted, _, ok_counted F_counted T , PySem.W.mg_of X G a_counted, k_counted, B_counted⟩
  have D_deed_at : Dfn l.prog w K mg base CX0 2 "_deed_at" ["stream", "at"] spDeedAt := ⟨f_deed_at, _, ok_deed_at F_deed_at T D_counted, PySem.W.mg_of X G a_deed_at, k_deed_at, B_deed_at⟩
  have D_deeds_of : Dfn l.prog w K mg base CX0 7 "deeds_of" ["stream"] spDeeds := ⟨f_deeds_of, _, ok_deeds_of F_deeds_of T D_is_word D_deed_at D_is_request D_written, PySem.W.mg_of X G a_deeds_of, k_deeds_of, B_deeds_of⟩
  have D_tree_of : Dfn l.prog w K mg base CX0 8 "tree_of" ["stream"] spTree := ⟨f_tree_of, _, ok_tree_of F_tree_of T D_deeds_of D_new_tree D_ask, PySem.W.mg_of X G a_tree_of, k_tree_of, B_tree_of⟩
  have D_image_of : Dfn l.prog w K mg base CX0 2 "image_of" ["tree"] spImage := ⟨f_image_of, _, ok_image_of F_image_of T D_is_directory D_written, PySem.W.mg_of X G a_image_of, k_image_of, B_image_of⟩
  have D_parts_of : Dfn l.prog w K mg base CX0 1 "parts_of" ["stream"] spParts7 := ⟨f_parts_of, _, ok_parts_of F_parts_of T , PySem.W.mg_of X G a_parts_of, k_parts_of, B_parts_of⟩
  have D_law_word : Dfn l.prog w K mg base CX0 1 "_law_word" ["stream", "state"] spWrd := ⟨f_law_word, _, ok_law_word F_law_word T , PySem.W.mg_of X G a_law_word, k_law_word, B_law_word⟩
  have D_law_row : Dfn l.prog w K mg base CX0 2 "_law_row" ["stream", "state"] spRow := ⟨f_law_row, _, ok_law_row F_law_row T D_law_word, PySem.W.mg_of X G a_law_row, k_law_row, B_law_row⟩
  have D_law_deed : Dfn l.prog w K mg base CX0 3 "_law_deed" ["stream", "state", "number"] spDeed := ⟨f_law_deed, _, ok_law_deed F_law_deed T D_law_word D_law_row, PySem.W.mg_of X G a_law_deed, k_law_deed, B_law_deed⟩
  have D_law_due : Dfn l.prog w K mg base CX0 4 "_law_due" ["stream"] spDeeds := ⟨f_law_due, _, ok_law_due F_law_due T D_law_word D_law_deed, PySem.W.mg_of X G a_law_due, k_law_due, B_law_due⟩
  have D_law_request : Dfn l.prog w K mg base CX0 2 "_law_request" ["tape"] spRequest := ⟨f_law_request, _, ok_law_request F_law_request T D_law_next, PySem.W.mg_of X G a_law_request, k_law_request, B_law_request⟩
  have D_law_bent : Dfn l.prog w K mg base CX0 2 "_law_bent" ["tape", "stream"] spBent := ⟨f_law_bent, _, ok_law_bent F_law_bent T D_law_next, PySem.W.mg_of X G a_law_bent, k_law_bent, B_law_bent⟩
  exact ok_law F_law T D_new_tree D_law_next D_law_request D_ask D_written D_deeds_of D_tree_of D_image_of D_parts_of D_law_due D_law_bent
theorem walk {l : PySem.W.OpenLaw} {q : Program} {loose : List Str} {XP : (Str → Option Value) → Heap → Prop} {YP : World → Heap → Prop} {d : DefRec} {K : Params → PySem.W.Frag} (hn : l.most = some 63) (hdf : d.params.defaults = [])
    (hY : ∀ (w : World) (h : Heap), YP w h → (K w.params).In h)
    (F : ∀ (w : World) (mg : Str → Option Value) (fa : Addr) (h : Heap), (K w.params).In h → h.Ns mainGlobals mg → mg d.name = some (.ref fa) →
      ∃ fd : FuncData, (∀ (s : Shared) (u : Value), BindsTo s fd ⟨[u], []⟩ [("script", u)]) ∧ ∀ base : Heap, (K w.params).In base → base.Ns mainGlobals mg → FnOk l.prog w (K w.params) mg base CX0 9 fa fd ["script"] (spLaw (K w.params))) :
    PySem.W.WalkO q loose XP YP l.row.toRowW d [] (fun f vs => PySem.call f vs) :=
  L2.walk_of (n := 63) (k := 9) (x := "script") (CX := fun _ => CX0) (sp := fun w => spLaw (K w.params)) hn (by decide) hdf ⟨rfl, by decide, by decide⟩ hY F (fun _ _ a ns hl _ hS => ⟨a, ns, rfl, hS, fun _ => rfl⟩) fun _ _ _ _ _ z => z
end My
open PySem PySem.W PyProof.Rows in
set_option maxRecDepth 100000 in
set_option maxHeartbeats 0 in
theorem PySem.Challenge.cw_steadhold_k05_streams_holds : PySem.Challenge.rw_steadhold_k05_streams.Holds := by
  w_on; o_law; k_head; (case hw => w_witness2)
  k_fill
  refine My.walk (l := PySem.Challenge.rw_steadhold_k05_streams) rfl rfl (fun w h Y => PySem.W.kIn_of Y) ?F
  case F =>
    intro w mg fa h KX G hmg
    refine' My.all_mk KX G hmg ?a_law_next ?l_law_next ?q_law_next ?k_law_next ?a_is_at_least ?l_is_at_least ?q_is_at_least ?k_is_at_least ?a_is_between ?l_is_between ?q_is_between ?k_is_between ?a_is_word ?l_is_word ?q_is_word ?k_is_word ?a_is_name ?l_is_name ?q_is_name ?k_is_name ?a_is_number ?l_is_number ?q_is_number ?k_is_number ?a_is_path ?l_is_path ?q_is_path ?k_is_path ?a_are_words ?l_are_words ?q_are_words ?k_are_words ?a_are_none ?l_are_none ?q_are_none ?k_are_none ?a_is_one_number ?l_is_one_number ?q_is_one_number ?k_is_one_number ?a_are_two_numbers ?l_are_two_numbers ?q_are_two_numbers ?k_are_two_numbers ?a_are_place_and_words ?l_are_place_and_words ?q_are_place_and_words ?k_are_place_and_words ?a_is_one_kind ?l_is_one_kind ?q_is_one_kind ?k_is_one_kind ?a_is_request ?l_is_request ?q_is_request ?k_is_request ?a_is_directory ?l_is_directory ?q_is_directory ?k_is_directory ?a_part_at ?l_part_at ?q_part_at ?k_part_at ?a_new_tree ?l_new_tree ?q_new_tree ?k_new_tree ?a_list ?l_list ?q_list ?k_list ?a_put ?l_put ?q_put ?k_put ?a_make ?l_make ?q_make ?k_make ?a_drop ?l_drop ?q_drop ?k_drop ?a_ask_file ?l_ask_file ?q_ask_file ?k_ask_file ?a_ask ?l_ask ?q_ask ?k_ask ?a_written ?l_written ?q_written ?k_written ?a_counted ?l_counted ?q_counted ?k_counted ?a_deed_at ?l_deed_at ?q_deed_at ?k_deed_at ?a_deeds_of ?l_deeds_of ?q_deeds_of ?k_deeds_of ?a_tree_of ?l_tree_of ?q_tree_of ?k_tree_of ?a_image_of ?l_image_of ?q_image_of ?k_image_of ?a_parts_of ?l_parts_of ?q_parts_of ?k_parts_of ?a_law_word ?l_law_word ?q_law_word ?k_law_word ?a_law_row ?l_law_row ?q_law_row ?k_law_row ?a_law_deed ?l_law_deed ?q_law_deed ?k_law_deed ?a_law_due ?l_law_due ?q_law_due ?k_law_due ?a_law_request ?l_law_request ?q_law_request ?k_law_request ?a_law_bent ?l_law_bent ?q_law_bent ?k_law_bent ?a_law ?l_law ?q_law ?k_law ?y__PARTS ?l__PARTS ?kl__PARTS ?lo__PARTS ?p0 ?p1 ?p2 ?p3 ?p4 ?p5 ?p6 ?p7 ?z_abs ?z_all ?z_bool ?z_int ?z_isinstance ?z_len ?z_list ?z_range ?z_sorted ?z_str ?z_sum ?z_tuple ?y_MOST_WORDS ?y_TOP ?y__DROP ?y__MAKE_DIRECTORY ?y__MAKE_FILE ?y__PUT ?y__SHRINK ?y__SIZE
    (case a_law_next => k_is)
    (case l_law_next => k_is)
    (case q_law_next => k_is)
    (case k_law_next => k_is)
    (case a_is_at_least => k_is)
    (case l_is_at_least => k_is)
    (case q_is_at_least => k_is)
    (case k_is_at_least => k_is)
    (case a_is_between => k_is)
    (case l_is_between => k_is)
    (case q_is_between => k_is)
    (case k_is_between => k_is)
    (case a_is_word => k_is)
    (case l_is_word => k_is)
    (case q_is_word => k_is)
    (case k_is_word => k_is)
    (case a_is_name => k_is)
    (case l_is_name => k_is)
    (case q_is_name => k_is)
    (case k_is_name => k_is)
    (case a_is_number => k_is)
    (case l_is_number => k_is)
    (case q_is_number => k_is)
    (case k_is_number => k_is)
    (case a_is_path => k_is)
    (case l_is_path => k_is)
    (case q_is_path => k_is)
    (case k_is_path => k_is)
    (case a_are_words => k_is)
    (case l_are_words => k_is)
    (case q_are_words => k_is)
    (case k_are_words => k_is)
    (case a_are_none => k_is)
    (case l_are_none => k_is)
    (case q_are_none => k_is)
    (case k_are_none => k_is)
    (case a_is_one_number => k_is)
    (case l_is_one_number => k_is)
    (case q_is_one_number => k_is)
    (case k_is_one_number => k_is)
    (case a_are_two_numbers => k_is)
    (case l_are_two_numbers => k_is)
    (case q_are_two_numbers => k_is)
    (case k_are_two_numbers => k_is)
    (case a_are_place_and_words => k_is)
    (case l_are_place_and_words => k_is)
    (case q_are_place_and_words => k_is)
    (case k_are_place_and_words => k_is)
    (case a_is_one_kind => k_is)
    (case l_is_one_kind => k_is)
    (case q_is_one_kind => k_is)
    (case k_is_one_kind => k_is)
    (case a_is_request => k_is)
    (case l_is_request => k_is)
    (case q_is_request => k_is)
    (case k_is_request => k_is)
    (case a_is_directory => k_is)
    (case l_is_directory => k_is)
    (case q_is_directory => k_is)
    (case k_is_directory => k_is)
    (case a_part_at => k_is)
    (case l_part_at => k_is)
    (case q_part_at => k_is)
    (case k_part_at => k_is)
    (case a_new_tree => k_is)
    (case l_new_tree => k_is)
    (case q_new_tree => k_is)
    (case k_new_tree => k_is)
    (case a_list => k_is)
    (case l_list => k_is)
    (case q_list => k_is)
    (case k_list => k_is)
    (case a_put => k_is)
    (case l_put => k_is)
    (case q_put => k_is)
    (case k_put => k_is)
    (case a_make => k_is)
    (case l_make => k_is)
    (case q_make => k_is)
    (case k_make => k_is)
    (case a_drop => k_is)
    (case l_drop => k_is)
    (case q_drop => k_is)
    (case k_drop => k_is)
    (case a_ask_file => k_is)
    (case l_ask_file => k_is)
    (case q_ask_file => k_is)
    (case k_ask_file => k_is)
    (case a_ask => k_is)
    (case l_ask => k_is)
    (case q_ask => k_is)
    (case k_ask => k_is)
    (case a_written => k_is)
    (case l_written => k_is)
    (case q_written => k_is)
    (case k_written => k_is)
    (case a_counted => k_is)
    (case l_counted => k_is)
    (case q_counted => k_is)
    (case k_counted => k_is)
    (case a_deed_at => k_is)
    (case l_deed_at => k_is)
    (case q_deed_at => k_is)
    (case k_deed_at => k_is)
    (case a_deeds_of => k_is)
    (case l_deeds_of => k_is)
    (case q_deeds_of => k_is)
    (case k_deeds_of => k_is)
    (case a_tree_of => k_is)
    (case l_tree_of => k_is)
    (case q_tree_of => k_is)
    (case k_tree_of => k_is)
    (case a_image_of => k_is)
    (case l_image_of => k_is)
    (case q_image_of => k_is)
    (case k_image_of => k_is)
    (case a_parts_of => k_is)
    (case l_parts_of => k_is)
    (case q_parts_of => k_is)
    (case k_parts_of => k_is)
    (case a_law_word => k_is)
    (case l_law_word => k_is)
    (case q_law_word => k_is)
    (case k_law_word => k_is)
    (case a_law_row => k_is)
    (case l_law_row => k_is)
    (case q_law_row => k_is)
    (case k_law_row => k_is)
    (case a_law_deed => k_is)
    (case l_law_deed => k_is)
    (case q_law_deed => k_is)
    (case k_law_deed => k_is)
    (case a_law_due => k_is)
    (case l_law_due => k_is)
    (case q_law_due => k_is)
    (case k_law_due => k_is)
    (case a_law_request => k_is)
    (case l_law_request => k_is)
    (case q_law_request => k_is)
    (case k_law_request => k_is)
    (case a_law_bent => k_is)
    (case l_law_bent => k_is)
    (case q_law_bent => k_is)
    (case k_law_bent => k_is)
    (case a_law => k_is)
    (case l_law => k_is)
    (case q_law => k_is)
    (case k_law => k_is)
    (case y__PARTS => k_is)
    (case l__PARTS => k_is)
    (case kl__PARTS => first | k_is | (repeat (first | exact trivial | refine ⟨⟨_, _, rfl, rfl⟩, ?_⟩)))
    (case lo__PARTS => first | rfl | k_is | decide)
    (case p0 => k_is)
    (case p1 => k_is)
    (case p2 => k_is)
    (case p3 => k_is)
    (case p4 => k_is)
    (case p5 => k_is)
    (case p6 => k_is)
    (case p7 => k_is)
    (case z_abs => k_is)
    (case z_all => k_is)
    (case z_bool => k_is)
    (case z_int => k_is)
    (case z_isinstance => k_is)
    (case z_len => k_is)
    (case z_list => k_is)
    (case z_range => k_is)
    (case z_sorted => k_is)
    (case z_str => k_is)
    (case z_sum => k_is)
    (case z_tuple => k_is)
    (case y_MOST_WORDS => k_is)
    (case y_TOP => k_is)
    (case y__DROP => k_is)
    (case y__MAKE_DIRECTORY => k_is)
    (case y__MAKE_FILE => k_is)
    (case y__PUT => k_is)
    (case y__SHRINK => k_is)
    (case y__SIZE => k_is)
