import PyProof.Rows.All
import Wide.All
import OpenK.AllK
import Wide.FinOn
import HandS.ForMost
import HandS.IsInst
import HandS.Exc
import HandS.TryOnly
import HandS.ExcOwn
import HandS.WordsExc
import HandS.RaiseMore
import HandS.Codes
import HandS.TupAny
import PyProof.P3Eq
import HandS.SortRule
import HandS.SortInts
import HandS.Star
import KE.KDictList
import PyProof.DictValues
import HandS.Conv
import HandS.DictTup
import HandS.Walk
import PySem.Challenge.RW_steadhold_k07_net_of_many_filters
set_option Elab.async false
set_option linter.all false
set_option maxRecDepth 100000
set_option maxHeartbeats 4000000
namespace My
open PySem L2
/-! ### rules that the layer lacks -/
section
variable {X : Cx}
/-- xs[i] as the read of xs[i] op= e -/
theorem get_list : PGet X (rIxL X.K) := fun pins s0 σ H o1 o2 u1 u2 Q I r1 r2 hh => by
  obtain ⟨l, xs, n, z, e1, e2, hl, hn, q⟩ := hh
  subst e1; subst e2
  cases r1
  obtain ⟨tk, e3⟩ := r2
  subst e3
  obtain ⟨us, rel, pll, _⟩ := I.list hl
  obtain ⟨j, c1, c2, _, c4, c5⟩ := atI_get hn
  obtain ⟨u, hu, ru⟩ := rel.get c2
  have len := rel.length
  have big := line63
  have goal : EP X pins σ Q u s0 := ⟨z, H, I, ru, q⟩
  rcases Int.lt_or_le n 0 with neg | pos
  · have hj : (n + (us.toArray.size : Int)).toNat = j := by
      rw [seqIndex_neg neg c4] at c1
      have c1' := Option.some.inj c1
      simpa [← len] using c1'
    exact PySem.wpAny_getItem_list_neg pll.isList neg (by simp; omega) (by omega) (by rw [hj]; simpa using hu) goal
  · have hj : n.toNat = j := by
      rw [seqIndex_of pos c5] at c1
      exact Option.some.inj c1
    exact PySem.wpAny_getItem_list pll.isList pos (by omega) (by rw [hj]; simpa using hu) goal
/-- a module's int, text -/
theorem pe_gint {x : Str} {i : Int} {pos : Pos} (hg : Gl X x) (hm : ∃ t, X.mg x = some (.int i t)) (hd : (x == ("__debug__" : Str)) = false := by decide) : PE X (.Name x pos) (tC (.int i)) := by
  obtain ⟨t, hm⟩ := hm
  exact pe_glob hg hm ⟨t, rfl⟩ hd
theorem pe_gstr {x i : Str} {pos : Pos} (hg : Gl X x) (hm : ∃ t, X.mg x = some (.str i t)) (hd : (x == ("__debug__" : Str)) = false := by decide) : PE X (.Name x pos) (tC (.str i)) := by
  obtain ⟨t, hm⟩ := hm
  exact pe_glob hg hm ⟨t, rfl⟩ hd
end
/-! ### rules with the written part named -/
def rLen (K : PySem.W.Frag) : List V → Hp → VK → Prop := fun xs H Q => ∃ p ys, xs = [.ref p] ∧ (SqL K H p ys ∨ SqT K H p ys) ∧ Q (.int ys.length) H
def rListOf (K : PySem.W.Frag) : List V → Hp → VK → Prop := fun xs H Q => ∃ p ys, xs = [.ref p] ∧ (SqL K H p ys ∨ SqT K H p ys) ∧ ∀ l, H l = none → Q (.ref l) (upd H l (.lst ys))
def rTupOf (K : PySem.W.Frag) : List V → Hp → VK → Prop := fun xs H Q => ∃ p ys, xs = [.ref p] ∧ ((SqL K H p ys ∧ ∀ l, H l = none → Q (.ref l) (upd H l (.tup ys))) ∨ (SqT K H p ys ∧ Q (.ref p) H))
section
variable {X : Cx} (K : PySem.W.Frag)
theorem kIxL (h : X.K = K := by rfl) : IxR X (rIxL K) := by subst h; exact ix_list
theorem kIxT (h : X.K = K := by rfl) : IxR X (rIxT K) := by subst h; exact ix_tup
theorem kGetL (h : X.K = K := by rfl) : PGet X (rIxL K) := by subst h; exact get_list
theorem kSlL (h : X.K = K := by rfl) : SlR X (rSlL K) := by subst h; exact sl_list
theorem kSlT (h : X.K = K := by rfl) : SlR X (rSlA K) := by subst h; exact sl_tupA
theorem kEqD (hu : X.A.units + 64 < cLine) (h : X.K = K := by rfl) : OpR X (compareOp .Eq) (rEqD K) := by subst h; exact op_eqD hu
theorem kNeD (hu : X.A.units + 64 < cLine) (h : X.K = K := by rfl) : OpR X (compareOp .NotEq) (rNeD K) := by subst h; exact op_neD hu
theorem kIn (h : X.K = K := by rfl) : OpR X (compareOp .In) (rIn K false) := by subst h; exact op_in_seq
theorem kNotIn (h : X.K = K := by rfl) : OpR X (compareOp .NotIn) (rIn K true) := by subst h; exact op_notIn_seq
theorem kCatT (h : X.K = K := by rfl) : OpR X (binaryOp .Add) (rCatA K) := by subst h; exact op_catA
theorem kLen (h : X.K = K := by rfl) : CallR X (.builtin "len") (rLen K) := by subst h; exact call_len_seq
theorem kListOf (h : X.K = K := by rfl) : CallR X (.type "list") (rListOf K) := by subst h; exact call_list_of
theorem kTupOf (h : X.K = K := by rfl) : CallR X (.type "tuple") (rTupOf K) := by subst h; exact call_tuple_of
theorem kIsi (h : X.K = K := by rfl) : CallR X (.builtin "isinstance") (rIsi K) := by subst h; exact call_isi
theorem kAll (hc : X.calm = true) (h : X.K = K := by rfl) : CallR X (.builtin "all") (rAll K) := by subst h; exact cr_all hc
theorem kAny (hc : X.calm = true) (h : X.K = K := by rfl) : CallR X (.builtin "any") (rAny K) := by subst h; exact cr_any hc
theorem kSum (hc : X.calm = true) (h : X.K = K := by rfl) : CallR X (.builtin "sum") (rSum K) := by subst h; exact cr_sum hc
theorem kSorted (h : X.K = K := by rfl) : CallR X (.builtin "sorted") (rSorted K) := by subst h; exact cr_sorted
theorem kIndex (h : X.K = K := by rfl) : MtR X "list.index" (rIndex K) := by subst h; exact mt_index
section
variable {tg l : Expr} {tl : TE} {pos : Pos}
theorem kpiL (hl : PE X l tl) (h : X.K = K := by rfl) : PI X tg l (iList K tl) := by subst h; exact pi_list hl
theorem kpiT (hl : PE X l tl) (h : X.K = K := by rfl) : PI X tg l (iTup K tl) := by subst h; exact pi_tup hl
theorem kpgT {es : List Expr} {k : Nat} {t : TGs} {n : Nat} (hc : X.calm = true) (hh : PGs X es t)
    (hn : (assignEach es X.env).length = n := by rfl) (hst : (assignEach es X.env).findIdx? (·.1) = none := by rfl) (h : X.K = K := by rfl) : PG X (.Tuple es k pos) (gTup K n t) := by subst h; exact pg_tup hc hh hn hst
theorem kBM0 {o : Expr} {to : TE} {name : Str} {apos cpos : Pos} {T id : String} {r : V → List V → Hp → VK → Prop} (pa : PlainAttrs T) (slot : Slot T name id) (hty : typeOf (.builtin id) = pure (.type "method_descriptor")) (hm : MtR X id r) (ho : PE X o to)
    (hbase : attributeBase o name X.env (eval o X.env) = eval o X.env := by rfl) (hline : (apos.endLine == cpos.line) = true := by rfl) (h : X.K = K := by rfl) : PE X (.Call (.Attribute o name apos) [] [] cpos) (tBM0 K T r to) := by
  subst h; exact pe_bm0 pa slot hty hm ho hbase hline
theorem kBM {o e : Expr} {es : List Expr} {to : TE} {t : TA} {name : Str} {apos cpos : Pos} {T id : String} {r : V → List V → Hp → VK → Prop} (pa : PlainAttrs T) (slot : Slot T name id) (hty : typeOf (.builtin id) = pure (.type "method_descriptor")) (hm : MtR X id r) (ho : PE X o to) (ha : PA X (e :: es) t)
    (hbase : attributeBase o name X.env (eval o X.env) = eval o X.env := by rfl)
    (hfew : ((backTo cpos (starEach (e :: es) X.env)).all (fun x => !x.1) && (backToKw cpos (keywordEach [] X.env)).all (fun x => x.1.isSome)
      && decide ((e :: es).length + ([] : List Keyword).length + (if ([] : List Keyword).isEmpty then 0 else 1) < 30)) = true := by rfl)
    (hline : (apos.endLine == cpos.line) = true := by rfl) (hs : starEach (e :: es) X.env = (false, eval e X.env) :: starEach es X.env := by rfl) (hplain : (backTo cpos (starEach es X.env)).any (·.1) = false := by rfl) (h : X.K = K := by rfl) :
    PE X (.Call (.Attribute o name apos) (e :: es) [] cpos) (tBM K T r to t) := by
  subst h; exact pe_bm pa slot hty hm ho ha hbase hfew hline hs hplain
theorem kSFld {o value : Expr} {f : Str} {pos' : Pos} {ta tv : TE} (ha : PE X o ta) (hv : PE X value tv) (hs : swapsWith value (some (.Attribute o f pos')) pos.line X.env = pure false) (h : X.K = K := by rfl) : PS X (.Assign [.Attribute o f pos'] value pos) (sFld K ta tv f) := by subst h; exact ps_fld ha hv hs
theorem kSFldA {o value : Expr} {f : Str} {tpos : Pos} {ta tv : TE} {op : Operator} {rd : V → V → Hp → VK → Prop} (ha : PE X o ta) (hv : PE X value tv) (hop : InOp X op rd) (h : X.K = K := by rfl) : PS X (.AugAssign (.Attribute o f tpos) op value pos) (sFldAug K ta tv rd f) := by subst h; exact ps_fldaug ha hv hop
theorem kFld {f : Str} (he : PE X l tl) (hb : attributeBase l f X.env (eval l X.env) = eval l X.env) (h : X.K = K := by rfl) : PE X (.Attribute l f pos) (tFld K tl f) := by subst h; exact pe_fld he hb
end
end
/-! ### xs.count(y), flat items -/
theorem countP_eqU {x : V} {v : Value} (rx : RelV x v) : ∀ {xs : List V} {us : List Value}, Vals xs us → xs.all flatV = true → us.countP (eqU x) = xs.countP fun y => eqV y x
  | _, _, .nil, _ => rfl
  | y :: xs, u :: us, .cons r t, f => by
    rw [List.all_cons, Bool.and_eq_true] at f
    rw [List.countP_cons, List.countP_cons, countP_eqU rx t f.2, eqU_of r f.1]
def rCount (K : PySem.W.Frag) : V → List V → Hp → VK → Prop := fun x vs H Q => ∃ (p : Addr) (xs : List V) (y : V), x = .ref p ∧ vs = [y] ∧ SqL K H p xs ∧ flatV y = true ∧ xs.all flatV = true ∧ Q (.int (xs.countP (fun z => eqV z y) : Nat)) H
theorem kCount {X : Cx} (K : PySem.W.Frag) (h : X.K = K := by rfl) : MtR X "list.count" (rCount K) := by
  subst h
  intro pins s0 σ H x vs u us Q I r1 r2 hh
  obtain ⟨p, xs, y, rfl, rfl, hl, fy, fx, q⟩ := hh
  cases r1
  cases r2 with
  | cons ry rn =>
    cases rn
    obtain ⟨ws, rel, ⟨⟨c0, d0, dat, sl0⟩, n, ho, hc, _, hd⟩, _⟩ := I.list hl
    dsimp only at hc hd
    subst hc hd
    refine call_meets PySem.F.slot_list_count ⟨_, ho, rfl⟩ PySem.F.entry_list_count (PySem.F.args_list_count_2 _ _)
      (SeqAt.list_countAt p ws.toArray n d0 sl0 _ (eqU y)) ⟨ho, fun z hz => mem_eqAt ry fy rel fx z (by simpa using hz), ?_⟩
    refine ⟨.int (xs.countP (fun z => eqV z y) : Nat), H, I.tok _, ⟨s0.toks, ?_⟩, q⟩
    rw [← countP_eqU ry rel fx]
/-! ### a def by its name -/
section
variable {P : Program} {w : World} {K : PySem.W.Frag} {mg : Str → Option Value} {base : Heap}
structure Dfn (P : Program) (w : World) (K : PySem.W.Frag) (mg : Str → Option Value) (base : Heap) (CX : CXT) (k : Nat) (x : Str) (ps : List Str) (sp : Sp) : Prop where
  ex : ∃ f fd, FnOk P w K mg base CX k f fd ps sp ∧ mg x = some (.ref f) ∧ PySem.W.keepIn K (.ref f) = true ∧ Binds K fd ps []
theorem Dfn.imp {CX : CXT} {k : Nat} {x : Str} {ps : List Str} {sp sp' : Sp} (D : Dfn P w K mg base CX k x ps sp) (h : ∀ vs H Q E, sp' vs H Q E → sp vs H Q E) : Dfn P w K mg base CX k x ps sp' := by
  obtain ⟨f, fd, F, a, b, c⟩ := D.ex
  exact ⟨f, fd, F.imp h, a, b, c⟩
end
section
variable {X : Cx} {CX : CXT} {k : Nat} {x : Str} {ps : List Str} {sp : Sp} {E : XK} {t : TA} {e : Expr} {es : List Expr} {p pos : Pos}
theorem pe_dcall (D : Dfn X.prog X.w X.K X.mg X.base CX k x ps sp) (hr : Room k X.A) (hg : Gl X x) (hx : Passes CX X E) (ha : PA X (e :: es) t) (hdb : (x == ("__debug__" : Str)) = false := by decide)
    (he : starEach (e :: es) X.env = (false, eval e X.env) :: starEach es X.env := by rfl) (hpl : (backTo pos (starEach es X.env)).any (·.1) = false := by rfl) : PE X (.Call (.Name x p) (e :: es) [] pos) (tCall sp [] E t) := by
  obtain ⟨f, fd, F, hm, hk, hb⟩ := D.ex
  exact pe_call F hr hg hm hk hb .nil hx ha hdb he hpl
theorem pe_dcall0 (D : Dfn X.prog X.w X.K X.mg X.base CX k x ps sp) (hr : Room k X.A) (hg : Gl X x) (hx : Passes CX X E) (hdb : (x == ("__debug__" : Str)) = false := by decide) : PE X (.Call (.Name x p) [] [] pos) (tCall sp [] E tNil) := by
  obtain ⟨f, fd, F, hm, hk, hb⟩ := D.ex
  exact pe_call0 F hr hg hm hk hb .nil hx hdb
end
/-! ### own errors, objects, methods by their names -/
/-- an own error class without an __init__, over ValueError -/
structure Exn (K : PySem.W.Frag) (mg : Str → Option Value) (x : Str) (C : Addr) : Prop where
  gC : mg x = some (.ref C)
  kC : PySem.W.keepIn K (.ref C) = true
  xI : PySem.W.excIn K C [.type "ValueError", .type "Exception", .type "BaseException", .type "object"] "ValueError.__new__" = true
  bE : PySem.W.subIn K (.ref C) (.type "BaseException") = some true
  tE : PySem.W.typeIn K (.ref C) = some (.type "type")
  eE : PySem.W.exmOne K (.ref C) (.ref C) = some true
section
variable {X : Cx} {C : Addr} {x : Str} {p pos : Pos}
/-- X() of such a class -/
theorem pmk_x (N : Exn X.K X.mg x C) (hg : Gl X x) (hdb : (x == ("__debug__" : Str)) = false := by decide) : PMk X (.Call (.Name x p) [] [] pos) (fun _ H Q => Q (.ref C) none H) := fun pins s σ H Q I h => by
  refine wpAny_Call_Name_kw (ld_glob I hg N.gC ?_ hdb)
  refine PySem.W.callWith_K0 (first := []) I.kIn N.kC ?_
  obtain ⟨m1, m2, m3, m4, m5, m6, m7, m8, m9, m10, m11, r0, r1, r2, r3, r4, mN, hC, hN, hi, tl⟩ := exc_obj I.kIn N.xI
  exact wpAny_call_exc_subT PySem.F.excBase_ValueError tl hC hN hi (fun _ _ made => mk_of I made (raises_own N.bE N.tE) h (I.hok.gone made.new)) (Nat.zero_le _)
end
section
variable {P : Program} {w : World} {K : PySem.W.Frag} {mg : Str → Option Value} {base : Heap}
/-- a method of the class at C -/
structure Mth (P : Program) (w : World) (K : PySem.W.Frag) (mg : Str → Option Value) (base : Heap) (CX : CXT) (k : Nat) (C : Addr) (m : Str) (ps : List Str) (sp : Sp) : Prop where
  ex : ∃ f fd, FnOk P w K mg base CX k f fd ps sp ∧ Meth K C m f ∧ Binds K fd ps [] ∧ Cls K C
/-- the making of its instances -/
structure Mkr (P : Program) (w : World) (K : PySem.W.Frag) (mg : Str → Option Value) (base : Heap) (CX : CXT) (k : Nat) (x : Str) (C : Addr) (ps : List Str) (sp : Sp) : Prop where
  ex : ∃ f fd, Mk K C f ∧ FnOk P w K mg base CX k f fd ps sp ∧ Binds K fd ps [] ∧ mg x = some (.ref C)
end
section
variable {X : Cx} {CX : CXT} {k : Nat} {C : Addr} {m x : Str} {ps : List Str} {sp : Sp} {E : XK} {t : TA} {ta : TE} {e o : Expr} {es : List Expr} {p pos apos : Pos}
theorem pe_dmeth {pl : Sem Bool} (he : PE X o ta) (D : Mth X.prog X.w X.K X.mg X.base CX k C m ps sp) (hr : Room k X.A) (hx : Passes CX X E) (ha : PA X (e :: es) t)
    (hst : starEach (e :: es) X.env = (false, eval e X.env) :: starEach es X.env := by rfl) (hpl : (backTo pos (starEach es X.env)).any (·.1) = false := by rfl)
    (ht : eval (.Call (.Attribute o m apos) (e :: es) [] pos) X.env = (do
      let ov ← eval o X.env
      standAt apos.atName
      let (f, first) ← holding [ov] (getMethod ov m pl)
      callWith pos f first (backTo pos (starEach (e :: es) X.env)) (backToKw pos (keywordEach [] X.env))) := by rfl) :
    PE X (.Call (.Attribute o m apos) (e :: es) [] pos) (tMeth C m sp [] E ta t) := by
  obtain ⟨f, fd, F, hm, hb, c⟩ := D.ex
  exact pe_meth (pl := pl) he c hm F hr hb .nil hx ha hst hpl ht
theorem pe_dmeth0 {pl : Sem Bool} (he : PE X o ta) (D : Mth X.prog X.w X.K X.mg X.base CX k C m ps sp) (hr : Room k X.A) (hx : Passes CX X E)
    (ht : eval (.Call (.Attribute o m apos) [] [] pos) X.env = (do
      let ov ← eval o X.env
      standAt apos.atName
      let (f, first) ← holding [ov] (getMethod ov m pl)
      callWith pos f first (backTo pos (starEach [] X.env)) (backToKw pos (keywordEach [] X.env))) := by rfl) :
    PE X (.Call (.Attribute o m apos) [] [] pos) (tMeth C m sp [] E ta tNil) := by
  obtain ⟨f, fd, F, hm, hb, c⟩ := D.ex
  exact pe_meth0 (pl := pl) he c hm F hr hb .nil hx ht
theorem pe_dmake (D : Mkr X.prog X.w X.K X.mg X.base CX k x C ps sp) (hr : Room (k + 1) X.A) (hg : Gl X x) (hx : Passes CX X E) (ha : PA X (e :: es) t) (hdb : (x == ("__debug__" : Str)) = false := by decide)
    (he : starEach (e :: es) X.env = (false, eval e X.env) :: starEach es X.env := by rfl) (hpl : (backTo pos (starEach es X.env)).any (·.1) = false := by rfl) : PE X (.Call (.Name x p) (e :: es) [] pos) (tMake C sp [] E t) := by
  obtain ⟨f, fd, M, F, hb, hm⟩ := D.ex
  exact pe_make M F hr hg hm hb .nil hx ha hdb he hpl
/-- out of a try's body: what is wished at all slots -/
abbrev EA (W : WX) : XK := fun cls d H => ∀ σ, W cls d σ H
theorem passT {W : WX} (tk : Takes X W) : Passes (L2.CX X.prog X.w) X (EA W) := passes_call tk fun _ _ σ _ h => h σ
end
/-! ### heaps -/
/-- all but a is kept -/
def Chg (a : Addr) (H H' : Hp) : Prop := ∀ b o, b ≠ a → H b = some o → H' b = some o
/-- tuples never change -/
def TS (H H' : Hp) : Prop := ∀ b xs, H b = some (.tup xs) → H' b = some (.tup xs)
theorem TS.refl (H : Hp) : TS H H := fun _ _ h => h
theorem TS.trans {H H1 H2 : Hp} (a : TS H H1) (b : TS H1 H2) : TS H H2 := fun c xs h => b c xs (a c xs h)
theorem Same.ts {H H' : Hp} (s : Same H H') : TS H H' := fun b xs h => s b _ h
theorem Chg.refl (a : Addr) (H : Hp) : Chg a H H := fun _ _ _ h => h
theorem Chg.trans {a : Addr} {H H1 H2 : Hp} (x : Chg a H H1) (y : Chg a H1 H2) : Chg a H H2 := fun b o n h => y b o n (x b o n h)
theorem Same.chg {a : Addr} {H H' : Hp} (s : Same H H') : Chg a H H' := fun b o _ h => s b o h
theorem Same.new {H : Hp} {p : Addr} {o : HO} (h : H p = none) : Same H (upd H p o) := fun b u e => by
  rw [upd_ne (ne_of_none e h)]
  exact e
theorem Chg.upd {a : Addr} {H : Hp} {o : HO} : Chg a H (upd H a o) := fun b u n e => by
  rw [upd_ne n]
  exact e
theorem Chg.ts {a : Addr} {H H' : Hp} {xs : List V} (c : Chg a H H') (h : H a = some (.lst xs)) : TS H H' := fun b ys e => c b _ (ne_of e h (by intro z; cases z)) e
/-- a new object may change at will -/
theorem Same.mut {H H' : Hp} {p : Addr} {o : HO} (s : Same H H') (h : H p = none) : Same H (L2.upd H' p o) := fun b u e => by
  rw [upd_ne (ne_of_none e h)]
  exact s b u e
theorem Chg.mut {a : Addr} {H H' : Hp} {p : Addr} {o : HO} (s : Chg a H H') (h : H p = none) : Chg a H (L2.upd H' p o) := fun b u n e => by
  rw [upd_ne (ne_of_none e h)]
  exact s b u n e
/-- a word that the steps do not look into -/
@[irreducible] def Hide (p : Prop) : Prop := p
theorem hide {p : Prop} (h : p) : Hide p := by unfold Hide; exact h
theorem Hide.out {p : Prop} (h : Hide p) : p := by unfold Hide at h; exact h
/-! ### small lemmas of readings -/
theorem iteD {c : Prop} [Decidable c] {A B : Prop} (h1 : c → A) (h2 : ¬ c → B) : if decide c = true then A else B := by
  by_cases h : c
  · rw [if_pos (decide_eq_true h)]; exact h1 h
  · rw [if_neg (by rw [decide_eq_false h]; decide)]; exact h2 h
theorem iteDn {c : Prop} [Decidable c] {A B : Prop} (h1 : ¬ c → A) (h2 : c → B) : if (!decide c) = true then A else B := by
  by_cases h : c
  · rw [if_neg (by rw [decide_eq_true h]; decide)]; exact h2 h
  · rw [if_pos (by rw [decide_eq_false h]; rfl)]; exact h1 h
theorem iteB {b : Bool} {A B : Prop} (h1 : b = true → A) (h2 : b = false → B) : if b = true then A else B := by
  cases b
  · rw [if_neg Bool.false_ne_true]; exact h2 rfl
  · rw [if_pos rfl]; exact h1 rfl
theorem at0 {a : V} {l : List V} : atI (a :: l) 0 = some a := by
  rw [show (0 : Int) = ((0 : Nat) : Int) from rfl]; exact atI_nat (by rfl)
theorem atC {xs : List V} {i : Int} {v : V} (j : Nat) (e : i = (j : Int)) (h : xs[j]? = some v) : atI xs i = some v := by rw [e]; exact atI_nat h
theorem ixC {n : Nat} {i : Int} (j : Nat) (e : i = (j : Int)) (h : j < n) : ixN n i = some j := by
  subst e
  unfold ixN
  rw [if_pos (by omega), if_pos (by omega)]
  simp
theorem szl {n : Nat} (h : Nat.ble n 100 = true) : n ≤ sizeLine := Nat.le_trans (Nat.le_of_ble_eq_true h) (by decide)
theorem szn {n : Nat} (h : n ≤ 100000) : n ≤ sizeLine := Nat.le_trans h (by decide)
theorem szt {n : Nat} (h : n < 100000) : n < sizeLine := Nat.lt_of_lt_of_le h (by decide)
/-! ### data over the heap -/
mutual
inductive Dt (H : Hp) : V → PyData → Prop
  | non : Dt H .non .none
  | bl (b : Bool) : Dt H (.bl b) (.bool b)
  | int (i : Int) : Dt H (.int i) (.int i)
  | str (x : Str) : Dt H (.str x) (.str x)
  | lst {a : Addr} {xs : List V} {ds : List PyData} : H a = some (.lst xs) → DtAll H xs ds → Dt H (.ref a) (.list ds)
  | tup {a : Addr} {xs : List V} {ds : List PyData} : H a = some (.tup xs) → DtAll H xs ds → Dt H (.ref a) (.tuple ds)
inductive DtAll (H : Hp) : List V → List PyData → Prop
  | nil : DtAll H [] []
  | cons {v : V} {vs : List V} {d : PyData} {ds : List PyData} : Dt H v d → DtAll H vs ds → DtAll H (v :: vs) (d :: ds)
end
mutual
def tonly : PyData → Bool
  | .list _ => false
  | .dict _ => false
  | .tuple xs => tonlyAll xs
  | _ => true
def tonlyAll : List PyData → Bool
  | [] => true
  | x :: xs => tonly x && tonlyAll xs
end
mutual
theorem Dt.same {H H' : Hp} (s : Same H H') : ∀ {d : PyData} {v : V}, Dt H v d → Dt H' v d
  | .none, _, h => by cases h; exact .non
  | .bool b, _, h => by cases h; exact .bl b
  | .int i, _, h => by cases h; exact .int i
  | .str x, _, h => by cases h; exact .str x
  | .list ds, _, h => by
    cases h with
    | lst ha hs => exact .lst (s _ _ ha) (DtAll.same s hs)
  | .tuple ds, _, h => by
    cases h with
    | tup ha hs => exact .tup (s _ _ ha) (DtAll.same s hs)
  | .dict _, _, h => by cases h
theorem DtAll.same {H H' : Hp} (s : Same H H') : ∀ {ds : List PyData} {vs : List V}, DtAll H vs ds → DtAll H' vs ds
  | [], _, h => by cases h; exact .nil
  | d :: ds, _, h => by
    cases h with
    | cons h1 h2 => exact .cons (Dt.same s h1) (DtAll.same s h2)
end
mutual
theorem Dt.ts {H H' : Hp} (s : TS H H') : ∀ {d : PyData} {v : V}, tonly d = true → Dt H v d → Dt H' v d
  | .none, _, _, h => by cases h; exact .non
  | .bool b, _, _, h => by cases h; exact .bl b
  | .int i, _, _, h => by cases h; exact .int i
  | .str x, _, _, h => by cases h; exact .str x
  | .list ds, _, t, h => by unfold tonly at t; cases t
  | .tuple ds, _, t, h => by
    unfold tonly at t
    cases h with
    | tup ha hs => exact .tup (s _ _ ha) (DtAll.ts s t hs)
  | .dict _, _, _, h => by cases h
theorem DtAll.ts {H H' : Hp} (s : TS H H') : ∀ {ds : List PyData} {vs : List V}, tonlyAll ds = true → DtAll H vs ds → DtAll H' vs ds
  | [], _, _, h => by cases h; exact .nil
  | d :: ds, _, t, h => by
    unfold tonlyAll at t
    rw [Bool.and_eq_true] at t
    cases h with
    | cons h1 h2 => exact .cons (Dt.ts s t.1 h1) (DtAll.ts s t.2 h2)
end
mutual
theorem Dt.dp {K : PySem.W.Frag} {H : Hp} : ∀ {d : PyData} {v : V}, Dt H v d → Dp K H v d
  | .none, _, h => by cases h; exact .non
  | .bool b, _, h => by cases h; exact .bl b
  | .int i, _, h => by cases h; exact .int i
  | .str x, _, h => by cases h; exact .str x
  | .list ds, _, h => by
    cases h with
    | lst ha hs => exact .lst (SqL.of ha) (DtAll.dp hs)
  | .tuple ds, _, h => by
    cases h with
    | tup ha hs => exact .tup (SqT.of ha) (DtAll.dp hs)
  | .dict _, _, h => by cases h
theorem DtAll.dp {K : PySem.W.Frag} {H : Hp} : ∀ {ds : List PyData} {vs : List V}, DtAll H vs ds → DpAll K H vs ds
  | [], _, h => by cases h; exact .nil
  | d :: ds, _, h => by
    cases h with
    | cons h1 h2 => exact .cons (Dt.dp h1) (DtAll.dp h2)
end
theorem DtAll.len {H : Hp} : ∀ {ds : List PyData} {vs : List V}, DtAll H vs ds → vs.length = ds.length
  | [], _, h => by cases h; rfl
  | d :: ds, _, h => by
    cases h with
    | cons h1 h2 => rw [List.length_cons, List.length_cons, DtAll.len h2]
theorem DtAll.get {H : Hp} : ∀ {ds : List PyData} {vs : List V} {i : Nat} {d : PyData}, DtAll H vs ds → ds[i]? = some d → ∃ v, vs[i]? = some v ∧ Dt H v d
  | [], _, i, d, h, e => by simp at e
  | d :: ds, _, 0, d', h, e => by
    cases h with
    | cons h1 h2 => simp at e; subst e; exact ⟨_, rfl, h1⟩
  | d :: ds, _, i + 1, d', h, e => by
    cases h with
    | cons h1 h2 =>
      obtain ⟨v, a, b⟩ := DtAll.get (i := i) h2 (by simpa using e)
      exact ⟨v, by simpa using a, b⟩
theorem DtAll.getV {H : Hp} : ∀ {ds : List PyData} {vs : List V} {i : Nat} {v : V}, DtAll H vs ds → vs[i]? = some v → ∃ d, ds[i]? = some d ∧ Dt H v d
  | [], _, i, d, h, e => by cases h; simp at e
  | d :: ds, _, 0, d', h, e => by
    cases h with
    | cons h1 h2 => simp at e; subst e; exact ⟨_, rfl, h1⟩
  | d :: ds, _, i + 1, d', h, e => by
    cases h with
    | cons h1 h2 =>
      obtain ⟨v, a, b⟩ := DtAll.getV (i := i) h2 (by simpa using e)
      exact ⟨v, by simpa using a, b⟩
theorem DtAll.append {H : Hp} : ∀ {ds es : List PyData} {vs us : List V}, DtAll H vs ds → DtAll H us es → DtAll H (vs ++ us) (ds ++ es)
  | [], _, _, _, h, h' => by cases h; exact h'
  | d :: ds, _, _, _, h, h' => by
    cases h with
    | cons h1 h2 => exact .cons h1 (DtAll.append h2 h')
/-! ### data that == may look at -/
theorem lay_all : ∀ {ds : List PyData}, (∀ d ∈ ds, d.canLay0 = true) → PyData.canLayAll0 ds = true
  | [], _ => by rw [PyData.canLayAll0]
  | d :: ds, h => by
    rw [PyData.canLayAll0, h d List.mem_cons_self, lay_all fun e he => h e (List.mem_cons_of_mem _ he)]; rfl
theorem dep_all {n : Nat} : ∀ {ds : List PyData}, (∀ d ∈ ds, d.depth ≤ n) → PyData.depthAll ds ≤ n
  | [], _ => by rw [PyData.depthAll]; exact Nat.zero_le _
  | d :: ds, h => by
    rw [PyData.depthAll]
    exact Nat.max_le.mpr ⟨h d List.mem_cons_self, dep_all fun e he => h e (List.mem_cons_of_mem _ he)⟩
/-- shaped, of so little depth -/
def Sh (n : Nat) (d : PyData) : Prop := d.canLay0 = true ∧ d.depth ≤ n
theorem Sh.int (n : Nat) (i : Int) : Sh n (.int i) := ⟨by rw [PyData.canLay0], by rw [PyData.depth]; exact Nat.zero_le _⟩
theorem Sh.bool (n : Nat) (i : Bool) : Sh n (.bool i) := ⟨by rw [PyData.canLay0], by rw [PyData.depth]; exact Nat.zero_le _⟩
theorem Sh.none (n : Nat) : Sh n .none := ⟨by rw [PyData.canLay0], by rw [PyData.depth]; exact Nat.zero_le _⟩
theorem Sh.tup {n : Nat} {ds : List PyData} (h : ∀ d ∈ ds, Sh n d) : Sh (n + 1) (.tuple ds) := ⟨by rw [PyData.canLay0]; exact lay_all fun d hd => (h d hd).1, by rw [PyData.depth]; exact Nat.succ_le_succ (dep_all fun d hd => (h d hd).2)⟩
theorem Sh.lst {n : Nat} {ds : List PyData} (h : ∀ d ∈ ds, Sh n d) : Sh (n + 1) (.list ds) := ⟨by rw [PyData.canLay0]; exact lay_all fun d hd => (h d hd).1, by rw [PyData.depth]; exact Nat.succ_le_succ (dep_all fun d hd => (h d hd).2)⟩
theorem Sh.ok {n : Nat} {d : PyData} (h : Sh n d) (hn : n ≤ 64 := by decide) : SeqAt.shaped d = true := by
  unfold SeqAt.shaped
  rw [h.1, decide_eq_true (Nat.le_trans h.2 hn)]; rfl
def tyName : PyData → String
  | .none => "NoneType"
  | .bool _ => "bool"
  | .int _ => "int"
  | .str _ => "str"
  | .list _ => "list"
  | .tuple _ => "tuple"
  | .dict _ => "dict"
theorem Dt.ty {K : PySem.W.Frag} {H : Hp} : ∀ {d : PyData} {v : V}, Dt H v d → TyX K H v (.type (tyName d))
  | .none, _, h => by cases h; exact .base .non
  | .bool b, _, h => by cases h; exact .base (.bl b)
  | .int i, _, h => by cases h; exact .base (.int i)
  | .str x, _, h => by cases h; exact .base (.str x)
  | .list ds, _, h => by
    cases h with
    | lst ha hs => exact .base (.lst ha)
  | .tuple ds, _, h => by
    cases h with
    | tup ha hs => exact .base (.tup ha)
  | .dict _, _, h => by cases h
def isNoneD : PyData → Bool
  | .none => true
  | _ => false
theorem Dt.isNon {H : Hp} {d : PyData} {v : V} (h : Dt H v d) : decide (v = V.non) = isNoneD d := by
  cases h <;> rfl
def isIntD : PyData → Bool
  | .int _ => true
  | .bool _ => true
  | _ => false
def isBoolD : PyData → Bool
  | .bool _ => true
  | _ => false
def isTupD : PyData → Bool
  | .tuple _ => true
  | _ => false
def isListD : PyData → Bool
  | .list _ => true
  | _ => false
theorem kitInt : ∀ d : PyData, kitB (tyName d) "int" = some (isIntD d)
  | .none => (by decide +kernel : kitB "NoneType" "int" = some false)
  | .bool _ => (by decide +kernel : kitB "bool" "int" = some true)
  | .int _ => (by decide +kernel : kitB "int" "int" = some true)
  | .str _ => (by decide +kernel : kitB "str" "int" = some false)
  | .list _ => (by decide +kernel : kitB "list" "int" = some false)
  | .tuple _ => (by decide +kernel : kitB "tuple" "int" = some false)
  | .dict _ => (by decide +kernel : kitB "dict" "int" = some false)
theorem kitBool : ∀ d : PyData, kitB (tyName d) "bool" = some (isBoolD d)
  | .none => (by decide +kernel : kitB "NoneType" "bool" = some false)
  | .bool _ => (by decide +kernel : kitB "bool" "bool" = some true)
  | .int _ => (by decide +kernel : kitB "int" "bool" = some false)
  | .str _ => (by decide +kernel : kitB "str" "bool" = some false)
  | .list _ => (by decide +kernel : kitB "list" "bool" = some false)
  | .tuple _ => (by decide +kernel : kitB "tuple" "bool" = some false)
  | .dict _ => (by decide +kernel : kitB "dict" "bool" = some false)
theorem kitTup : ∀ d : PyData, kitB (tyName d) "tuple" = some (isTupD d)
  | .none => (by decide +kernel : kitB "NoneType" "tuple" = some false)
  | .bool _ => (by decide +kernel : kitB "bool" "tuple" = some false)
  | .int _ => (by decide +kernel : kitB "int" "tuple" = some false)
  | .str _ => (by decide +kernel : kitB "str" "tuple" = some false)
  | .list _ => (by decide +kernel : kitB "list" "tuple" = some false)
  | .tuple _ => (by decide +kernel : kitB "tuple" "tuple" = some true)
  | .dict _ => (by decide +kernel : kitB "dict" "tuple" = some false)
theorem kitList : ∀ d : PyData, kitB (tyName d) "list" = some (isListD d)
  | .none => (by decide +kernel : kitB "NoneType" "list" = some false)
  | .bool _ => (by decide +kernel : kitB "bool" "list" = some false)
  | .int _ => (by decide +kernel : kitB "int" "list" = some false)
  | .str _ => (by decide +kernel : kitB "str" "list" = some false)
  | .list _ => (by decide +kernel : kitB "list" "list" = some true)
  | .tuple _ => (by decide +kernel : kitB "tuple" "list" = some false)
  | .dict _ => (by decide +kernel : kitB "dict" "list" = some false)
theorem r_isi {K : PySem.W.Frag} {H : Hp} {v : V} {d : PyData} {T : String} {b : Bool} {Q : VK} (h : Dt H v d) (e : kitB (tyName d) T = some b) (k : Q (.bl b) H) : rIsi K [v, .ty T] H Q :=
  ⟨_, _, _, _, _, rfl, .ty _, h.ty, kit_ty e, k⟩
/-- lo ≤ i ≤ hi, of a whole number -/
def isI (d : PyData) (lo hi : Int) : Bool := match d with
  | .int i => decide (lo ≤ i) && decide (i ≤ hi)
  | _ => false
def geI (d : PyData) (lo : Int) : Bool := match d with
  | .int i => decide (lo ≤ i)
  | _ => false
def spGe : Sp := fun vs H Q _ => ∃ v d lo, vs = [v, .int lo] ∧ Dt H v d ∧ Q (.bl (geI d lo)) H
def spBtw : Sp := fun vs H Q _ => ∃ v d lo hi, vs = [v, .int lo, .int hi] ∧ Dt H v d ∧ Q (.bl (isI d lo hi)) H
def spIdx : Sp := fun vs H Q _ => ∃ v d n, vs = [v, .int n] ∧ Dt H v d ∧ Q (.bl (isI d 0 (n - 1))) H
def spWord : Sp := fun vs H Q _ => ∃ v d, vs = [v] ∧ Dt H v d ∧ Q (.bl (isI d 0 4294967295)) H
theorem Dt.new {H : Hp} {p : Addr} {xs : List V} {ds : List PyData} (h : DtAll H xs ds) (hp : H p = none) : Dt (upd H p (.tup xs)) (.ref p) (.tuple ds) := .tup upd_same (h.same (Same.new hp))
/-- t + u of data -/
theorem r_catD {K : PySem.W.Frag} {H : Hp} {v u : V} {ds es : List PyData} {Q : VK} (h1 : Dt H v (.tuple ds)) (h2 : Dt H u (.tuple es)) (hz : ds.length + es.length ≤ 100000) (k : ∀ v' H', Same H H' → Dt H' v' (.tuple (ds ++ es)) → Q v' H') : rCatA K v u H Q := by
  cases h1 with
  | @tup a xs _ ha hs =>
    cases h2 with
    | @tup b ys _ hb ht =>
      refine ⟨a, b, xs, ys, rfl, rfl, SqT.of ha, SqT.of hb, szn (by rw [hs.len, ht.len]; exact hz), fun e => ?_, fun _ e => ?_, fun _ _ p hp => ?_⟩
      · subst e
        have : ds = [] := List.length_eq_zero_iff.mp (by rw [← hs.len]; rfl)
        subst this
        exact k _ _ (Same.refl H) (.tup hb ht)
      · subst e
        have : es = [] := List.length_eq_zero_iff.mp (by rw [← ht.len]; rfl)
        subst this
        rw [List.append_nil] at k
        exact k _ _ (Same.refl H) (.tup ha hs)
      · exact k _ _ (Same.new hp) (Dt.new (hs.append ht) hp)
/-! ### comprehensions whose elements change nothing that stood -/
theorem take_snoc {α : Type} {l : List α} {i : Nat} {y : α} (h : l[i]? = some y) : l.take i ++ [y] = l.take (i + 1) := by
  rw [List.take_add_one, h]; rfl
section
variable {K : PySem.W.Frag} {g : TG} {te : TE} {vs : List Nat} {σ : L2.St} {H : Hp} {D : Addr} {Qd : Hp → Prop}
/-- over a tuple: ys are the elements -/
theorem lcT {a : Addr} {xs : List V} (ys : List V) (hl : ys.length = xs.length) (hz : xs.length < 100000) (hx : H a = some (.tup xs)) (hD : H D = none)
    (step : ∀ (j : Nat) (x y : V) (H1 : Hp) (Q' : VK), xs[j]? = some x → ys[j]? = some y → Same H H1 → (∀ H2, Same H1 H2 → Q' y H2) → g x (wipe σ vs) H1 fun σ2 H2 => wipe σ2 vs = wipe σ vs ∧ te σ2 H2 Q')
    (k : ∀ H1, Same H H1 → H1 D = some (.lst ys) → Qd H1) :
    ∃ W : Nat → Nat → Hp → Prop, (∃ m, W 0 m (upd H D (.lst []))) ∧ ∀ i m H, W i m H →
      ((Itt K a).stop i H ∧ Qd H) ∨ ((Itt K a).go i H ∧ ∃ Nx : Hp → Prop, (∀ H', Nx H' → ∃ m', m' < m ∧ W (i + 1) m' H') ∧ ∀ x H', (Itt K a).yld i H x H' → g x (wipe σ vs) H' fun σ2 H2 => wipe σ2 vs = wipe σ vs ∧ tYes σ2 H2 fun b H3 =>
        if b = true then te σ2 H3 fun y H4 => ∃ acc, H4 D = some (.lst acc) ∧ acc.length < sizeLine ∧ Nx (upd H4 D (.lst (acc ++ [y]))) else Nx H3) := by
  refine lc_tup (K := K) (xs := xs) (fun i H1 => Same H H1 ∧ H1 D = some (.lst (ys.take i))) ⟨Same.new hD, upd_same⟩ (fun i H1 _ h => SqT.of (h.1 _ _ hx)) ?_ ?_
  · rintro i x H1 hi ⟨s1, d1⟩
    have hil : i < xs.length := (List.getElem?_eq_some_iff.mp hi).1
    have hy : ys[i]? = some ys[i] := List.getElem?_eq_getElem (by omega)
    refine step i x _ H1 _ hi hy s1 fun H2 s2 => ?_
    refine ⟨_, s2 _ _ d1, ?_, Same.mut (s1.trans s2) hD, ?_⟩
    · rw [List.length_take]
      exact Nat.lt_of_lt_of_le (Nat.lt_of_le_of_lt (Nat.min_le_right _ _) (by omega : ys.length < 100000)) (by decide)
    · rw [take_snoc hy]; exact upd_same
  · rintro H1 ⟨s1, d1⟩
    rw [List.take_of_length_le (by omega)] at d1
    exact k H1 s1 d1
/-- over a list: ys are the elements -/
theorem lcL {a : Addr} {xs : List V} (ys : List V) (hl : ys.length = xs.length) (hz : xs.length < 100000) (hx : H a = some (.lst xs)) (hD : H D = none)
    (step : ∀ (j : Nat) (x y : V) (H1 : Hp) (Q' : VK), xs[j]? = some x → ys[j]? = some y → Same H H1 → (∀ H2, Same H1 H2 → Q' y H2) → g x (wipe σ vs) H1 fun σ2 H2 => wipe σ2 vs = wipe σ vs ∧ te σ2 H2 Q')
    (k : ∀ H1, Same H H1 → H1 D = some (.lst ys) → Qd H1) :
    ∃ W : Nat → Nat → Hp → Prop, (∃ m, W 0 m (upd H D (.lst []))) ∧ ∀ i m H, W i m H →
      ((Itl K a).stop i H ∧ Qd H) ∨ ((Itl K a).go i H ∧ ∃ Nx : Hp → Prop, (∀ H', Nx H' → ∃ m', m' < m ∧ W (i + 1) m' H') ∧ ∀ x H', (Itl K a).yld i H x H' → g x (wipe σ vs) H' fun σ2 H2 => wipe σ2 vs = wipe σ vs ∧ tYes σ2 H2 fun b H3 =>
        if b = true then te σ2 H3 fun y H4 => ∃ acc, H4 D = some (.lst acc) ∧ acc.length < sizeLine ∧ Nx (upd H4 D (.lst (acc ++ [y]))) else Nx H3) := by
  refine lc_list (K := K) (xs := xs) (fun i H1 => Same H H1 ∧ H1 D = some (.lst (ys.take i))) ⟨Same.new hD, upd_same⟩ (fun i H1 _ h => SqL.of (h.1 _ _ hx)) ?_ ?_
  · rintro i x H1 hi ⟨s1, d1⟩
    have hil : i < xs.length := (List.getElem?_eq_some_iff.mp hi).1
    have hy : ys[i]? = some ys[i] := List.getElem?_eq_getElem (by omega)
    refine step i x _ H1 _ hi hy s1 fun H2 s2 => ?_
    refine ⟨_, s2 _ _ d1, ?_, Same.mut (s1.trans s2) hD, ?_⟩
    · rw [List.length_take]
      exact Nat.lt_of_lt_of_le (Nat.lt_of_le_of_lt (Nat.min_le_right _ _) (by omega : ys.length < 100000)) (by decide)
    · rw [take_snoc hy]; exact upd_same
  · rintro H1 ⟨s1, d1⟩
    rw [List.take_of_length_le (by omega)] at d1
    exact k H1 s1 d1
theorem lcR {lo : Int} {n : Nat} (ys : List V) (hl : ys.length = n) (hz : n < 100000) (hD : H D = none)
    (step : ∀ (j : Nat) (y : V) (H1 : Hp) (Q' : VK), ys[j]? = some y → Same H H1 → (∀ H2, Same H1 H2 → Q' y H2) → g (.int (lo + j)) (wipe σ vs) H1 fun σ2 H2 => wipe σ2 vs = wipe σ vs ∧ te σ2 H2 Q')
    (k : ∀ H1, Same H H1 → H1 D = some (.lst ys) → Qd H1) :
    ∃ W : Nat → Nat → Hp → Prop, (∃ m, W 0 m (upd H D (.lst []))) ∧ ∀ i m H, W i m H →
      ((Itr lo n).stop i H ∧ Qd H) ∨ ((Itr lo n).go i H ∧ ∃ Nx : Hp → Prop, (∀ H', Nx H' → ∃ m', m' < m ∧ W (i + 1) m' H') ∧ ∀ x H', (Itr lo n).yld i H x H' → g x (wipe σ vs) H' fun σ2 H2 => wipe σ2 vs = wipe σ vs ∧ tYes σ2 H2 fun b H3 =>
        if b = true then te σ2 H3 fun y H4 => ∃ acc, H4 D = some (.lst acc) ∧ acc.length < sizeLine ∧ Nx (upd H4 D (.lst (acc ++ [y]))) else Nx H3) := by
  refine lc_range (fun i H1 => Same H H1 ∧ H1 D = some (.lst (ys.take i))) ⟨Same.new hD, upd_same⟩ ?_ ?_
  · rintro i H1 hi ⟨s1, d1⟩
    have hy : ys[i]? = some ys[i] := List.getElem?_eq_getElem (by omega)
    refine step i _ H1 _ hy s1 fun H2 s2 => ?_
    refine ⟨_, s2 _ _ d1, ?_, Same.mut (s1.trans s2) hD, ?_⟩
    · rw [List.length_take]
      exact Nat.lt_of_lt_of_le (Nat.lt_of_le_of_lt (Nat.min_le_right _ _) (by omega : ys.length < 100000)) (by decide)
    · rw [take_snoc hy]; exact upd_same
  · rintro H1 ⟨s1, d1⟩
    rw [List.take_of_length_le (by omega)] at d1
    exact k H1 s1 d1
end
end My

namespace My
open PySem
/-! ### trees as data -/
abbrev Row3 := Nat × Nat × Nat
abbrev Path := List Row3
abbrev Kid := Nat × PyData
abbrev Br := Nat × Nat × List Kid
def chD (c : Kid) : PyData := .tuple [.int c.1, c.2]
def brD (b : Br) : PyData := .tuple [.int b.1, .int b.2.1, .tuple (b.2.2.map chD)]
def trD (ns : List Int) (bs : List Br) : PyData := .tuple [.tuple (ns.map .int), .tuple (bs.map brD)]
def emD : PyData := trD [] []
def kids (bs : List Br) (i m : Nat) : List Kid := match bs.find? (fun b => b.1 == i && b.2.1 == m) with | some b => b.2.2 | none => []
def kid (cs : List Kid) (v : Nat) : PyData := match cs.find? (fun c => c.1 == v) with | some c => c.2 | none => emD
def brLt (a b : Br) : Prop := a.1 < b.1 ∨ (a.1 = b.1 ∧ a.2.1 < b.2.1)
def kLt (a b : Kid) : Prop := a.1 < b.1
structure KsOk (N : Nat) (cs : List Kid) : Prop where
  len : cs.length ≤ N
  up : cs.Pairwise kLt
  ne : ∀ c ∈ cs, c.2 ≠ emD
structure BsOk (N : Nat) (bs : List Br) : Prop where
  len : bs.length ≤ N
  up : bs.Pairwise brLt
  ix : ∀ b ∈ bs, b.1 < 6
  ne : ∀ b ∈ bs, b.2.2 ≠ []
  ks : ∀ b ∈ bs, KsOk N b.2.2
def Rep (N : Nat) : Nat → (Path → List Int) → PyData → Prop
  | 0, f, d => ∃ ns, d = trD ns [] ∧ f [] = ns ∧ ns.length ≤ N ∧ ∀ r p, f (r :: p) = []
  | n + 1, f, d => ∃ ns bs, d = trD ns bs ∧ f [] = ns ∧ ns.length ≤ N ∧ BsOk N bs ∧ ∀ i m v, Rep N n (fun p => f ((i, m, v) :: p)) (kid (kids bs i m) v)
theorem chD_inj : ∀ x y : Kid, chD x = chD y → x = y
  | (a, b), (c, d), h => by
    unfold chD at h
    injection h with h
    injection h with h1 h2
    injection h1 with h1
    injection h2 with h2 _
    have : a = c := by exact Int.ofNat.inj h1
    subst this; subst h2; rfl
theorem brD_inj : ∀ x y : Br, brD x = brD y → x = y
  | (a, b, c), (a', b', c'), h => by
    unfold brD at h
    injection h with h
    injection h with h1 h
    injection h with h2 h
    injection h with h3 _
    injection h1 with h1
    injection h2 with h2
    injection h3 with h3
    have e1 : a = a' := Int.ofNat.inj h1
    have e2 : b = b' := Int.ofNat.inj h2
    have e3 := (List.map_inj_right chD_inj).mp h3
    subst e1; subst e2
    rw [show c = c' from e3]
theorem trD_inj {ns ns' : List Int} {bs bs' : List Br} (h : trD ns bs = trD ns' bs') : ns = ns' ∧ bs = bs' := by
  unfold trD at h
  injection h with h
  injection h with h1 h
  injection h with h2 _
  injection h1 with h1
  injection h2 with h2
  exact ⟨(List.map_inj_right fun x y e => by injection e).mp h1, (List.map_inj_right brD_inj).mp h2⟩
/-! ### sorted lists of distinct keys -/
theorem asc_ext {α : Type} {R : α → α → Prop} (as : ∀ x y, R x y → ¬ R y x) : ∀ {l l' : List α}, l.Pairwise R → l'.Pairwise R → (∀ x, x ∈ l ↔ x ∈ l') → l = l'
  | [], [], _, _, _ => rfl
  | [], y :: l', _, _, h => absurd ((h y).mpr List.mem_cons_self) (by simp)
  | x :: l, [], _, _, h => absurd ((h x).mp List.mem_cons_self) (by simp)
  | x :: l, y :: l', h1, h2, h => by
    obtain ⟨a1, b1⟩ := List.pairwise_cons.mp h1
    obtain ⟨a2, b2⟩ := List.pairwise_cons.mp h2
    have e : x = y := by
      rcases List.mem_cons.mp ((h x).mp List.mem_cons_self) with e | e
      · exact e
      · rcases List.mem_cons.mp ((h y).mpr List.mem_cons_self) with e' | e'
        · exact e'.symm
        · exact absurd (a2 x e) (as _ _ (a1 y e'))
    subst e
    rw [asc_ext as b1 b2 fun z => ⟨fun hz => ?_, fun hz => ?_⟩]
    · rcases List.mem_cons.mp ((h z).mp (List.mem_cons_of_mem _ hz)) with e | e
      · subst e; exact absurd (a1 z hz) (as _ _ (a1 z hz))
      · exact e
    · rcases List.mem_cons.mp ((h z).mpr (List.mem_cons_of_mem _ hz)) with e | e
      · subst e; exact absurd (a2 z hz) (as _ _ (a2 z hz))
      · exact e
theorem kLt_as : ∀ x y, kLt x y → ¬ kLt y x := fun x y h h' => by unfold kLt at *; omega
theorem brLt_as : ∀ x y, brLt x y → ¬ brLt y x := fun x y h h' => by unfold brLt at *; omega
theorem kid_nil (v : Nat) : kid [] v = emD := rfl
theorem kids_nil (i m : Nat) : kids [] i m = [] := rfl
theorem kid_cons (c : Kid) (cs : List Kid) (v : Nat) : kid (c :: cs) v = if c.1 = v then c.2 else kid cs v := by
  unfold kid
  by_cases h : c.1 = v
  · rw [List.find?_cons_of_pos (by simpa using h), if_pos h]
  · rw [List.find?_cons_of_neg (by simpa using h), if_neg h]
theorem kids_cons (b : Br) (bs : List Br) (i m : Nat) : kids (b :: bs) i m = if b.1 = i ∧ b.2.1 = m then b.2.2 else kids bs i m := by
  unfold kids
  by_cases h : b.1 = i ∧ b.2.1 = m
  · rw [List.find?_cons_of_pos (by simpa using h), if_pos h]
  · rw [List.find?_cons_of_neg (by simpa using h), if_neg h]
theorem kid_mem : ∀ {cs : List Kid}, cs.Pairwise kLt → ∀ c ∈ cs, kid cs c.1 = c.2
  | [], _, c, h => by cases h
  | x :: cs, hp, c, h => by
    rw [kid_cons]
    obtain ⟨a, b⟩ := List.pairwise_cons.mp hp
    rcases List.mem_cons.mp h with e | h
    · subst e; rw [if_pos rfl]
    · have := a c h
      unfold kLt at this
      rw [if_neg (by omega)]
      exact kid_mem b c h
theorem kids_mem : ∀ {bs : List Br}, bs.Pairwise brLt → ∀ b ∈ bs, kids bs b.1 b.2.1 = b.2.2
  | [], _, c, h => by cases h
  | x :: cs, hp, c, h => by
    rw [kids_cons]
    obtain ⟨a, b⟩ := List.pairwise_cons.mp hp
    rcases List.mem_cons.mp h with e | h
    · subst e; rw [if_pos ⟨rfl, rfl⟩]
    · have := a c h
      unfold brLt at this
      rw [if_neg (by omega)]
      exact kids_mem b c h
theorem kid_some : ∀ {cs : List Kid} {v : Nat}, kid cs v ≠ emD → (v, kid cs v) ∈ cs
  | [], v, h => absurd rfl h
  | x :: cs, v, h => by
    rw [kid_cons] at h ⊢
    by_cases e : x.1 = v
    · rw [if_pos e]; subst e; exact List.mem_cons_self
    · rw [if_neg e] at h ⊢; exact List.mem_cons_of_mem _ (kid_some h)
theorem kids_some : ∀ {bs : List Br} {i m : Nat}, kids bs i m ≠ [] → (i, m, kids bs i m) ∈ bs
  | [], i, m, h => absurd rfl h
  | x :: cs, i, m, h => by
    rw [kids_cons] at h ⊢
    by_cases e : x.1 = i ∧ x.2.1 = m
    · rw [if_pos e]; obtain ⟨rfl, rfl⟩ := e; exact List.mem_cons_self
    · rw [if_neg e] at h ⊢; exact List.mem_cons_of_mem _ (kids_some h)
theorem BsOk.kids {N : Nat} {bs : List Br} (h : BsOk N bs) (i m : Nat) : KsOk N (kids bs i m) := by
  by_cases e : My.kids bs i m = []
  · rw [e]; exact ⟨Nat.zero_le _, .nil, fun c h => by cases h⟩
  · exact h.ks _ (kids_some e)
theorem ks_ext {N N' : Nat} {cs cs' : List Kid} (h : KsOk N cs) (h' : KsOk N' cs') (e : ∀ v, kid cs v = kid cs' v) : cs = cs' := by
  have go : ∀ {N N'} {cs cs' : List Kid}, KsOk N cs → KsOk N' cs' → (∀ v, kid cs v = kid cs' v) → ∀ c ∈ cs, c ∈ cs' := fun {N N' cs cs'} h h' e c hc => by
    have h1 := kid_mem h.up c hc
    have h2 : kid cs' c.1 ≠ emD := by rw [← e, h1]; exact h.ne c hc
    have h3 := kid_some h2
    rw [← e, h1] at h3
    exact h3
  exact asc_ext kLt_as h.up h'.up fun x => ⟨go h h' e x, go h' h (fun v => (e v).symm) x⟩
theorem bs_ext {N N' : Nat} {bs bs' : List Br} (h : BsOk N bs) (h' : BsOk N' bs') (e : ∀ i m, kids bs i m = kids bs' i m) : bs = bs' := by
  have go : ∀ {N N'} {bs bs' : List Br}, BsOk N bs → BsOk N' bs' → (∀ i m, kids bs i m = kids bs' i m) → ∀ b ∈ bs, b ∈ bs' := fun {N N' bs bs'} h h' e c hc => by
    have h1 := kids_mem h.up c hc
    have h2 : kids bs' c.1 c.2.1 ≠ [] := by rw [← e, h1]; exact h.ne c hc
    have h3 := kids_some h2
    rw [← e, h1] at h3
    exact h3
  exact asc_ext brLt_as h.up h'.up fun x => ⟨go h h' e x, go h' h (fun i m => (e i m).symm) x⟩
/-! ### what a tree says -/
theorem Rep.mono {N N' : Nat} (hN : N ≤ N') : ∀ {n : Nat} {f : Path → List Int} {d : PyData}, Rep N n f d → Rep N' n f d
  | 0, f, d, ⟨ns, a, b, c, e⟩ => ⟨ns, a, b, by omega, e⟩
  | n + 1, f, d, ⟨ns, bs, a, b, c, e, g⟩ => ⟨ns, bs, a, b, by omega, ⟨by have := e.len; omega, e.up, e.ix, e.ne, fun b hb => ⟨by have := (e.ks b hb).len; omega, (e.ks b hb).up, (e.ks b hb).ne⟩⟩, fun i m v => (g i m v).mono hN⟩
theorem Rep.em {N : Nat} : ∀ {n : Nat} {f : Path → List Int}, (∀ p, f p = []) → Rep N n f emD
  | 0, f, h => ⟨[], rfl, h [], Nat.zero_le _, fun r p => h _⟩
  | n + 1, f, h => ⟨[], [], rfl, h [], Nat.zero_le _, ⟨Nat.zero_le _, .nil, fun _ z => (by cases z), fun _ z => (by cases z), fun _ z => (by cases z)⟩, fun i m v => Rep.em fun p => h _⟩
theorem Rep.of_em {N : Nat} : ∀ {n : Nat} {f : Path → List Int}, Rep N n f emD → ∀ p, f p = []
  | 0, f, ⟨ns, a, b, c, e⟩, p => by
    obtain ⟨h1, _⟩ := trD_inj (show trD [] [] = trD ns [] from a)
    cases p with
    | nil => rw [b, ← h1]
    | cons r p => exact e r p
  | n + 1, f, ⟨ns, bs, a, b, c, e, g⟩, p => by
    obtain ⟨h1, h2⟩ := trD_inj (show trD [] [] = trD ns bs from a)
    subst h2
    cases p with
    | nil => rw [b, ← h1]
    | cons r p => exact (g r.1 r.2.1 r.2.2).of_em p
theorem Rep.ne {N : Nat} : ∀ {n : Nat} {f : Path → List Int} {d : PyData}, Rep N n f d → d ≠ emD → ∃ p, f p ≠ []
  | 0, f, d, ⟨ns, a, b, c, e⟩, h => ⟨[], by
    rw [b]
    intro z
    subst z
    exact h a⟩
  | n + 1, f, d, ⟨ns, bs, a, b, c, e, g⟩, h => by
    cases ns with
    | cons x ns => exact ⟨[], by rw [b]; simp⟩
    | nil =>
      cases bs with
      | nil => exact absurd a h
      | cons x bs =>
        have hx := e.ne x List.mem_cons_self
        have hk := e.ks x List.mem_cons_self
        obtain ⟨i, m, cs⟩ := x
        cases cs with
        | nil => exact absurd rfl hx
        | cons y cs =>
          have g' := g i m y.1
          rw [kids_cons, if_pos ⟨rfl, rfl⟩] at g'
          rw [show kid (((i, m, y :: cs) : Br).2.2) y.1 = y.2 by rw [show (((i, m, y :: cs) : Br).2.2) = y :: cs from rfl, kid_cons, if_pos rfl]] at g'
          obtain ⟨p, hp⟩ := g'.ne (hk.ne y List.mem_cons_self)
          exact ⟨_, hp⟩
theorem Rep.uniq {N N' : Nat} : ∀ {n : Nat} {f : Path → List Int} {d d' : PyData}, Rep N n f d → Rep N' n f d' → d = d'
  | 0, f, d, d', ⟨ns, a, b, c, e⟩, ⟨ns', a', b', c', e'⟩ => by rw [a, a', ← b, ← b']
  | n + 1, f, d, d', ⟨ns, bs, a, b, c, e, g⟩, ⟨ns', bs', a', b', c', e', g'⟩ => by
    rw [a, a', ← b, ← b']
    rw [bs_ext e e' fun i m => ks_ext (e.kids i m) (e'.kids i m) fun v => (g i m v).uniq (g' i m v)]
/-- other names at one path -/
def fset (f : Path → List Int) (p : Path) (ns : List Int) : Path → List Int := fun q => if q = p then ns else f q
theorem Rep.top {N n : Nat} {f : Path → List Int} {ns0 ns : List Int} {bs : List Br} (h : Rep N (n + 1) f (trD ns0 bs)) (hl : ns.length ≤ N) : Rep N (n + 1) (fset f [] ns) (trD ns bs) := by
  obtain ⟨ns', bs', a, b, c, e, g⟩ := h
  obtain ⟨rfl, rfl⟩ := trD_inj a
  refine ⟨ns, _, rfl, if_pos rfl, hl, e, fun i m v => ?_⟩
  rw [show (fun p => fset f [] ns ((i, m, v) :: p)) = fun p => f ((i, m, v) :: p) from funext fun p => if_neg (by simp)]
  exact g i m v
theorem Rep.deep {N n : Nat} {f : Path → List Int} {ns0 ns : List Int} {bs bs' : List Br} {d' : PyData} {i m v : Nat} {p : Path} {cs' : List Kid} (h : Rep N (n + 1) f (trD ns0 bs)) (hb : BsOk (N + 1) bs')
    (hk : ∀ w, kid cs' w = if w = v then d' else kid (kids bs i m) w) (hbk : ∀ j l, kids bs' j l = if j = i ∧ l = m then cs' else kids bs j l) (hd : Rep (N + 1) n (fset (fun q => f ((i, m, v) :: q)) p ns) d') :
    Rep (N + 1) (n + 1) (fset f ((i, m, v) :: p) ns) (trD ns0 bs') := by
  obtain ⟨ns', bs0, a, b, c, e, g⟩ := h
  obtain ⟨rfl, rfl⟩ := trD_inj a
  refine ⟨ns0, _, rfl, by rw [← b]; exact if_neg (by simp), by omega, hb, fun j l w => ?_⟩
  rw [hbk]
  by_cases h1 : j = i ∧ l = m
  · obtain ⟨rfl, rfl⟩ := h1
    rw [if_pos ⟨rfl, rfl⟩, hk]
    by_cases h2 : w = v
    · subst h2
      rw [if_pos rfl]
      rw [show (fun q => fset f ((j, l, w) :: p) ns ((j, l, w) :: q)) = fset (fun q => f ((j, l, w) :: q)) p ns from funext fun q => by unfold fset; simp]
      exact hd
    · rw [if_neg h2, show (fun q => fset f ((j, l, v) :: p) ns ((j, l, w) :: q)) = fun q => f ((j, l, w) :: q) from funext fun q => if_neg (by simp [h2])]
      exact (g j l w).mono (Nat.le_succ _)
  · rw [if_neg h1, show (fun q => fset f ((i, m, v) :: p) ns ((j, l, w) :: q)) = fun q => f ((j, l, w) :: q) from funext fun q => if_neg (fun z => h1 (by injection z with z _; injection z with z1 z; injection z with z2 _; exact ⟨z1, z2⟩))]
    exact (g j l w).mono (Nat.le_succ _)
theorem Rep.names {N n : Nat} {f : Path → List Int} {d : PyData} (h : Rep N n f d) : ∃ ns bs, d = trD ns bs ∧ f [] = ns ∧ ns.length ≤ N ∧ BsOk N bs ∧ (n = 0 → bs = []) := by
  cases n with
  | zero =>
    obtain ⟨ns, a, b, c, e⟩ := h
    exact ⟨ns, [], a, b, c, ⟨Nat.zero_le _, .nil, fun _ z => (by cases z), fun _ z => (by cases z), fun _ z => (by cases z)⟩, fun _ => rfl⟩
  | succ n =>
    obtain ⟨ns, bs, a, b, c, e, g⟩ := h
    exact ⟨ns, bs, a, b, c, e, fun z => by cases z⟩
/-- a tree of less depth is one of more -/
theorem Rep.more {N : Nat} : ∀ {n : Nat} {f : Path → List Int} {d : PyData}, Rep N n f d → Rep N (n + 1) f d
  | 0, f, d, ⟨ns, a, b, c, e⟩ => ⟨ns, [], a, b, c, ⟨Nat.zero_le _, .nil, fun _ z => (by cases z), fun _ z => (by cases z), fun _ z => (by cases z)⟩, fun i m v => Rep.em fun p => e _ p⟩
  | n + 1, f, d, ⟨ns, bs, a, b, c, e, g⟩ => ⟨ns, bs, a, b, c, e, fun i m v => (g i m v).more⟩
theorem Rep.down {N n : Nat} {f : Path → List Int} {ns : List Int} {bs : List Br} (h : Rep N n f (trD ns bs)) (i m v : Nat) : Rep N (n - 1) (fun p => f ((i, m, v) :: p)) (kid (kids bs i m) v) := by
  cases n with
  | zero =>
    obtain ⟨ns', a, b, c, e⟩ := h
    obtain ⟨rfl, rfl⟩ := trD_inj a
    exact Rep.em fun p => e _ p
  | succ n =>
    obtain ⟨ns', bs', a, b, c, e, g⟩ := h
    obtain ⟨rfl, rfl⟩ := trD_inj a
    exact g i m v
/-! ### putting into sorted lists -/
theorem kid_perm {cs cs' : List Kid} (hp : cs'.Perm cs) (up : cs'.Pairwise kLt) (nd : cs.Pairwise (fun a b => a.1 ≠ b.1)) (v : Nat) : kid cs' v = kid cs v := by
  have mem : ∀ {cs : List Kid}, cs.Pairwise (fun a b => a.1 ≠ b.1) → ∀ c ∈ cs, kid cs c.1 = c.2 := fun {cs} => by
    induction cs with
    | nil => intro _ c h; cases h
    | cons x cs ih =>
      intro hp c h
      rw [kid_cons]
      obtain ⟨a, b⟩ := List.pairwise_cons.mp hp
      rcases List.mem_cons.mp h with e | h
      · subst e; rw [if_pos rfl]
      · rw [if_neg (a c h)]; exact ih b c h
  cases e : cs.find? (fun c => c.1 == v) with
  | some c =>
    have hc := List.mem_of_find?_eq_some e
    have hv : c.1 = v := by simpa using List.find?_some e
    rw [← hv, mem nd c hc, kid_mem up c (hp.mem_iff.mpr hc)]
  | none =>
    have e2 : cs'.find? (fun c => c.1 == v) = none := List.find?_eq_none.mpr fun x hx => List.find?_eq_none.mp e x (hp.mem_iff.mp hx)
    unfold kid
    rw [e, e2]
theorem kids_perm {bs bs' : List Br} (hp : bs'.Perm bs) (up : bs'.Pairwise brLt) (nd : bs.Pairwise (fun a b => a.1 ≠ b.1 ∨ a.2.1 ≠ b.2.1)) (i m : Nat) : kids bs' i m = kids bs i m := by
  have mem : ∀ {cs : List Br}, cs.Pairwise (fun a b => a.1 ≠ b.1 ∨ a.2.1 ≠ b.2.1) → ∀ c ∈ cs, kids cs c.1 c.2.1 = c.2.2 := fun {cs} => by
    induction cs with
    | nil => intro _ c h; cases h
    | cons x cs ih =>
      intro hp c h
      rw [kids_cons]
      obtain ⟨a, b⟩ := List.pairwise_cons.mp hp
      rcases List.mem_cons.mp h with e | h
      · subst e; rw [if_pos ⟨rfl, rfl⟩]
      · rw [if_neg (by have := a c h; omega)]; exact ih b c h
  cases e : bs.find? (fun c => c.1 == i && c.2.1 == m) with
  | some c =>
    have hc := List.mem_of_find?_eq_some e
    have hv : c.1 = i ∧ c.2.1 = m := by simpa using List.find?_some e
    rw [← hv.1, ← hv.2, mem nd c hc, kids_mem up c (hp.mem_iff.mpr hc)]
  | none =>
    have e2 : bs'.find? (fun c => c.1 == i && c.2.1 == m) = none := List.find?_eq_none.mpr fun x hx => List.find?_eq_none.mp e x (hp.mem_iff.mp hx)
    unfold kids
    rw [e, e2]
theorem kid_without (cs : List Kid) (v w : Nat) : kid (cs.filter (fun c => decide (c.1 ≠ v))) w = if w = v then emD else kid cs w := by
  induction cs with
  | nil => simp [kid_nil]
  | cons x cs ih =>
    by_cases h : x.1 = v
    · rw [List.filter_cons_of_neg (by simp [h]), ih, kid_cons]
      by_cases h2 : w = v
      · rw [if_pos h2, if_pos h2]
      · rw [if_neg h2, if_neg h2, if_neg (by omega)]
    · rw [List.filter_cons_of_pos (by simp [h]), kid_cons, ih, kid_cons]
      by_cases h2 : w = v
      · rw [if_pos h2, if_pos h2, if_neg (by omega)]
      · rw [if_neg h2, if_neg h2]
theorem kids_without (cs : List Br) (i m j l : Nat) : kids (cs.filter (fun c => decide (c.1 ≠ i) || decide (c.2.1 ≠ m))) j l = if j = i ∧ l = m then [] else kids cs j l := by
  induction cs with
  | nil => simp [kids_nil]
  | cons x cs ih =>
    by_cases h : x.1 = i ∧ x.2.1 = m
    · rw [List.filter_cons_of_neg (by simp [h]), ih, kids_cons]
      by_cases h2 : j = i ∧ l = m
      · rw [if_pos h2, if_pos h2]
      · rw [if_neg h2, if_neg h2, if_neg (by omega)]
    · rw [List.filter_cons_of_pos (by simp; omega), kids_cons, ih, kids_cons]
      by_cases h2 : j = i ∧ l = m
      · rw [if_pos h2, if_pos h2, if_neg (by omega)]
      · rw [if_neg h2, if_neg h2]
theorem kid_snoc (cs : List Kid) (v w : Nat) (d : PyData) (h : ∀ c ∈ cs, c.1 ≠ v) : kid (cs ++ [(v, d)]) w = if w = v then d else kid cs w := by
  induction cs with
  | nil =>
    rw [List.nil_append, kid_cons, kid_nil]
    by_cases h2 : w = v
    · rw [if_pos h2, if_pos h2.symm]
    · rw [if_neg h2, if_neg (fun z => h2 z.symm)]
  | cons x cs ih =>
    have hx := h x List.mem_cons_self
    rw [List.cons_append, kid_cons, ih fun c hc => h c (List.mem_cons_of_mem _ hc), kid_cons]
    by_cases h2 : w = v
    · rw [if_pos h2, if_pos h2, if_neg (by omega)]
    · rw [if_neg h2, if_neg h2]
theorem kids_snoc (cs : List Br) (i m j l : Nat) (ks : List Kid) (h : ∀ c ∈ cs, c.1 ≠ i ∨ c.2.1 ≠ m) : kids (cs ++ [(i, m, ks)]) j l = if j = i ∧ l = m then ks else kids cs j l := by
  induction cs with
  | nil =>
    rw [List.nil_append, kids_cons, kids_nil]
    by_cases h2 : j = i ∧ l = m
    · rw [if_pos h2, if_pos ⟨h2.1.symm, h2.2.symm⟩]
    · rw [if_neg h2, if_neg (fun z => h2 ⟨z.1.symm, z.2.symm⟩)]
  | cons x cs ih =>
    have hx := h x List.mem_cons_self
    rw [List.cons_append, kids_cons, ih fun c hc => h c (List.mem_cons_of_mem _ hc), kids_cons]
    by_cases h2 : j = i ∧ l = m
    · rw [if_pos h2, if_pos h2, if_neg (by omega)]
    · rw [if_neg h2, if_neg h2]
/-! ### the packets that meet -/
def Met (pk : List Nat) (p : Path) : Prop := ∀ r ∈ p, pk.getD r.1 0 &&& r.2.1 = r.2.2
/-- each name at one path, once -/
structure Sep (f : Path → List Int) : Prop where
  nd : ∀ p, (f p).Nodup
  one : ∀ p q x, x ∈ f p → x ∈ f q → p = q
theorem Sep.down {f : Path → List Int} (h : Sep f) (r : Row3) : Sep (fun p => f (r :: p)) := ⟨fun p => h.nd _, fun p q x a b => by have := h.one _ _ x a b; injection this⟩
/-- the names behind the first branches -/
structure Mets (pk : List Nat) (f : Path → List Int) (bs : List Br) (L : List Int) : Prop where
  nd : L.Nodup
  iff : ∀ x, x ∈ L ↔ x ∈ f [] ∨ ∃ b ∈ bs, ∃ p, Met pk p ∧ x ∈ f ((b.1, b.2.1, pk.getD b.1 0 &&& b.2.1) :: p)
structure MetL (pk : List Nat) (f : Path → List Int) (L : List Int) : Prop where
  nd : L.Nodup
  iff : ∀ x, x ∈ L ↔ ∃ p, Met pk p ∧ x ∈ f p
theorem Mets.start {pk : List Nat} {f : Path → List Int} (h : Sep f) : Mets pk f [] (f []) := ⟨h.nd _, fun x => ⟨.inl, fun h => by
  rcases h with h | ⟨b, hb, _⟩
  · exact h
  · cases hb⟩⟩
theorem Mets.snoc {pk : List Nat} {f : Path → List Int} {bs : List Br} {b : Br} {L M : List Int} (h : Sep f) (hL : Mets pk f bs L) (hb : ∀ c ∈ bs, c.1 ≠ b.1 ∨ c.2.1 ≠ b.2.1) (hM : MetL pk (fun p => f ((b.1, b.2.1, pk.getD b.1 0 &&& b.2.1) :: p)) M) : Mets pk f (bs ++ [b]) (L ++ M) := by
  refine ⟨List.nodup_append.mpr ⟨hL.nd, hM.nd, fun x hx y hy e => ?_⟩, fun x => ?_⟩
  · subst e
    obtain ⟨q, _, hq⟩ := (hM.iff x).mp hy
    rcases (hL.iff x).mp hx with hx | ⟨c, hc, p, _, hp⟩
    · have := h.one _ _ x hx hq
      cases this
    · have := h.one _ _ x hp hq
      injection this with e _
      injection e with e1 e2
      injection e2 with e2 _
      rcases hb c hc with z | z
      · exact z e1
      · exact z e2
  · rw [List.mem_append, hL.iff, hM.iff]
    constructor
    · rintro ((a | ⟨c, hc, a⟩) | ⟨p, m, hp⟩)
      · exact .inl a
      · exact .inr ⟨c, List.mem_append_left _ hc, a⟩
      · exact .inr ⟨b, List.mem_append_right _ List.mem_cons_self, p, m, hp⟩
    · rintro (a | ⟨c, hc, p, m, hp⟩)
      · exact .inl (.inl a)
      · rcases List.mem_append.mp hc with hc | hc
        · exact .inl (.inr ⟨c, hc, p, m, hp⟩)
        · rw [List.mem_singleton.mp hc] at hp
          exact .inr ⟨p, m, hp⟩
theorem Mets.done {N n : Nat} {pk : List Nat} {f : Path → List Int} {ns : List Int} {bs : List Br} {L : List Int} (hr : Rep N n f (trD ns bs)) (h : Mets pk f bs L) : MetL pk f L := by
  refine ⟨h.nd, fun x => ?_⟩
  rw [h.iff]
  constructor
  · rintro (a | ⟨b, hb, p, m, hp⟩)
    · exact ⟨[], fun r z => (by cases z), a⟩
    · exact ⟨_, fun r hr => by
        rcases List.mem_cons.mp hr with e | hr
        · subst e; rfl
        · exact m r hr, hp⟩
  · rintro ⟨p, m, hp⟩
    cases p with
    | nil => exact .inl hp
    | cons r p =>
      have m0 := m r List.mem_cons_self
      have h1 := hr.down r.1 r.2.1 r.2.2
      have h2 : kid (kids bs r.1 r.2.1) r.2.2 ≠ emD := fun z => by
        rw [z] at h1
        have := h1.of_em p
        rw [show f ((r.1, r.2.1, r.2.2) :: p) = [] from this] at hp
        cases hp
      have h3 : kids bs r.1 r.2.1 ≠ [] := fun z => by rw [z] at h2; exact h2 rfl
      refine .inr ⟨_, kids_some h3, p, fun r' hr' => m r' (List.mem_cons_of_mem _ hr'), ?_⟩
      show x ∈ f ((r.1, r.2.1, pk.getD r.1 0 &&& r.2.1) :: p)
      rw [m0]; exact hp
/-! ### the names of a set of filters -/
def Asc (ns : List Int) : Prop := ns.Pairwise (· < ·)
theorem Asc.ext {l l' : List Int} (h : Asc l) (h' : Asc l') (e : ∀ x, x ∈ l ↔ x ∈ l') : l = l' := asc_ext (fun x y a b => by omega) h h' e
theorem Asc.nd {l : List Int} (h : Asc l) : l.Nodup := List.Pairwise.imp (fun {a b} (z : a < b) => by omega) h
structure Desc (f : Path → List Int) (S : Int → Prop) (T : Int → Path) : Prop where
  asc : ∀ p, Asc (f p)
  iff : ∀ p x, x ∈ f p ↔ S x ∧ T x = p
theorem Desc.uniq {f g : Path → List Int} {S : Int → Prop} {T : Int → Path} (h : Desc f S T) (h' : Desc g S T) : f = g := funext fun p => (h.asc p).ext (h'.asc p) fun x => by rw [h.iff, h'.iff]
theorem Desc.sep {f : Path → List Int} {S : Int → Prop} {T : Int → Path} (h : Desc f S T) : Sep f := ⟨fun p => (h.asc p).nd, fun p q x a b => by rw [← ((h.iff p x).mp a).2, ← ((h.iff q x).mp b).2]⟩
theorem Desc.nil (T : Int → Path) : Desc (fun _ => []) (fun _ => False) T := ⟨fun _ => .nil, fun p x => ⟨fun z => (by cases z), fun z => z.1.elim⟩⟩
theorem Desc.add {f : Path → List Int} {S : Int → Prop} {T : Int → Path} {x : Int} {ns : List Int} (h : Desc f S T) (hx : ¬ S x) (hp : ns.Perm (f (T x) ++ [x])) (hs : ns.Pairwise (· ≤ ·)) : Desc (fset f (T x) ns) (fun y => S y ∨ y = x) T := by
  have nd : ns.Nodup := hp.nodup_iff.mpr (List.nodup_append.mpr ⟨(h.asc _).nd, by simp, fun a ha b hb e => by
    rw [List.mem_singleton.mp hb] at e; subst e
    exact hx ((h.iff _ _).mp ha).1⟩)
  have as : Asc ns := (List.pairwise_and_iff.mpr ⟨hs, nd⟩ : ns.Pairwise fun a b => a ≤ b ∧ a ≠ b).imp fun {a b} z => by omega
  refine ⟨fun p => ?_, fun p y => ?_⟩
  · unfold fset
    by_cases e : p = T x
    · rw [if_pos e]; exact as
    · rw [if_neg e]; exact h.asc p
  · unfold fset
    by_cases e : p = T x
    · rw [if_pos e, hp.mem_iff, List.mem_append, h.iff, List.mem_singleton]
      constructor
      · rintro (⟨a, b⟩ | rfl)
        · exact ⟨.inl a, b.trans e.symm⟩
        · exact ⟨.inr rfl, e.symm⟩
      · rintro ⟨a | a, b⟩
        · exact .inl ⟨a, b.trans e⟩
        · exact .inr a
    · rw [if_neg e, h.iff]
      constructor
      · rintro ⟨a, b⟩; exact ⟨.inl a, b⟩
      · rintro ⟨a | rfl, b⟩
        · exact ⟨a, b⟩
        · exact absurd b.symm e
theorem Desc.del {f : Path → List Int} {S : Int → Prop} {T : Int → Path} {x : Int} (h : Desc f S T) : Desc (fset f (T x) ((f (T x)).filter (fun y => decide (y ≠ x)))) (fun y => S y ∧ y ≠ x) T := by
  refine ⟨fun p => ?_, fun p y => ?_⟩
  · unfold fset
    by_cases e : p = T x
    · rw [if_pos e]; exact List.Pairwise.filter _ (h.asc _)
    · rw [if_neg e]; exact h.asc p
  · unfold fset
    by_cases e : p = T x
    · rw [if_pos e, List.mem_filter, h.iff, decide_eq_true_eq]
      constructor
      · rintro ⟨⟨a, b⟩, c⟩; exact ⟨⟨a, c⟩, b.trans e.symm⟩
      · rintro ⟨⟨a, c⟩, b⟩; exact ⟨⟨a, b.trans e⟩, c⟩
    · rw [if_neg e, h.iff]
      constructor
      · rintro ⟨a, b⟩
        exact ⟨⟨a, fun z => e (by rw [← b, z])⟩, b⟩
      · rintro ⟨⟨a, _⟩, b⟩; exact ⟨a, b⟩
theorem Desc.congr {f : Path → List Int} {S S' : Int → Prop} {T : Int → Path} (h : Desc f S T) (e : ∀ x, S x ↔ S' x) : Desc f S' T := ⟨h.asc, fun p x => by rw [h.iff, e]⟩
theorem Desc.met {f : Path → List Int} {S : Int → Prop} {T : Int → Path} {pk : List Nat} {L : List Int} (h : Desc f S T) (m : MetL pk f L) (x : Int) : x ∈ L ↔ S x ∧ Met pk (T x) := by
  rw [m.iff]
  constructor
  · rintro ⟨p, a, b⟩
    obtain ⟨c, d⟩ := (h.iff p x).mp b
    rw [d]; exact ⟨c, a⟩
  · rintro ⟨a, b⟩
    exact ⟨T x, b, (h.iff _ _).mpr ⟨a, rfl⟩⟩
end My

namespace My
open PySem L2
theorem units1 {k : Nat} {A : Around} (r : Room k A) : A.units + 1 < cLine := by have := r.un; omega
theorem pe_gref {X : Cx} {x : Str} {A : Addr} {pos : Pos} (hg : Gl X x) (hm : X.mg x = some (.ref A)) (hd : (x == ("__debug__" : Str)) = false := by decide) : PE X (.Name x pos) (tC (.ref A)) := pe_glob hg hm rfl hd
/-! ### sorted of rows (int, int, anything) or (int, anything) with different keys -/
section
open PySem.Spec PyProof.Rows SrtO Srt
def rowA (two : Bool) (k : Int × Int) (t u : Tok) (c : Value) : Array Value := if two then #[.int k.1 t, .int k.2 u, c] else #[.int k.1 t, c]
def IsRow (h : Heap) (two : Bool) (v : Value) (k : Int × Int) : Prop := ∃ a o t u c n, v = .ref a ∧ h.get? a = some o ∧ o.cls = .type "tuple" ∧ o.data = .seq (rowA two k t u c) n
theorem IsRow.keeps {h h' : Heap} {two : Bool} {v : Value} {k : Int × Int} (p : IsRow h two v k) (kk : ∀ b o, h.get? b = some o → o.cls = .type "tuple" → h'.get? b = some o) : IsRow h' two v k := by
  obtain ⟨a, o, t, u, c, n, e, ho, hc, hd⟩ := p
  exact ⟨a, o, t, u, c, n, e, kk a o ho hc, hc, hd⟩
section
variable {prog : Program} {w : World} {A : Around} {s : Shared} {E : Value → Shared → Prop}
theorem row_cmp {vs : List Value} {two : Bool} {k : Value → Int × Int} (hp : ∀ v ∈ vs, IsRow s.heap two v (k v)) (h2 : two = false → ∀ v ∈ vs, (k v).2 = 0) (hu : ∀ v ∈ vs, ∀ u ∈ vs, k v = k u → v = u) : Cmp prog w A s (tuples' true) (fun p => p.1 ∈ vs) (lt2 fun v u => lexB (k v) (k u)) := by
  intro p q hm hm'
  have h1 := hp _ hm
  have h1' := hp _ hm'
  have hkk := hu _ hm _ hm'
  have hz : two = false → (k p.1).2 = (k q.1).2 := fun e => by rw [h2 e _ hm, h2 e _ hm']
  show wpAny (model prog w) A (keyLt' (tuples' true) p.1 q.1) (fun r s' => s' = s ∧ r = lexB (k p.1) (k q.1)) (fun _ _ => False) s
  unfold lexB
  generalize k p.1 = kp at h1 hkk hz ⊢
  generalize k q.1 = kq at h1' hkk hz ⊢
  obtain ⟨x, y⟩ := kp
  obtain ⟨x', y'⟩ := kq
  obtain ⟨a, o, t, u, c, n, e, ho, hc, hd⟩ := h1
  obtain ⟨a', o', t', u', c', n', e', ho', hc', hd'⟩ := h1'
  have same : x = x' → y = y' → c = c' := fun ex ey => by
    have := hkk (by rw [ex, ey])
    rw [e, e'] at this
    cases this
    rw [ho] at ho'
    cases ho'
    rw [hd] at hd'
    injection hd' with hd' _
    unfold rowA at hd'
    cases two
    · simp at hd'; exact hd'.2
    · simp at hd'; exact hd'.2.2
  rw [e, e']
  refine PySem.W.kat_lt ho hd ho' hd' ?_
  have fine : ∀ (ex : x = x') (ey : y = y'), (if x = x' then decide (y < y') else decide (x < x')) = false := fun ex ey => by
    rw [if_pos ex, ey]; exact decide_eq_false (Int.lt_irrefl _)
  cases two with
  | true =>
    show PySem.W.KatLex prog w A true (decide (3 < 3)) _ [(.int x t, .int x' t'), (.int y u, .int y' u'), (c, c')] 0 s
    refine PySem.W.kat_cons (SeqAt.EqAt.int_int x t x' t' prog w _ _ ?_)
    refine PySem.W.kat_go (fun e1 => ?_) (fun e1 => ?_)
    · have ex : x = x' := by simpa using e1
      refine PySem.W.kat_yes (PySem.W.kat_cons (SeqAt.EqAt.int_int y u y' u' prog w _ _ ?_))
      refine PySem.W.kat_go (fun e2 => ?_) (fun e2 => ?_)
      · have ey : y = y' := by simpa using e2
        rw [same ex ey]
        refine PySem.W.kat_yes (PySem.W.kat_cons (SeqAt.EqAt.same c' prog w _ _ ?_))
        exact PySem.W.kat_yes (PySem.W.kat_nil ⟨rfl, (fine ex ey).symm⟩)
      · have e3 : (if x = x' then decide (y < y') else decide (x < x')) = decide (y < y') := if_pos ex
        refine PySem.W.kat_no (PySem.W.kat_one _ _ (PyProof.Rows.lt_int ?_))
        exact (show s = s ∧ decide (y < y') = (if x = x' then decide (y < y') else decide (x < x')) from ⟨rfl, e3.symm⟩)
    · have ex : ¬ x = x' := by simpa using e1
      have e3 : (if x = x' then decide (y < y') else decide (x < x')) = decide (x < x') := if_neg ex
      exact PySem.W.kat_no (oneLt_int ⟨rfl, e3.symm⟩)
  | false =>
    show PySem.W.KatLex prog w A true (decide (2 < 2)) _ [(.int x t, .int x' t'), (c, c')] 0 s
    refine PySem.W.kat_cons (SeqAt.EqAt.int_int x t x' t' prog w _ _ ?_)
    refine PySem.W.kat_go (fun e1 => ?_) (fun e1 => ?_)
    · have ex : x = x' := by simpa using e1
      have ey := hz rfl
      rw [same ex ey]
      refine PySem.W.kat_yes (PySem.W.kat_cons (SeqAt.EqAt.same c' prog w _ _ ?_))
      exact PySem.W.kat_yes (PySem.W.kat_nil ⟨rfl, (fine ex ey).symm⟩)
    · have ex : ¬ x = x' := by simpa using e1
      have e3 : (if x = x' then decide (y < y') else decide (x < x')) = decide (x < x') := if_neg ex
      exact PySem.W.kat_no (oneLt_int ⟨rfl, e3.symm⟩)
theorem firsts_row {h : Heap} {two : Bool} {k : Value → Int × Int} : ∀ {vs : List Value}, (∀ v ∈ vs, IsRow h two v (k v)) → ∃ fs : List Value, PySem.W.KatTups h vs fs ∧ fs.length = vs.length ∧ ∀ f ∈ fs, ∃ x t, f = Value.int x t
  | [], _ => ⟨[], PySem.W.KatTups.nil, rfl, fun _ hm => by simp at hm⟩
  | v :: vs, hp => by
    obtain ⟨fs, h1, h2, h3⟩ := firsts_row (vs := vs) fun v' hm => hp v' (List.mem_cons_of_mem _ hm)
    obtain ⟨a, o, t, u, c, n, e, ho, hc, hd⟩ := hp v (List.mem_cons_self ..)
    refine ⟨.int (k v).1 t :: fs, ?_, by rw [List.length_cons, List.length_cons, h2], fun f hm => ?_⟩
    · generalize k v = kv at hd
      rw [e]
      exact PySem.W.KatTups.cons ho hc hd (by unfold rowA; cases two <;> rfl) h1
    · rcases List.mem_cons.mp hm with rfl | hm
      · exact ⟨_, t, rfl⟩
      · exact h3 f hm
theorem rows_sortable {a : Addr} {vs : List Value} {two : Bool} {k : Value → Int × Int} (h0 : 0 < vs.length) (hp : ∀ v ∈ vs, IsRow s.heap two v (k v)) (h2 : two = false → ∀ v ∈ vs, (k v).2 = 0) (hu : ∀ v ∈ vs, ∀ u ∈ vs, k v = k u → v = u)
    (ha : ∀ o, s.heap.get? a = some o → o.cls ≠ .type "tuple") : SortableO prog w A s a vs fun v u => lexB (k v) (k u) := by
  intro h' keep
  have hp' : ∀ v ∈ vs, IsRow h' two v (k v) := fun v hm => (hp v hm).keeps fun b o e c => keep b o (fun z => by subst z; exact ha o e c) e
  obtain ⟨fs, h1, h2', h3⟩ := firsts_row hp'
  refine ⟨tuples' true, fun Q E hq => ?_, row_cmp hp' h2 hu⟩
  refine PySem.W.kat_kind (T := .type "int") h1 (by omega) (fun f hm => ?_) (by rfl) ?_
  · obtain ⟨x, t, rfl⟩ := h3 f hm
    exact PySem.W.Looks.now
  · have e : (Value.type "int" != Value.type "tuple") = true := by first | decide +kernel | rfl | decide
    rw [e]
    exact hq
theorem sorted_rowsO {l : Addr} {vs : List Value} {two : Bool} {k : Value → Int × Int} {Q : Value → Shared → Prop} (hl : s.heap.IsList l vs.toArray) (hz : vs.length ≤ sizeLine) (hp : ∀ v ∈ vs, IsRow s.heap two v (k v)) (h2 : two = false → ∀ v ∈ vs, (k v).2 = 0) (hu : ∀ v ∈ vs, ∀ u ∈ vs, k v = k u → v = u)
    (h : ∀ (h' : Heap) (d : Addr) (out : List Value), Srtd (fun v u => lexB (k v) (k u)) out → Stb (fun v u => lexB (k v) (k u)) out vs → (∀ b o, s.heap.get? b = some o → h'.get? b = some o) → s.heap.objs.size ≤ d → (∃ n, h'.get? d = some (seqObj "list" out.toArray n)) → Q (.ref d) { s with heap := h' }) :
    wpAny (model prog w) A (call (.builtin "sorted") [.ref l]) Q E s := by
  refine sorted_ord (swo_lex k) hl hz (fun h2' h₁ a ha kk => ?_) fun out hs hb => ?_
  · refine rows_sortable (s := { s with heap := h₁ }) (by omega) (fun v hm => (hp v hm).keeps fun b o e _ => (kk b o e).2) h2 hu fun o e => ?_
    have e' : some o = some (seqObj "list" vs.toArray 0) := e.symm.trans ha
    cases e'
    intro c
    exact absurd (Value.type.inj c) (by decide)
  · exact h _ _ out hs hb (fun b o e => sortedAll_old e) (Nat.le_succ _) (sortedAll_at s.heap vs out.toArray)
end
/-- sorted(xs), xs a list of rows (i, j, x) or (i, x) of different keys; cs goes along -/
def rSortedR (K : PySem.W.Frag) : List V → Hp → VK → Prop := fun vs H Q => ∃ (a : Addr) (xs : List V) (α : Type) (cs : List α) (key : α → Int × Int) (two : Bool), vs = [V.ref a] ∧ SqL K H a xs ∧ xs.length = cs.length ∧
  (∀ z ∈ xs.zip cs, ∃ t c, z.1 = V.ref t ∧ SqT K H t (if two then [.int (key z.2).1, .int (key z.2).2, c] else [.int (key z.2).1, c])) ∧ (two = false → ∀ c ∈ cs, (key c).2 = 0) ∧ cs.Pairwise (fun c d => key c ≠ key d) ∧
  ∀ (zs : List (V × α)) p, zs.Perm (xs.zip cs) → zs.Pairwise (fun y z => lexB (key y.2) (key z.2) = true) → H p = none → Q (.ref p) (upd H p (.lst (zs.map (·.1))))
theorem zip_fst {α β : Type} : ∀ {xs : List α} {ys : List β}, xs.length = ys.length → (xs.zip ys).map (·.1) = xs
  | [], _, _ => by simp
  | x :: xs, [], h => by simp at h
  | x :: xs, y :: ys, h => by simp at h; simp [zip_fst h]
theorem zip_snd {α β : Type} : ∀ {xs : List α} {ys : List β}, xs.length = ys.length → (xs.zip ys).map (·.2) = ys
  | [], ys, h => by cases ys with | nil => rfl | cons _ _ => simp at h
  | x :: xs, [], h => by simp at h
  | x :: xs, y :: ys, h => by simp at h; simp [zip_snd h]
open Classical in
theorem cr_sortedR {X : Cx} (K : PySem.W.Frag) (hK : X.K = K := by rfl) : CallR X (.builtin "sorted") (rSortedR K) := by
  subst hK
  intro pins s σ H vs us Q I r h
  obtain ⟨a, xs, α, cs, key, two, rfl, hs, hlen, hx, h2, hnd, q⟩ := h
  -- the payload of a value
  have uniq : ∀ z ∈ xs.zip cs, ∀ z' ∈ xs.zip cs, z.1 = z'.1 → key z.2 = key z'.2 := fun z hz z' hz' e => by
    obtain ⟨t, c, e1, q1⟩ := hx z hz
    obtain ⟨t', c', e1', q1'⟩ := hx z' hz'
    rw [e, e1'] at e1
    cases e1
    have := I.tuple_inj q1 q1'
    cases two with
    | true => simp at this; exact Prod.ext this.1 this.2.1
    | false =>
      simp at this
      exact Prod.ext this.1 (by rw [h2 rfl z.2 (List.of_mem_zip hz).2, h2 rfl z'.2 (List.of_mem_zip hz').2])
  have uniq2 : ∀ z ∈ xs.zip cs, ∀ z' ∈ xs.zip cs, z.1 = z'.1 → z = z' := fun z hz z' hz' e => by
    have hk := uniq z hz z' hz' e
    obtain ⟨i, hi, rfl⟩ := List.getElem_of_mem hz
    obtain ⟨j, hj, rfl⟩ := List.getElem_of_mem hz'
    have hi' : i < cs.length := by rw [List.length_zip] at hi; omega
    have hj' : j < cs.length := by rw [List.length_zip] at hj; omega
    have e1 : ((xs.zip cs)[i]).2 = cs[i] := by simp
    have e2 : ((xs.zip cs)[j]).2 = cs[j] := by simp
    rw [e1, e2] at hk
    have pw := List.pairwise_iff_getElem.mp hnd
    rcases Nat.lt_trichotomy i j with l | l | l
    · exact absurd hk (pw i j hi' hj' l)
    · subst l; rfl
    · exact absurd hk.symm (pw j i hj' hi' l)
  let pay : V → Option α := fun v => ((xs.zip cs).find? (fun z => decide (z.1 = v))).map (·.2)
  have pay_eq : ∀ z ∈ xs.zip cs, pay z.1 = some z.2 := fun z hz => by
    show Option.map _ _ = _
    cases e : (xs.zip cs).find? (fun y => decide (y.1 = z.1)) with
    | none => exact absurd (List.find?_eq_none.mp e z hz) (by simp)
    | some y =>
      have hy := List.mem_of_find?_eq_some e
      have he : y.1 = z.1 := by simpa using List.find?_some e
      rw [uniq2 y hy z hz he]; rfl
  let k : V → Int × Int := fun v => ((pay v).map key).getD (0, 0)
  have k_eq : ∀ z ∈ xs.zip cs, k z.1 = key z.2 := fun z hz => by show ((pay z.1).map key).getD (0, 0) = _; rw [pay_eq z hz]; rfl
  have xin : ∀ x ∈ xs, ∃ z ∈ xs.zip cs, z.1 = x := fun x hx => by
    rw [← zip_fst hlen] at hx
    obtain ⟨z, hz, e⟩ := List.mem_map.mp hx
    exact ⟨z, hz, e⟩
  obtain ⟨its, rv, hl, hz⟩ := I.list hs
  obtain ⟨u, rfl, ru⟩ := vals1 r
  obtain rfl : u = Value.ref a := ru
  obtain ⟨e1, e2⟩ := refs_back rv fun x m => by
    obtain ⟨z, hz, rfl⟩ := xin x m
    obtain ⟨t, c, e, _⟩ := hx z hz
    exact ⟨t, e⟩
  have mem : ∀ v ∈ its, backV v ∈ xs := fun v hv => by rw [e1]; exact List.mem_map.mpr ⟨_, hv, rfl⟩
  refine sorted_rowsO (two := two) (k := fun u => k (backV u)) hl.isList (by rw [← rv.length]; exact hz) (fun v hv => ?_) (fun e v hv => ?_) (fun v hv u hu' e => ?_) fun h' d out h1 h2' kp hd hn => ?_
  · obtain ⟨t, rfl⟩ := e2 v hv
    obtain ⟨z, hz, ez⟩ := xin _ (mem _ hv)
    obtain ⟨t', c, e, ht⟩ := hx z hz
    have ek := k_eq z hz
    rw [ez] at e ek
    cases e
    show IsRow s.heap two (.ref t) (k (backV (.ref t)))
    rw [ek]
    obtain ⟨its2, r2, ⟨o, ho, hc, n, hd⟩, _⟩ := I.tuple ht
    cases two with
    | true =>
      obtain ⟨u1, us, rfl, ri, r2⟩ : ∃ u1 us, its2 = u1 :: us ∧ RelV _ u1 ∧ Vals _ us := by cases r2 with | cons a b => exact ⟨_, _, rfl, a, b⟩
      obtain ⟨u2, us, rfl, rj, r2⟩ : ∃ u1 us', us = u1 :: us' ∧ RelV _ u1 ∧ Vals _ us' := by cases r2 with | cons a b => exact ⟨_, _, rfl, a, b⟩
      obtain ⟨u3, us, rfl, rk, r2⟩ : ∃ u1 us', us = u1 :: us' ∧ RelV _ u1 ∧ Vals _ us' := by cases r2 with | cons a b => exact ⟨_, _, rfl, a, b⟩
      cases r2
      obtain ⟨t1, rfl⟩ := ri
      obtain ⟨t2, rfl⟩ := rj
      exact ⟨t, o, t1, t2, u3, n, rfl, ho, hc, hd⟩
    | false =>
      obtain ⟨u1, us, rfl, ri, r2⟩ : ∃ u1 us, its2 = u1 :: us ∧ RelV _ u1 ∧ Vals _ us := by cases r2 with | cons a b => exact ⟨_, _, rfl, a, b⟩
      obtain ⟨u3, us, rfl, rk, r2⟩ : ∃ u1 us', us = u1 :: us' ∧ RelV _ u1 ∧ Vals _ us' := by cases r2 with | cons a b => exact ⟨_, _, rfl, a, b⟩
      cases r2
      obtain ⟨t1, rfl⟩ := ri
      exact ⟨t, o, t1, t1, u3, n, rfl, ho, hc, hd⟩
  · obtain ⟨z, hz, ez⟩ := xin _ (mem _ hv)
    show (k (backV v)).2 = 0
    rw [← ez, k_eq z hz]
    exact h2 e _ (List.of_mem_zip hz).2
  · obtain ⟨t, rfl⟩ := e2 v hv
    obtain ⟨t', rfl⟩ := e2 u hu'
    obtain ⟨z, hz, ez⟩ := xin _ (mem _ hv)
    obtain ⟨z', hz', ez'⟩ := xin _ (mem _ hu')
    have e' : k (backV (.ref t)) = k (backV (.ref t')) := e
    rw [← ez, ← ez', k_eq z hz, k_eq z' hz'] at e'
    have ez3 : z = z' := by
      obtain ⟨i, hi, rfl⟩ := List.getElem_of_mem hz
      obtain ⟨j, hj, rfl⟩ := List.getElem_of_mem hz'
      have hi' : i < cs.length := by rw [List.length_zip] at hi; omega
      have hj' : j < cs.length := by rw [List.length_zip] at hj; omega
      have e1 : ((xs.zip cs)[i]).2 = cs[i] := by simp
      have e2 : ((xs.zip cs)[j]).2 = cs[j] := by simp
      rw [e1, e2] at e'
      have pw := List.pairwise_iff_getElem.mp hnd
      rcases Nat.lt_trichotomy i j with l | l | l
      · exact absurd e' (pw i j hi' hj' l)
      · subst l; rfl
      · exact absurd e'.symm (pw j i hj' hi' l)
    rw [← ez3, ez] at ez'
    cases ez'
    rfl
  · have h3 : ∀ u ∈ out, ∃ a, u = Value.ref a := fun u hu => e2 u (h2'.perm.mem_iff.mp hu)
    obtain ⟨n, hn⟩ := hn
    have hb : Stb (ltP k) (out.map backV) xs := by
      rw [e1]
      exact Stb.map (ltP_swo k) backV h2'
    have hsr : Srtd (ltP k) (out.map backV) := srtd_map h1
    obtain ⟨ys, ey⟩ : ∃ ys, ys = out.map backV := ⟨_, rfl⟩
    rw [← ey] at hb hsr
    let zs : List (V × α) := ys.filterMap fun y => (pay y).map fun c => (y, c)
    have hz1 : (xs.filterMap fun y => (pay y).map fun c => (y, c)) = xs.zip cs := by
      have : ∀ (L : List (V × α)), (∀ z ∈ L, pay z.1 = some z.2) → ((L.map (·.1)).filterMap fun y => (pay y).map fun c => (y, c)) = L := fun L => by
        induction L with
        | nil => intro _; rfl
        | cons z L ih =>
          intro h
          rw [List.map_cons, List.filterMap_cons, h z List.mem_cons_self]
          show (z.1, z.2) :: _ = _
          rw [ih fun z hz => h z (List.mem_cons_of_mem _ hz)]
      have t := this (xs.zip cs) pay_eq
      rw [zip_fst hlen] at t
      exact t
    have hz2 : zs.Perm (xs.zip cs) := by
      rw [← hz1]
      exact hb.perm.filterMap _
    have ysin : ∀ y ∈ ys, ∃ c, pay y = some c := fun y hy => by
      obtain ⟨z, hz, e⟩ := xin y (hb.perm.mem_iff.mp hy)
      exact ⟨z.2, by rw [← e]; exact pay_eq z hz⟩
    have hz3 : zs.map (·.1) = ys := by
      have : ∀ (L : List V), (∀ y ∈ L, ∃ c, pay y = some c) → (L.filterMap fun y => (pay y).map fun c => (y, c)).map (·.1) = L := fun L => by
        induction L with
        | nil => intro _; rfl
        | cons y L ih =>
          intro h
          obtain ⟨c, hc⟩ := h y List.mem_cons_self
          rw [List.filterMap_cons, hc]
          show y :: _ = _
          rw [ih fun z hz => h z (List.mem_cons_of_mem _ hz)]
      exact this ys ysin
    have hz4 : zs.Pairwise (fun y z => lexB (key y.2) (key z.2) = true) := by
      have s1 : (zs.map (·.1)).Pairwise fun x y => ltP k y x = false := by rw [hz3]; exact hsr
      rw [List.pairwise_map] at s1
      have nd : zs.Pairwise (fun y z => key y.2 ≠ key z.2) := by
        have pz : (xs.zip cs).Pairwise (fun y z => key y.2 ≠ key z.2) := by
          have : ((xs.zip cs).map (·.2)).Pairwise fun c d => key c ≠ key d := by rw [zip_snd hlen]; exact hnd
          rw [List.pairwise_map] at this
          exact this
        exact (hz2.pairwise_iff (fun {a b} h => h.symm)).mpr pz
      have both : zs.Pairwise (fun y z => ltP k z.1 y.1 = false ∧ key y.2 ≠ key z.2) := List.pairwise_and_iff.mpr ⟨s1, nd⟩
      refine both.imp_of_mem fun {y z} hy hz ⟨l, n⟩ => ?_
      have e1 := k_eq y (hz2.mem_iff.mp hy)
      have e2 := k_eq z (hz2.mem_iff.mp hz)
      have l' : lexB (k z.1) (k y.1) = false := l
      rw [e1, e2] at l'
      have l2 := lexB_no.mp l'
      refine lexB_iff.mpr ?_
      have n' : ¬ ((key y.2).1 = (key z.2).1 ∧ (key y.2).2 = (key z.2).2) := fun w => n (Prod.ext w.1 w.2)
      omega
    have qq := q zs d hz2 hz4 (I.hok.fresh hd)
    rw [hz3] at qq
    refine ⟨.ref d, upd H d (.lst ys), I.laid (t' := s.toks) kp hd ⟨?_, out, n, ?_, hn⟩, rfl, qq⟩
    · rw [hb.len]
      exact hz
    · rw [ey]
      exact vals_back h3
end
/-! ### sorted of a tuple of ints -/
section
open PySem.Spec PyProof.Rows SrtO Srt
variable {prog : Program} {w : World} {A : Around} {s : Shared} {E : Value → Shared → Prop}
/-- a tuple's items in a new list -/
theorem collect_tup {l : Addr} {vs : List Value} {Q : List Value → Shared → Prop} (hl : IsTup s.heap l vs.toArray)
    (h : Q vs { s with heap := (s.heap.push (seqObj "list" #[] 0)).update s.heap.objs.size (Obj.mapSeq (· ++ vs.toArray)) }) (hsz : vs.length ≤ sizeLine) :
    wpAny (model prog w) A (collect (.ref l)) Q E s := by
  obtain ⟨o, ho, hc, n, hd⟩ := id hl
  unfold collect
  refine wpAny_bind (wpAny_runValue (codeAny_builtin entry_proto_collect' ?_))
  show wpAny _ _ (do again (.builtin "list.__iadd__" ⟨[← newList [], .ref l], []⟩)) _ _ s
  refine wpAny_bind (wpAny_newList (wpAny_pure ⟨Code.quiet_builtin _ (by decide +kernel), codeAny_builtin entry_list_iadd' ?_⟩))
  show wpAny _ _ (Builtin.List.listExtendWith (.ref s.heap.objs.size) (.ref l) (.ref s.heap.objs.size)) _ _ { s with heap := s.heap.push (seqObj "list" #[] 0) }
  unfold Builtin.List.listExtendWith
  have ho' : (s.heap.push (seqObj "list" #[] 0)).get? l = some o := Heap.get?_push_of_some _ ho
  refine wpAny_bind (wpAny_typeOf (T := "tuple") ⟨o, ho', hc⟩ ?_)
  have ht : (Value.type "tuple" == Value.type "tuple") = true := by rfl
  rw [if_pos (by rw [ht]; simp)]
  refine wpAny_bind (listItems_at ho' hd ?_)
  refine wpAny_bind (listItems_at (xs := #[]) (n := 0) (Heap.get?_push_size _ rfl) rfl ?_)
  rw [if_neg (by simp)]
  refine wpAny_bind (listUpdate_at (xs := #[]) (n := 0) (Heap.get?_push_size _ rfl) rfl ?_ (Nat.zero_le _) (by show (#[] ++ vs.toArray).size ≤ sizeLine + 1; simp only [Array.size_append, List.size_toArray, List.length_nil]; omega))
  refine wpAny_pure ?_
  show wpAny (model prog w) A (do
      let o ← load s.heap.objs.size
      match o.data with
      | .seq xs _ => pure xs.toList
      | _ => unsupported "internal:collect") Q E { s with heap := (s.heap.push (seqObj "list" #[] 0)).update s.heap.objs.size (Obj.mapSeq (· ++ vs.toArray)) }
  refine wpAny_bind (wpAny_load (get?_update_seq (Heap.get?_push_size _ rfl) _) ?_)
  show wpAny _ _ (pure ((#[] : Array Value) ++ vs.toArray).toList) Q E _
  rw [show ((#[] : Array Value) ++ vs.toArray).toList = vs by simp]
  exact wpAny_pure h
/-- sorted(t), t a tuple -/
theorem sorted_ordT {l : Addr} {vs : List Value} {ltv : Value → Value → Bool} {Q : Value → Shared → Prop} (O : Swo ltv) (hl : IsTup s.heap l vs.toArray) (hz : vs.length ≤ sizeLine)
    (hS : 2 ≤ vs.length → ∀ (h₁ : Heap) (a : Addr), h₁.get? a = some (seqObj "list" vs.toArray 0) → (∀ b o, s.heap.get? b = some o → b ≠ a ∧ h₁.get? b = some o) → SortableO prog w A.in1.in1 { s with heap := h₁ } a vs ltv)
    (h : ∀ out : List Value, Srtd ltv out → Stb ltv out vs → Q (.ref (s.heap.objs.size + 1)) { s with heap := sortedAll s.heap vs out.toArray }) :
    wpAny (model prog w) A (call (.builtin "sorted") [.ref l]) Q E s := by
  refine Calls.call_function_entry kind_sorted plain_sorted entry_sorted (args_sorted1 _) ?_
  unfold Builtin.«sorted»
  refine wpAny_bind (m := checkCount "sorted" 1 1 _) (wpAny_pure ?_)
  refine wpAny_bind (collect_tup hl ?_ hz)
  refine wpAny_bind (wpAny_newList ?_ hz)
  have hsz : ((s.heap.push (seqObj "list" #[] 0)).update s.heap.objs.size (Obj.mapSeq (· ++ vs.toArray))).objs.size = s.heap.objs.size + 1 := by
    rw [Heap.size_update, size_push']
  have hoL : (((s.heap.push (seqObj "list" #[] 0)).update s.heap.objs.size (Obj.mapSeq (· ++ vs.toArray))).push (seqObj "list" vs.toArray 0)).get? (s.heap.objs.size + 1) = some (seqObj "list" vs.toArray 0) := by
    rw [← hsz]; exact Heap.get?_push_size _ rfl
  have keep : ∀ b o, s.heap.get? b = some o → b ≠ s.heap.objs.size + 1 ∧ (((s.heap.push (seqObj "list" #[] 0)).update s.heap.objs.size (Obj.mapSeq (· ++ vs.toArray))).push (seqObj "list" vs.toArray 0)).get? b = some o := fun b o q => by
    have hlt : b < s.heap.objs.size := Heap.lt_size q
    refine ⟨Nat.ne_of_lt (Nat.lt_succ_of_lt hlt), Heap.get?_push_of_some _ ?_⟩
    rw [Heap.get?_update_ne _ _ _ _ (Nat.ne_of_lt hlt)]
    exact Heap.get?_push_of_some _ q
  show wpAny _ _ _ _ _ { s with heap := ((s.heap.push (seqObj "list" #[] 0)).update s.heap.objs.size (Obj.mapSeq (· ++ vs.toArray))).push (seqObj "list" vs.toArray 0) }
  rw [hsz]
  refine wpAny_bind (wpAny_holding (wpAny_call_entry slot_list_sort ⟨_, hoL, rfl⟩ entry_list_sort (list_sort_ord O hoL hz (fun h2 => hS h2 _ _ hoL keep) fun out hs hb => ⟨_, rfl, ?_⟩) (args_list_sort _)))
  exact wpAny_pure ⟨_, rfl, h out hs hb⟩
def rSortedIT (K : PySem.W.Frag) : List V → Hp → VK → Prop := fun vs H Q => ∃ (a : Addr) (ns : List Int), vs = [V.ref a] ∧ SqT K H a (ns.map V.int) ∧
  ∀ (ns' : List Int) (p : Addr), ns'.Perm ns → ns'.Pairwise (· ≤ ·) → H p = none → Q (.ref p) (upd H p (.lst (ns'.map V.int)))
theorem cr_sortedIT {X : Cx} (K : PySem.W.Frag) (hK : X.K = K := by rfl) : CallR X (.builtin "sorted") (rSortedIT K) := by
  subst hK
  intro pins s σ H vs us Q I r h
  obtain ⟨a, ns, rfl, hs, q⟩ := h
  obtain ⟨its, rv, hl, hz⟩ := I.tuple hs
  rw [Vals.ref1 r]
  have hi := rv.ints
  refine sorted_ordT SrtO.swo_int hl (by rw [← rv.length]; exact hz) (fun h2 h₁ a' _ _ => SrtO.ints_sortable hi h2) fun out h1 h2 => ?_
  obtain ⟨k1, k2, k3⟩ := SrtO.ints_out hi h1 h2
  obtain ⟨ep, he'⟩ := PyProof.Rows.sortedAll_at s.heap its out.toArray
  have hlen : ((out.map SrtO.iv).map V.int).length ≤ sizeLine := by
    rw [List.length_map, k2.length_eq]
    rw [List.length_map] at hz
    exact hz
  exact ⟨.ref _, upd H (s.heap.objs.size + 1) (.lst ((out.map SrtO.iv).map V.int)), I.laid (t' := s.toks) (fun _ _ => PyProof.Rows.sortedAll_old) (Nat.le_succ _) ⟨hlen, out, ep, vals_of_ints k1, he'⟩, rfl, q _ _ k2 k3 (I.hok.fresh (Nat.le_succ _))⟩
end
/-! ### plain data of tuples, in the heap or of the text -/
def StT (K : PySem.W.Frag) (H : Hp) (a : Addr) (xs : List V) : Prop := H a = some (.tup xs) ∨ ∀ H', SqT K H' a xs
theorem StT.sq {K : PySem.W.Frag} {H : Hp} {a : Addr} {xs : List V} (h : StT K H a xs) : SqT K H a xs := by
  rcases h with h | h
  · exact SqT.of h
  · exact h H
theorem StT.ts {K : PySem.W.Frag} {H H' : Hp} {a : Addr} {xs : List V} (s : TS H H') (h : StT K H a xs) : StT K H' a xs := by
  rcases h with h | h
  · exact .inl (s _ _ h)
  · exact .inr h
mutual
inductive Tv (K : PySem.W.Frag) (H : Hp) : V → PyData → Prop
  | int (i : Int) : Tv K H (.int i) (.int i)
  | tup {a : Addr} {xs : List V} {ds : List PyData} : StT K H a xs → TvAll K H xs ds → Tv K H (.ref a) (.tuple ds)
inductive TvAll (K : PySem.W.Frag) (H : Hp) : List V → List PyData → Prop
  | nil : TvAll K H [] []
  | cons {v : V} {vs : List V} {d : PyData} {ds : List PyData} : Tv K H v d → TvAll K H vs ds → TvAll K H (v :: vs) (d :: ds)
end
section
variable {K : PySem.W.Frag} {H H' : Hp}
mutual
theorem Tv.ts (s : TS H H') : ∀ {d : PyData} {v : V}, Tv K H v d → Tv K H' v d
  | .int i, _, h => by cases h; exact .int i
  | .tuple ds, _, h => by
    cases h with
    | tup ha hs => exact .tup (ha.ts s) (TvAll.ts s hs)
  | .none, _, h => by cases h
  | .bool _, _, h => by cases h
  | .str _, _, h => by cases h
  | .list _, _, h => by cases h
  | .dict _, _, h => by cases h
theorem TvAll.ts (s : TS H H') : ∀ {ds : List PyData} {vs : List V}, TvAll K H vs ds → TvAll K H' vs ds
  | [], _, h => by cases h; exact .nil
  | d :: ds, _, h => by
    cases h with
    | cons h1 h2 => exact .cons (Tv.ts s h1) (TvAll.ts s h2)
end
mutual
theorem Tv.dp : ∀ {d : PyData} {v : V}, Tv K H v d → Dp K H v d
  | .int i, _, h => by cases h; exact .int i
  | .tuple ds, _, h => by
    cases h with
    | tup ha hs => exact .tup ha.sq (TvAll.dp hs)
  | .none, _, h => by cases h
  | .bool _, _, h => by cases h
  | .str _, _, h => by cases h
  | .list _, _, h => by cases h
  | .dict _, _, h => by cases h
theorem TvAll.dp : ∀ {ds : List PyData} {vs : List V}, TvAll K H vs ds → DpAll K H vs ds
  | [], _, h => by cases h; exact .nil
  | d :: ds, _, h => by
    cases h with
    | cons h1 h2 => exact .cons (Tv.dp h1) (TvAll.dp h2)
end
theorem TvAll.len : ∀ {ds : List PyData} {vs : List V}, TvAll K H vs ds → vs.length = ds.length
  | [], _, h => by cases h; rfl
  | d :: ds, _, h => by
    cases h with
    | cons h1 h2 => rw [List.length_cons, List.length_cons, TvAll.len h2]
theorem TvAll.getV : ∀ {ds : List PyData} {vs : List V} {i : Nat} {v : V}, TvAll K H vs ds → vs[i]? = some v → ∃ d, ds[i]? = some d ∧ Tv K H v d
  | [], _, i, d, h, e => by cases h; simp at e
  | d :: ds, _, 0, d', h, e => by
    cases h with
    | cons h1 h2 => simp at e; subst e; exact ⟨_, rfl, h1⟩
  | d :: ds, _, i + 1, d', h, e => by
    cases h with
    | cons h1 h2 =>
      obtain ⟨v, a, b⟩ := TvAll.getV (i := i) h2 (by simpa using e)
      exact ⟨v, by simpa using a, b⟩
theorem TvAll.snoc : ∀ {ds : List PyData} {vs : List V} {v : V} {d : PyData}, TvAll K H vs ds → Tv K H v d → TvAll K H (vs ++ [v]) (ds ++ [d])
  | [], _, _, _, h, h' => by cases h; exact .cons h' .nil
  | d :: ds, _, _, _, h, h' => by
    cases h with
    | cons h1 h2 => exact .cons h1 (TvAll.snoc h2 h')
theorem TvAll.ints (ns : List Int) : TvAll K H (ns.map V.int) (ns.map PyData.int) := by
  induction ns with
  | nil => exact .nil
  | cons n ns ih => exact .cons (.int n) ih
theorem TvAll.ints_inv : ∀ {ns : List Int} {vs : List V}, TvAll K H vs (ns.map PyData.int) → vs = ns.map V.int
  | [], _, h => by cases h; rfl
  | n :: ns, _, h => by
    cases h with
    | cons h1 h2 => cases h1; rw [TvAll.ints_inv h2]; rfl
theorem Tv.tupI {v : V} {ds : List PyData} (h : Tv K H v (.tuple ds)) : ∃ a xs, v = .ref a ∧ StT K H a xs ∧ TvAll K H xs ds := by
  cases h with
  | tup ha hs => exact ⟨_, _, rfl, ha, hs⟩
theorem Tv.new {p : Addr} {xs : List V} {ds : List PyData} (h : TvAll K H xs ds) (hp : H p = none) : Tv K (upd H p (.tup xs)) (.ref p) (.tuple ds) := .tup (.inl upd_same) (h.ts (Same.ts (Same.new hp)))
end
section
open PySem.Spec PyProof.Rows
/-! ### list(d.values()) -/
def valsO (p d : Addr) : HO := .ext fun h => h.get? p = some { cls := .type "dict_values", data := .fields #[.ref d] }
theorem valsO_ok {P : Program} {w : World} {H : Hp} {h : Heap} {p d : Addr} (e : h.get? p = some { cls := .type "dict_values", data := .fields #[.ref d] }) : ObjOk P w H h p (valsO p d) := ⟨e, ⟨_, e⟩, fun h1 h2 q k => k _ q⟩
def rValues : V → List V → Hp → VK → Prop := fun x xs H Q => ∃ (a : Addr) (kvs : List (L2.Key × V)), x = .ref a ∧ xs = [] ∧ H a = some (.dK kvs) ∧ ∀ p, H p = none → Q (.ref p) (upd H p (valsO p a))
theorem mt_values {X : Cx} : MtR X "dict.values" rValues := by
  intro pins s σ H x xs v us Q I rx rxs h
  obtain ⟨a, kvs, rfl, rfl, ha, q⟩ := h
  cases rx
  cases rxs
  obtain ⟨z, hd, vs, rel, dd⟩ := dk_of I.hok ha
  refine call_meetsIn PySem.F.slot_dict_values dd.typeIs PySem.F.entry_dict_values (PySem.F.args_dict_values_1 _) (meets_dict_values (mixKind X.prog X.w) a hd) ⟨⟨vs, dd⟩, ?_⟩
  have hf : H s.heap.objs.size = none := I.hok.fresh (Nat.le_refl _)
  exact ⟨.ref s.heap.objs.size, upd H s.heap.objs.size (valsO s.heap.objs.size a), I.laid (t' := s.toks) (fun b u e => Heap.get?_push_of_some _ e) (Nat.le_refl _) (valsO_ok (Heap.get?_push_size _ rfl)), rfl, q _ hf⟩
def rListV : List V → Hp → VK → Prop := fun xs H Q => ∃ p a kvs, xs = [.ref p] ∧ H p = some (valsO p a) ∧ H a = some (.dK kvs) ∧ ∀ q, H q = none → Q (.ref q) (upd H q (.lst (kvs.map fun kv => kv.2)))
theorem call_list_vals {X : Cx} (hc : X.calm = true) : CallR X (.type "list") rListV := by
  intro pins s σ H xs us Q I r h
  obtain ⟨p, a, kvs, e, hv, hk, q⟩ := h
  subst e
  obtain ⟨u, eu, rx⟩ := vals1 r
  subst eu
  obtain rfl : u = Value.ref p := rx
  obtain ⟨z, lo, vs, rk, hd⟩ := (show ObjOk X.prog X.w H s.heap a (.dK kvs) from I.hok a _ hk)
  obtain ⟨hview, _⟩ := (show ObjOk X.prog X.w H s.heap p (valsO p a) from I.hok p _ hv)
  obtain ⟨ep, hat⟩ := hd.dictAt
  have hl : kvs.length = vs.length := Paired.length rk
  refine PySem.W.kdl_call (PySem.W.kdl_values (knd := mixKind X.prog X.w) (r := p) (kvs := vs) (ep := ep)) (I.ok.hd hc) ⟨⟨_, hview, rfl, rfl⟩, hat⟩ (by rw [← hl]; exact z) fun h' tk acc' c' hkeep hS hacc => ?_
  refine ⟨.ref s.heap.objs.size, upd H s.heap.objs.size (.lst (kvs.map fun kv => kv.2)), I.laid hkeep (Nat.le_refl _) (show ObjOk X.prog X.w _ _ _ (.lst (kvs.map fun kv => kv.2)) from ⟨?_, acc'.toList, c', ?_, ?_⟩), rfl, q _ (I.hok.fresh (Nat.le_refl _))⟩
  · rw [List.length_map]; exact z
  · have el : acc'.toList.length = acc'.size := by simp
    refine vals_of_at (by rw [List.length_map, el, hacc.1, hl]) fun j x w h1 h2 => ?_
    obtain ⟨k, hky⟩ := hacc.2 j w (by rw [← Array.getElem?_toList]; exact h2)
    rw [List.getElem?_map] at h1
    cases e : kvs[j]? with
    | none => rw [e] at h1; cases h1
    | some kv =>
      rw [e] at h1
      cases h1
      obtain ⟨k', v'⟩ := kv
      obtain ⟨u, hu, ru⟩ := kv_get rk e
      rw [hky] at hu
      cases hu
      exact ru
  · rw [Array.toArray_toList]; exact hS
end
end My

namespace My
open PySem L2 PySem.Spec PyProof.Rows
/-- sorted(d), the keys ints, any number of them -/
def rSortedDO : List V → Hp → VK → Prop := fun xs H Q => ∃ (a : Addr) (kvs : List (L2.Key × V)) (ks : List Int), xs = [.ref a] ∧ Rd H a (.dK kvs) ∧ kvs.map (·.1) = ks.map Sum.inl ∧
  ∀ (ys : List Int) (p : Addr), ys.Perm ks → ys.Pairwise (· ≤ ·) → H p = none → Q (.ref p) (upd H p (.lst (ys.map V.int)))
theorem call_sortedDO {X : Cx} (hc : X.calm = true) : CallR X (.builtin "sorted") rSortedDO := by
  intro pins s σ H xs us Q I r h
  obtain ⟨a, kvs, ks, e, hd, hks, q⟩ := h
  subst e
  obtain ⟨u, eu, rx⟩ := vals1 r
  subst eu
  cases rx
  obtain ⟨z, lo, vs, rel, dd⟩ := dk_rd I.hok hd
  obtain ⟨ep, hat⟩ := dd.dictAt
  have ek : vs.map (·.1) = ks.map Sum.inl := rel.keys.symm.trans hks
  have el : vs.length = ks.length := by simpa using congrArg List.length ek
  have ez : vs.length ≤ sizeLine := by rw [← rel.length]; exact z
  refine Calls.call_function_entry PyProof.Rows.kind_sorted PyProof.Rows.plain_sorted PyProof.Rows.entry_sorted (PyProof.Rows.args_sorted1 _) ?_
  unfold Builtin.«sorted»
  refine wpAny_bind (m := checkCount "sorted" 1 1 _) (wpAny_pure ?_)
  refine wpAny_bind (PySem.W.kdu_collect (A := X.A.in1) (PySem.W.kdl_dict (knd := mixKind X.prog X.w) (kvs := vs) (ep := ep) lo) (I.ok.hd hc) hat ez fun h' tk acc hk hacc => ?_)
  have al : acc.toList.length = ks.length := by rw [Array.length_toList, hacc.1, el]
  have hI : IntsAre acc.toList ks := ints_each al fun j v e => by
    obtain ⟨k, x, e1, e2⟩ := hacc.2 j v (by rw [← Array.getElem?_toList]; exact e)
    have e3 : (ks.map (Sum.inl : Int → L2.Key))[j]? = some k := by rw [← ek, List.getElem?_map, e1]; rfl
    rw [List.getElem?_map] at e3
    cases e4 : ks[j]? with
    | none => rw [e4] at e3; cases e3
    | some y =>
      rw [e4] at e3
      cases e3
      rcases keyIs_shape (show keyIs (Sum.inl y) v = true from e2) with ⟨i, t, q1, q2⟩ | ⟨i, t, q1, q2⟩
      · cases q1; exact ⟨y, t, rfl, q2⟩
      · cases q1
  have I1 : Inv X pins σ H { s with heap := h', toks := tk } := I.kept hk
  have az : acc.toList.length ≤ sizeLine := by rw [al, ← el]; exact ez
  refine wpAny_bind (wpAny_newList ?_ az)
  have hoL : (h'.push (seqObj "list" acc.toList.toArray 0)).get? h'.objs.size = some (seqObj "list" acc.toList.toArray 0) := Heap.get?_push_size _ rfl
  show wpAny _ _ _ _ _ { s with heap := h'.push (seqObj "list" acc.toList.toArray 0), toks := tk }
  refine wpAny_bind (wpAny_holding (wpAny_call_entry PyProof.Rows.slot_list_sort ⟨_, hoL, rfl⟩ PyProof.Rows.entry_list_sort
    (SrtO.list_sort_ord SrtO.swo_int (s := { s with heap := h'.push (seqObj "list" acc.toList.toArray 0), toks := tk }) hoL az (fun h2 => SrtO.ints_sortable hI h2) fun out h1 h2 => ⟨_, rfl, ?_⟩) (PyProof.Rows.args_list_sort _)))
  obtain ⟨k1, k2, k3⟩ := SrtO.ints_out hI h1 h2
  obtain ⟨e', he'⟩ := PyProof.Rows.sortedHeap_at (vs := acc.toList) (out := out.toArray) hoL
  have hlen : ((out.map SrtO.iv).map V.int).length ≤ sizeLine := by
    rw [List.length_map, k2.length_eq, ← al]; exact az
  refine wpAny_pure ⟨_, rfl, .ref h'.objs.size, upd H h'.objs.size (.lst ((out.map SrtO.iv).map V.int)), I1.laid (t' := tk) (fun b u e => ?_) (Nat.le_refl _)
    (show ObjOk X.prog X.w _ _ _ (.lst ((out.map SrtO.iv).map V.int)) from ⟨hlen, out, e', vals_of_ints k1, he'⟩), rfl, q _ _ k2 k3 (I1.hok.fresh (Nat.le_refl _))⟩
  have hb : b < h'.objs.size := Heap.lt_size e
  rw [PyProof.Rows.sortedHeap_old (Nat.ne_of_lt hb) (by rw [size_push']; exact Nat.lt_succ_of_lt hb)]
  exact Heap.get?_push_of_some _ e
def rDictP (K : PySem.W.Frag) : List V → Hp → VK → Prop := fun xs H Q => ∃ (a : Addr) (ps : List Addr) (kvs : List (L2.Key × V)), xs = [.ref a] ∧ SqL K H a (ps.map V.ref) ∧ Paired (fun p kv => SqT K H p [kV kv.1, kv.2]) ps kvs ∧
  ∀ p, H p = none → Q (.ref p) (upd H p (.dK (mergeK [] kvs)))
theorem kDictP {X : Cx} (K : PySem.W.Frag) (hK : X.K = K := by rfl) (hc : X.calm = true := by rfl) : CallR X (.type "dict") (rDictP K) := by
  subst hK
  exact call_dictP hc
end My

namespace My
open PySem L2
def topS (i : Nat) : Stmt := PySem.Challenge.pw_steadhold_k07_net_of_many_filters.main.body.getD i (.Pass ⟨0, 0, 0, 0⟩)
theorem empty_of {K : PySem.W.Frag} {A B C : Addr} {od ob oc : Option Addr} {n nb nc : Nat} {sl sb sc : Array (Option Value)} (h : K.lookup A = some ⟨.type "tuple", od, .seq #[.ref B, .ref C] n, sl⟩)
    (hB : K.lookup B = some ⟨.type "tuple", ob, .seq #[] nb, sb⟩) (hC : K.lookup C = some ⟨.type "tuple", oc, .seq #[] nc, sc⟩) (H : Hp) : Tv K H (.ref A) emD := by
  have e : ∀ {B : Addr} {ob : Option Addr} {nb : Nat} {sb : Array (Option Value)}, K.lookup B = some ⟨.type "tuple", ob, .seq #[] nb, sb⟩ → Tv K H (.ref B) (.tuple []) := fun hB =>
    .tup (xs := []) (.inr fun H' => .inr ⟨_, _, _, hB, rfl, rfl, Nat.zero_le _, .nil⟩) .nil
  exact .tup (xs := [.ref B, .ref C]) (.inr fun H' => .inr ⟨_, _, _, h, rfl, rfl, (show 2 ≤ sizeLine by decide), .cons (show RelV (.ref B) _ from rfl) (.cons (show RelV (.ref C) _ from rfl) .nil)⟩) (.cons (e hB) (.cons (e hC) .nil))
structure Txt (K : PySem.W.Frag) (mg : Str → Option Value) (C_Net C_NotValid : Addr) (A_EMPTY : Addr) : Prop where
  b_abs : mg "abs" = none
  b_all : mg "all" = none
  b_bool : mg "bool" = none
  b_dict : mg "dict" = none
  b_enumerate : mg "enumerate" = none
  b_int : mg "int" = none
  b_isinstance : mg "isinstance" = none
  b_len : mg "len" = none
  b_list : mg "list" = none
  b_range : mg "range" = none
  b_sorted : mg "sorted" = none
  b_tuple : mg "tuple" = none
  c_ENVIRONMENTS : ∃ t, mg "ENVIRONMENTS" = some (.int 4 t)
  c_FIELDS : ∃ t, mg "FIELDS" = some (.int 6 t)
  c_RING : ∃ t, mg "RING" = some (.int 8 t)
  c_TOP : ∃ t, mg "TOP" = some (.int 4294967295 t)
  x_NotValid : Exn K mg "NotValid" C_NotValid
  o_Net : Cls K C_Net
  n_Net__regions : NoAttr K C_Net "_regions"
  n_Net__enrolled : NoAttr K C_Net "_enrolled"
  n_Net__rings : NoAttr K C_Net "_rings"
  n_Net__tree : NoAttr K C_Net "_tree"
  n_Net__last_name : NoAttr K C_Net "_last_name"
  n_Net__sent : NoAttr K C_Net "_sent"
  n_Net__lost : NoAttr K C_Net "_lost"
  c_EMPTY : mg "EMPTY" = some (.ref A_EMPTY)
  t_EMPTY : ∀ H, Tv K H (.ref A_EMPTY) emD
end My

namespace My
open PySem L2
local macro_rules | `(tactic| walk_at "ne") => `(tactic| first | assumption | exact Ne.symm (by assumption) | exact ne_of_none (by assumption) (by assumption) | exact Ne.symm (ne_of_none (by assumption) (by assumption)))
local macro_rules | `(tactic| walk_at "hp") => `(tactic| first | assumption | with_reducible exact upd_same | (with_reducible refine Eq.trans (upd_ne ?_) ?_; rotate_left; walk_at "hp"; walk_at "ne"))
local macro_rules | `(tactic| walk_at "cnd") => `(tactic| first | omega | (show (0 : Int) < _; omega) | exact ⟨by omega, by omega⟩ | exact Or.inl ⟨by omega, by omega⟩ | exact Or.inr ⟨by omega, by omega⟩ | exact ⟨by omega, by omega, by decide⟩ | exact ⟨by omega, by omega, by omega⟩)
local macro_rules | `(tactic| walk_at "at") => `(tactic| first | exact atC 0 rfl rfl | exact atC 1 rfl rfl | exact atC 2 rfl rfl | exact atC 3 rfl rfl | exact atC 4 rfl rfl | exact atC 5 rfl rfl | exact atC 6 rfl rfl | exact atC 7 rfl rfl)
local macro_rules | `(tactic| walk_at "ix") => `(tactic| first | exact ixC 0 rfl (Nat.le_of_ble_eq_true rfl) | exact ixC 1 rfl (Nat.le_of_ble_eq_true rfl) | exact ixC 2 rfl (Nat.le_of_ble_eq_true rfl) | exact ixC 3 rfl (Nat.le_of_ble_eq_true rfl) | exact ixC 4 rfl (Nat.le_of_ble_eq_true rfl) | exact ixC 5 rfl (Nat.le_of_ble_eq_true rfl))
local macro_rules | `(tactic| walk_at "st") => `(tactic| first
  | refine ⟨_, rfl, ?_⟩
  | refine ⟨_, _, rfl, rfl, (by walk_at "cnd" : (_ : Prop)), ?_⟩
  | refine ⟨_, _, rfl, rfl, ?_⟩
  | refine ⟨rfl, ?_⟩
  | refine Or.inl ⟨_, rfl, ?_⟩
  | refine ⟨_, _, _, _, rfl, rfl, by exact SqL.of (by walk_at "hp"), by walk_at "at", ?_⟩
  | refine ⟨_, _, _, _, rfl, rfl, by exact SqT.of (by walk_at "hp"), by walk_at "at", ?_⟩
  | refine ⟨_, _, _, _, rfl, rfl, by walk_at "hp", by walk_at "ix", ?_⟩
  | refine ⟨_, _, rfl, Or.inl (by exact SqL.of (by walk_at "hp")), ?_⟩
  | refine ⟨_, _, rfl, Or.inr (by exact SqT.of (by walk_at "hp")), ?_⟩)
local macro_rules | `(tactic| walk_at "so") => `(tactic| first
  | refine ⟨_, _, _, _, _, rfl, by walk_at "hp", by assumption, by assumption, rfl, ?_⟩
  | refine ⟨_, _, _, _, rfl, by walk_at "hp", by assumption, by assumption, Nat.le_of_ble_eq_true rfl, ?_⟩
  | refine ⟨_, _, _, rfl, by walk_at "hp", rfl, ?_⟩
  | walk_at "st")
local macro_rules | `(tactic| walk_at "ro") => `(tactic| repeat walk_at "so")
local macro_rules | `(tactic| walk_at "run") => `(tactic| repeat walk_at "st")

section
variable {P : Program} {w : World} {K : PySem.W.Frag} {mg : Str → Option Value} {base : Heap} {C_Net C_NotValid : Addr}{A_EMPTY : Addr}
abbrev s_is_at_least : Stmt := topS 2
abbrev ns_is_at_least : List Str := ["value", "least"]
theorem sc_is_at_least : FnScope ns_is_at_least ["value", "least"] (defScope s_is_at_least) := ⟨rfl, rfl, rfl, by decide +kernel, rfl, by decide +kernel, by decide +kernel⟩

theorem ok_is_at_least {f : Addr} {fd : FuncData} (F : Fun K "is_at_least" "is_at_least" s_is_at_least f fd) (T : Txt K mg C_Net C_NotValid A_EMPTY) : FnOk P w K mg base CX0 1 f fd ["value", "least"] spGe := by
  refine F.ok sc_is_at_least (fun vs H Q E h => ?_) (fun cdv A outer s H vs Q E hr h => ?_)
  · obtain ⟨v, d, lo, rfl, _⟩ := h
    rfl
  · obtain ⟨v, d, lo, rfl, hd, k⟩ := h
    refine ⟨_, (pss_one (ps_ret (pe_and (pe_callB (kIsi K) (by rfl) T.b_isinstance (by decide +kernel) (pa_cons (pv 0) (pa_cons (pe_bltn (v := .ty "int") (by rfl) T.b_int (by decide +kernel) rfl) pa_nil))) (pe_and (pe_not (pe_callB (kIsi K) (by rfl) T.b_isinstance (by decide +kernel) (pa_cons (pv 0) (pa_cons (pe_bltn (v := .ty "bool") (by rfl) T.b_bool (by decide +kernel) rfl) pa_nil)))) (pe_one (pe_cmpR op_ge (pv 0) (pv 1) (nomark _))))))), ?_⟩
    refine ⟨_, rfl, _, _, _, _, _, rfl, .ty _, hd.ty, kit_ty (kitInt d), _, rfl, ?_⟩
    cases hd with
    | int i =>
      refine iteT ⟨_, rfl, _, _, _, _, _, rfl, .ty _, (Dt.int i).ty, kit_ty (kitBool (.int i)), _, rfl, _, rfl, iteT ?_⟩
      walk_at "run"
      exact k
    | bl b => exact iteT ⟨_, rfl, _, _, _, _, _, rfl, .ty _, (Dt.bl b).ty, kit_ty (kitBool (.bool b)), _, rfl, _, rfl, iteF k⟩
    | non => exact iteF k
    | str x => exact iteF k
    | lst a b => exact iteF k
    | tup a b => exact iteF k
abbrev s_is_between : Stmt := topS 3
abbrev ns_is_between : List Str := ["value", "least", "most"]
theorem sc_is_between : FnScope ns_is_between ["value", "least", "most"] (defScope s_is_between) := ⟨rfl, rfl, rfl, by decide +kernel, rfl, by decide +kernel, by decide +kernel⟩

theorem ok_is_between {f : Addr} {fd : FuncData} (F : Fun K "is_between" "is_between" s_is_between f fd) (T : Txt K mg C_Net C_NotValid A_EMPTY) (D_is_at_least : Dfn P w K mg base CX0 1 "is_at_least" ["value", "least"] spGe) : FnOk P w K mg base CX0 2 f fd ["value", "least", "most"] spBtw := by
  refine F.ok sc_is_between (fun vs H Q E h => ?_) (fun cdv A outer s H vs Q E hr h => ?_)
  · obtain ⟨v, d, lo, hi, rfl, _⟩ := h
    rfl
  · obtain ⟨v, d, lo, hi, rfl, hd, k⟩ := h
    refine ⟨_, (pss_one (ps_ret (pe_and (pe_dcall D_is_at_least (hr.mono (by decide)) (by rfl) pass0 (pa_cons (pv 0) (pa_cons (pv 1) pa_nil))) (pe_one (pe_cmpR op_le (pv 0) (pv 2) (nomark _)))))), ?_⟩
    refine ⟨_, rfl, _, rfl, _, d, _, rfl, hd, _, rfl, iteB (fun e => ?_) (fun e => ?_)⟩
    · cases hd with
      | int i =>
        walk_at "run"
        have e' : decide (lo ≤ i) = true := e
        have k' : Q (.bl (decide (lo ≤ i) && decide (i ≤ hi))) H := k
        rw [e', Bool.true_and] at k'
        exact k'
      | bl b => cases e
      | non => cases e
      | str x => cases e
      | lst a b => cases e
      | tup a b => cases e
    · have e2 : isI d lo hi = false := by
        cases d with
        | int i =>
          have e' : decide (lo ≤ i) = false := e
          show (decide (lo ≤ i) && decide (i ≤ hi)) = false
          rw [e', Bool.false_and]
        | _ => rfl
      rw [e2] at k
      exact k
abbrev s_is_index : Stmt := topS 4
abbrev ns_is_index : List Str := ["value", "many"]
theorem sc_is_index : FnScope ns_is_index ["value", "many"] (defScope s_is_index) := ⟨rfl, rfl, rfl, by decide +kernel, rfl, by decide +kernel, by decide +kernel⟩

theorem ok_is_index {f : Addr} {fd : FuncData} (F : Fun K "is_index" "is_index" s_is_index f fd) (T : Txt K mg C_Net C_NotValid A_EMPTY) (D_is_between : Dfn P w K mg base CX0 2 "is_between" ["value", "least", "most"] spBtw) : FnOk P w K mg base CX0 3 f fd ["value", "many"] spIdx := by
  refine F.ok sc_is_index (fun vs H Q E h => ?_) (fun cdv A outer s H vs Q E hr h => ?_)
  · obtain ⟨v, d, n, rfl, _⟩ := h
    rfl
  · obtain ⟨v, d, n, rfl, hd, k⟩ := h
    refine ⟨_, (pss_one (ps_ret (pe_dcall D_is_between (hr.mono (by decide)) (by rfl) pass0 (pa_cons (pv 0) (pa_cons pe_int (pa_cons (pe_op op_sub (pv 1) pe_int) pa_nil)))))), ?_⟩
    walk_at "run"
    exact ⟨_, d, _, _, rfl, hd, k⟩
end

section
variable {P : Program} {w : World} {K : PySem.W.Frag} {mg : Str → Option Value} {base : Heap} {C_Net C_NotValid : Addr}{A_EMPTY : Addr}
abbrev s_is_word : Stmt := topS 13
abbrev ns_is_word : List Str := ["value"]
theorem sc_is_word : FnScope ns_is_word ["value"] (defScope s_is_word) := ⟨rfl, rfl, rfl, by decide +kernel, rfl, by decide +kernel, by decide +kernel⟩

theorem ok_is_word {f : Addr} {fd : FuncData} (F : Fun K "is_word" "is_word" s_is_word f fd) (T : Txt K mg C_Net C_NotValid A_EMPTY) (D_is_between : Dfn P w K mg base CX0 2 "is_between" ["value", "least", "most"] spBtw) : FnOk P w K mg base CX0 3 f fd ["value"] spWord := by
  refine F.ok sc_is_word (fun vs H Q E h => ?_) (fun cdv A outer s H vs Q E hr h => ?_)
  · obtain ⟨v, d, rfl, _⟩ := h
    rfl
  · obtain ⟨v, d, rfl, hd, k⟩ := h
    refine ⟨_, (pss_one (ps_ret (pe_dcall D_is_between (hr.mono (by decide)) (by rfl) pass0 (pa_cons (pv 0) (pa_cons pe_int (pa_cons (pe_gint (by rfl) T.c_TOP) pa_nil)))))), ?_⟩
    walk_at "run"
    exact ⟨_, d, _, _, rfl, hd, k⟩
end

end My

namespace My
open PySem L2
local macro_rules | `(tactic| walk_at "ne") => `(tactic| first | assumption | exact Ne.symm (by assumption) | exact ne_of_none (by assumption) (by assumption) | exact Ne.symm (ne_of_none (by assumption) (by assumption)))
local macro_rules | `(tactic| walk_at "hp") => `(tactic| first | assumption | with_reducible exact upd_same | (with_reducible refine Eq.trans (upd_ne ?_) ?_; rotate_left; walk_at "hp"; walk_at "ne"))
local macro_rules | `(tactic| walk_at "cnd") => `(tactic| first | omega | (show (0 : Int) < _; omega) | exact ⟨by omega, by omega⟩ | exact Or.inl ⟨by omega, by omega⟩ | exact Or.inr ⟨by omega, by omega⟩ | exact ⟨by omega, by omega, by decide⟩ | exact ⟨by omega, by omega, by omega⟩)
local macro_rules | `(tactic| walk_at "at") => `(tactic| first | exact atC 0 rfl rfl | exact atC 1 rfl rfl | exact atC 2 rfl rfl | exact atC 3 rfl rfl | exact atC 4 rfl rfl | exact atC 5 rfl rfl | exact atC 6 rfl rfl | exact atC 7 rfl rfl)
local macro_rules | `(tactic| walk_at "ix") => `(tactic| first | exact ixC 0 rfl (Nat.le_of_ble_eq_true rfl) | exact ixC 1 rfl (Nat.le_of_ble_eq_true rfl) | exact ixC 2 rfl (Nat.le_of_ble_eq_true rfl) | exact ixC 3 rfl (Nat.le_of_ble_eq_true rfl) | exact ixC 4 rfl (Nat.le_of_ble_eq_true rfl) | exact ixC 5 rfl (Nat.le_of_ble_eq_true rfl))
local macro_rules | `(tactic| walk_at "st") => `(tactic| first
  | refine ⟨_, rfl, ?_⟩
  | refine ⟨_, _, rfl, rfl, (by walk_at "cnd" : (_ : Prop)), ?_⟩
  | refine ⟨_, _, rfl, rfl, ?_⟩
  | refine ⟨rfl, ?_⟩
  | refine Or.inl ⟨_, rfl, ?_⟩
  | refine ⟨_, _, _, _, rfl, rfl, by exact SqL.of (by walk_at "hp"), by walk_at "at", ?_⟩
  | refine ⟨_, _, _, _, rfl, rfl, by exact SqT.of (by walk_at "hp"), by walk_at "at", ?_⟩
  | refine ⟨_, _, _, _, rfl, rfl, by walk_at "hp", by walk_at "ix", ?_⟩
  | refine ⟨_, _, rfl, Or.inl (by exact SqL.of (by walk_at "hp")), ?_⟩
  | refine ⟨_, _, rfl, Or.inr (by exact SqT.of (by walk_at "hp")), ?_⟩)
local macro_rules | `(tactic| walk_at "so") => `(tactic| first
  | refine ⟨_, _, _, _, _, rfl, by walk_at "hp", by assumption, by assumption, rfl, ?_⟩
  | refine ⟨_, _, _, _, rfl, by walk_at "hp", by assumption, by assumption, Nat.le_of_ble_eq_true rfl, ?_⟩
  | refine ⟨_, _, _, rfl, by walk_at "hp", rfl, ?_⟩
  | walk_at "st")
local macro_rules | `(tactic| walk_at "ro") => `(tactic| repeat walk_at "so")
local macro_rules | `(tactic| walk_at "run") => `(tactic| repeat walk_at "st")

/-! ### packets and filters as data -/
def isPk : PyData → Bool
  | .tuple xs => decide (xs.length = 6) && xs.all fun d => isI d 0 4294967295
  | _ => false
def spPk : Sp := fun vs H Q _ => ∃ v d, vs = [v] ∧ Dt H v d ∧ (∀ ds, d = .tuple ds → ds.length ≤ 1000) ∧ ∀ H', Same H H' → Q (.bl (isPk d)) H'
def isTest : PyData → Bool
  | .tuple [a, .int m, .int v] => isI a 0 5 && isI (.int m) 0 4294967295 && isI (.int v) 0 4294967295 && decide (m ≠ 0) && decide (Builtin.bitAnd v m = v)
  | _ => false
def spTest : Sp := fun vs H Q _ => ∃ v d, vs = [v] ∧ Dt H v d ∧ Q (.bl (isTest d)) H
section
variable {P : Program} {w : World} {K : PySem.W.Frag} {mg : Str → Option Value} {base : Heap} {C_Net C_NotValid : Addr}{A_EMPTY : Addr}
abbrev s_is_packet : Stmt := topS 16
abbrev ns_is_packet : List Str := ["value", "word"]
theorem sc_is_packet : FnScope ns_is_packet ["value"] (defScope s_is_packet) := ⟨rfl, rfl, rfl, by decide +kernel, rfl, by decide +kernel, by decide +kernel⟩

theorem ok_is_packet {f : Addr} {fd : FuncData} (F : Fun K "is_packet" "is_packet" s_is_packet f fd) (T : Txt K mg C_Net C_NotValid A_EMPTY) (D_is_word : Dfn P w K mg base CX0 3 "is_word" ["value"] spWord) : FnOk P w K mg base CX0 4 f fd ["value"] spPk := by
  refine F.ok sc_is_packet (fun vs H Q E h => ?_) (fun cdv A outer s H vs Q E hr h => ?_)
  · obtain ⟨v, d, rfl, _⟩ := h
    rfl
  · obtain ⟨v, d, rfl, hd, hz, k⟩ := h
    refine ⟨_, (pss_cons (ps_if (PW.pt (pw_or (pt_not (pt_val (pe_callB (kIsi K) (by rfl) T.b_isinstance (by decide +kernel) (pa_cons (pv 0) (pa_cons (pe_bltn (v := .ty "tuple") (by rfl) T.b_tuple (by decide +kernel) rfl) pa_nil))))) (pw_or1 (pt_cmpR op_ne (pe_callB (kLen K) (by rfl) T.b_len (by decide +kernel) (pa_cons (pv 0) pa_nil)) (pe_gint (by rfl) T.c_FIELDS) (nomark _))))) (pss_one (ps_ret pe_bl)) pss_nil)
  (pss_one (ps_ret (pe_callB (kAll K rfl) (by rfl) T.b_all (by decide +kernel) (pa_cons (pe_lc (own := [("word", 1)]) (by rfl) sc_is_packet.nd (kpiT K (pv 0)) (blkOk_by (N := ns_is_packet) (sc := defScope s_is_packet) (by decide +kernel)) (fun _ _ _ _ _ => (pg_name (i := 1) sc_is_packet.nd rfl (Or.inl rfl))) (fun _ _ _ _ _ => pts_nil) (fun _ _ _ _ _ => (pe_dcall D_is_word (hr.mono (by decide)) (by rfl) pass0 (pa_cons (pv 1) pa_nil)))) pa_nil))))), ?_⟩
    refine ⟨_, rfl, _, _, _, _, _, rfl, .ty _, hd.ty, kit_ty (kitTup d), _, rfl, ?_⟩
    cases hd with
    | @tup a xs ds ha hs =>
      have hlen := hs.len
      have hz' := hz ds rfl
      refine iteF ?_
      walk_at "run"
      refine iteDn (fun h1 => ?_) (fun h1 => ?_)
      · have e : isPk (.tuple ds) = false := by
          show (decide (ds.length = 6) && _) = false
          rw [decide_eq_false (by rw [← hlen]; intro q; exact h1 (by rw [q] <;> rfl)), Bool.false_and]
        rw [e] at k
        exact k H (Same.refl H)
      · have h6 : ds.length = 6 := by
          have q : ((xs.length : Nat) : Int) = 6 := by injection h1
          omega
        walk_at "run"
        refine ⟨⟨_, SqT.of ha⟩, fun D hD => ?_⟩
        refine lcT (xs := xs) ((ds.map fun d => isI d 0 4294967295).map V.bl) (by simp [hlen]) (by omega) ha hD ?_ ?_
        · intro j x y H1 Q' hx hy s1 q
          obtain ⟨d, hd1, hd2⟩ := hs.getV hx
          have ey : y = .bl (isI d 0 4294967295) := by
            rw [List.getElem?_map, List.getElem?_map, hd1] at hy
            exact (Option.some.inj hy).symm
          subst ey
          refine ⟨rfl, ?_⟩
          walk_at "run"
          exact ⟨_, d, rfl, hd2.same s1, q H1 (Same.refl _)⟩
        · intro H1 s1 d1
          refine ⟨_, _, rfl, SqL.of d1, ?_⟩
          have e : isPk (.tuple ds) = (ds.map fun d => isI d 0 4294967295).all id := by
            show (decide (ds.length = 6) && _) = _
            rw [h6]
            simp
          rw [e] at k
          exact k H1 s1
    | int i => exact iteT (k H (Same.refl H))
    | bl b => exact iteT (k H (Same.refl H))
    | non => exact iteT (k H (Same.refl H))
    | str x => exact iteT (k H (Same.refl H))
    | lst a b => exact iteT (k H (Same.refl H))
end
end My

namespace My
open PySem L2
local macro_rules | `(tactic| walk_at "ne") => `(tactic| first | assumption | exact Ne.symm (by assumption) | exact ne_of_none (by assumption) (by assumption) | exact Ne.symm (ne_of_none (by assumption) (by assumption)))
local macro_rules | `(tactic| walk_at "hp") => `(tactic| first | assumption | with_reducible exact upd_same | (with_reducible refine Eq.trans (upd_ne ?_) ?_; rotate_left; walk_at "hp"; walk_at "ne"))
local macro_rules | `(tactic| walk_at "cnd") => `(tactic| first | omega | (show (0 : Int) < _; omega) | exact ⟨by omega, by omega⟩ | exact Or.inl ⟨by omega, by omega⟩ | exact Or.inr ⟨by omega, by omega⟩ | exact ⟨by omega, by omega, by decide⟩ | exact ⟨by omega, by omega, by omega⟩)
local macro_rules | `(tactic| walk_at "at") => `(tactic| first | exact atC 0 rfl rfl | exact atC 1 rfl rfl | exact atC 2 rfl rfl | exact atC 3 rfl rfl | exact atC 4 rfl rfl | exact atC 5 rfl rfl | exact atC 6 rfl rfl | exact atC 7 rfl rfl)
local macro_rules | `(tactic| walk_at "ix") => `(tactic| first | exact ixC 0 rfl (Nat.le_of_ble_eq_true rfl) | exact ixC 1 rfl (Nat.le_of_ble_eq_true rfl) | exact ixC 2 rfl (Nat.le_of_ble_eq_true rfl) | exact ixC 3 rfl (Nat.le_of_ble_eq_true rfl) | exact ixC 4 rfl (Nat.le_of_ble_eq_true rfl) | exact ixC 5 rfl (Nat.le_of_ble_eq_true rfl))
local macro_rules | `(tactic| walk_at "st") => `(tactic| first
  | refine ⟨_, rfl, ?_⟩
  | refine ⟨_, _, rfl, rfl, (by walk_at "cnd" : (_ : Prop)), ?_⟩
  | refine ⟨_, _, rfl, rfl, ?_⟩
  | refine ⟨rfl, ?_⟩
  | refine Or.inl ⟨_, rfl, ?_⟩
  | refine ⟨_, _, _, _, rfl, rfl, by exact SqL.of (by walk_at "hp"), by walk_at "at", ?_⟩
  | refine ⟨_, _, _, _, rfl, rfl, by exact SqT.of (by walk_at "hp"), by walk_at "at", ?_⟩
  | refine ⟨_, _, _, _, rfl, rfl, by walk_at "hp", by walk_at "ix", ?_⟩
  | refine ⟨_, _, rfl, Or.inl (by exact SqL.of (by walk_at "hp")), ?_⟩
  | refine ⟨_, _, rfl, Or.inr (by exact SqT.of (by walk_at "hp")), ?_⟩)
local macro_rules | `(tactic| walk_at "so") => `(tactic| first
  | refine ⟨_, _, _, _, _, rfl, by walk_at "hp", by assumption, by assumption, rfl, ?_⟩
  | refine ⟨_, _, _, _, rfl, by walk_at "hp", by assumption, by assumption, Nat.le_of_ble_eq_true rfl, ?_⟩
  | refine ⟨_, _, _, rfl, by walk_at "hp", rfl, ?_⟩
  | walk_at "st")
local macro_rules | `(tactic| walk_at "ro") => `(tactic| repeat walk_at "so")
local macro_rules | `(tactic| walk_at "run") => `(tactic| repeat walk_at "st")

def okVal : PyData → PyData → Bool
  | .int m, .int v => (!decide (m = 0)) && decide (Builtin.bitAnd v m = v)
  | _, _ => false
def isTst : PyData → Bool
  | .tuple [a, b, c] => isI a 0 5 && isI b 0 4294967295 && isI c 0 4294967295 && okVal b c
  | _ => false
def spTst : Sp := fun vs H Q _ => ∃ v d, vs = [v] ∧ Dt H v d ∧ Q (.bl (isTst d)) H
def idxD : PyData → Int
  | .tuple (.int i :: _) => i
  | _ => 0
def isFl : PyData → Bool
  | .tuple ds => decide (ds.length ≤ 6) && ds.all isTst && (List.range (ds.length - 1)).all fun i => decide (idxD (ds.getD i .none) < idxD (ds.getD (i + 1) .none))
  | _ => false
def spFl : Sp := fun vs H Q _ => ∃ v d, vs = [v] ∧ Dt H v d ∧ (∀ ds, d = .tuple ds → ds.length ≤ 1000) ∧ ∀ H', Same H H' → Q (.bl (isFl d)) H'
theorem isI_int {d : PyData} {lo hi : Int} (h : isI d lo hi = true) : ∃ i, d = .int i ∧ lo ≤ i ∧ i ≤ hi := by
  cases d with
  | int i =>
    have h' : (decide (lo ≤ i) && decide (i ≤ hi)) = true := h
    rw [Bool.and_eq_true, decide_eq_true_eq, decide_eq_true_eq] at h'
    exact ⟨i, rfl, h'.1, h'.2⟩
  | _ => cases h
section
variable {P : Program} {w : World} {K : PySem.W.Frag} {mg : Str → Option Value} {base : Heap} {C_Net C_NotValid : Addr}{A_EMPTY : Addr}
abbrev s_is_test : Stmt := topS 18
abbrev ns_is_test : List Str := ["value", "index", "mask", "wanted"]
theorem sc_is_test : FnScope ns_is_test ["value"] (defScope s_is_test) := ⟨rfl, rfl, rfl, by decide +kernel, rfl, by decide +kernel, by decide +kernel⟩

theorem ok_is_test {f : Addr} {fd : FuncData} (F : Fun K "_is_test" "_is_test" s_is_test f fd) (T : Txt K mg C_Net C_NotValid A_EMPTY) (D_is_word : Dfn P w K mg base CX0 3 "is_word" ["value"] spWord) (D_is_index : Dfn P w K mg base CX0 3 "is_index" ["value", "many"] spIdx) : FnOk P w K mg base CX0 4 f fd ["value"] spTst := by
  refine F.ok sc_is_test (fun vs H Q E h => ?_) (fun cdv A outer s H vs Q E hr h => ?_)
  · obtain ⟨v, d, rfl, _⟩ := h
    rfl
  · obtain ⟨v, d, rfl, hd, k⟩ := h
    refine ⟨_, (pss_cons (ps_if (PW.pt (pw_or (pt_not (pt_val (pe_callB (kIsi K) (by rfl) T.b_isinstance (by decide +kernel) (pa_cons (pv 0) (pa_cons (pe_bltn (v := .ty "tuple") (by rfl) T.b_tuple (by decide +kernel) rfl) pa_nil))))) (pw_or1 (pt_cmpR op_ne (pe_callB (kLen K) (by rfl) T.b_len (by decide +kernel) (pa_cons (pv 0) pa_nil)) pe_int (nomark _))))) (pss_one (ps_ret pe_bl)) pss_nil)
  (pss_cons (ps_asg (pv 0) (kpgT K (n := 3) (by rfl) (pgs_cons (pg_name (i := 1) sc_is_test.nd rfl (Or.inl rfl)) (pgs_cons (pg_name (i := 2) sc_is_test.nd rfl (Or.inl rfl)) (pgs_cons (pg_name (i := 3) sc_is_test.nd rfl (Or.inl rfl)) pgs_nil)))))
  (pss_cons (ps_if (PW.pt (pw_or (pt_not (pt_val (pe_dcall D_is_index (hr.mono (by decide)) (by rfl) pass0 (pa_cons (pv 1) (pa_cons (pe_gint (by rfl) T.c_FIELDS) pa_nil))))) (pw_or (pt_not (pt_val (pe_dcall D_is_word (hr.mono (by decide)) (by rfl) pass0 (pa_cons (pv 2) pa_nil)))) (pw_or1 (pt_not (pt_val (pe_dcall D_is_word (hr.mono (by decide)) (by rfl) pass0 (pa_cons (pv 3) pa_nil)))))))) (pss_one (ps_ret pe_bl)) pss_nil)
  (pss_one (ps_ret (pe_and (pe_cmpR op_ne (pv 2) pe_int (nomark _)) (pe_one (pe_cmpR op_eq (pe_op op_and (pv 3) (pv 2)) (pv 3) (nomark _))))))))), ?_⟩
    refine ⟨_, rfl, _, _, _, _, _, rfl, .ty _, hd.ty, kit_ty (kitTup d), _, rfl, ?_⟩
    cases hd with
    | @tup a xs ds ha hs =>
      have hlen := hs.len
      refine iteF ?_
      walk_at "run"
      refine iteDn (fun h1 => ?_) (fun h1 => ?_)
      · have e : isTst (.tuple ds) = false := by
          match ds, hlen with
          | [], _ => rfl
          | [_], _ => rfl
          | [_, _], _ => rfl
          | [x, y, z], hl => exact absurd (by rw [hl] <;> rfl) h1
          | _ :: _ :: _ :: _ :: _, _ => rfl
        rw [e] at k
        exact k
      · have h3 : ds.length = 3 := by
          have q : ((xs.length : Nat) : Int) = 3 := by injection h1
          omega
        match ds, h3, hs, k with
        | [d1, d2, d3], _, hs, k =>
          cases hs with
          | cons b1 hs => cases hs with
            | cons b2 hs => cases hs with
              | cons b3 hs =>
                cases hs
                walk_at "run"
                refine ⟨_, _, rfl, SqT.of ha, rfl, _, _, rfl, _, _, rfl, _, _, rfl, rfl, ?_⟩
                walk_at "run"
                refine ⟨_, d1, _, rfl, b1, _, rfl, ?_⟩
                cases e1 : isI d1 0 (6 - 1) with
                | false =>
                  have e : isTst (.tuple [d1, d2, d3]) = false := by
                    show (isI d1 0 5 && _ && _ && _) = false
                    rw [show isI d1 0 5 = false from e1]; rfl
                  rw [e] at k
                  exact iteT (iteT k)
                | true =>
                  refine iteF ?_
                  refine ⟨_, rfl, _, d2, rfl, b2, _, rfl, ?_⟩
                  cases e2 : isI d2 0 4294967295 with
                  | false =>
                    have e : isTst (.tuple [d1, d2, d3]) = false := by
                      show (isI d1 0 5 && isI d2 0 4294967295 && _ && _) = false
                      rw [e2]; cases isI d1 0 5 <;> rfl
                    rw [e] at k
                    exact iteT (iteT k)
                  | true =>
                    refine iteF ?_
                    refine ⟨_, rfl, _, d3, rfl, b3, _, rfl, ?_⟩
                    cases e3 : isI d3 0 4294967295 with
                    | false =>
                      have e : isTst (.tuple [d1, d2, d3]) = false := by
                        show (isI d1 0 5 && isI d2 0 4294967295 && isI d3 0 4294967295 && _) = false
                        rw [e2, e3]; cases isI d1 0 5 <;> rfl
                      rw [e] at k
                      exact iteT k
                    | true =>
                      refine iteF ?_
                      have e : isTst (.tuple [d1, d2, d3]) = okVal d2 d3 := by
                        show (isI d1 0 5 && isI d2 0 4294967295 && isI d3 0 4294967295 && _) = _
                        rw [e2, e3, show isI d1 0 5 = true from e1]; rfl
                      rw [e] at k
                      obtain ⟨m, rfl, _, _⟩ := isI_int e2
                      obtain ⟨v, rfl, _, _⟩ := isI_int e3
                      cases b2
                      cases b3
                      have k' : Q (.bl ((!decide (m = 0)) && decide (Builtin.bitAnd v m = v))) H := k
                      walk_at "run"
                      refine iteDn (fun h0 => ?_) (fun h0 => ?_)
                      · walk_at "run"
                        rw [decide_eq_false (fun q => h0 (by rw [q]))] at k'
                        have eV : decide (V.int (Builtin.bitAnd v m) = V.int v) = decide (Builtin.bitAnd v m = v) := by simp
                        show Q (.bl (decide (V.int (Builtin.bitAnd v m) = V.int v))) H
                        rw [eV]
                        exact k'
                      · rw [decide_eq_true (by injection h0)] at k'
                        exact k'
    | int i => exact iteT (iteT k)
    | bl b => exact iteT (iteT k)
    | non => exact iteT (iteT k)
    | str x => exact iteT (iteT k)
    | lst a b => exact iteT (iteT k)
end
end My

namespace My
open PySem L2
local macro_rules | `(tactic| walk_at "ne") => `(tactic| first | assumption | exact Ne.symm (by assumption) | exact ne_of_none (by assumption) (by assumption) | exact Ne.symm (ne_of_none (by assumption) (by assumption)))
local macro_rules | `(tactic| walk_at "hp") => `(tactic| first | assumption | with_reducible exact upd_same | (with_reducible refine Eq.trans (upd_ne ?_) ?_; rotate_left; walk_at "hp"; walk_at "ne"))
local macro_rules | `(tactic| walk_at "cnd") => `(tactic| first | omega | (show (0 : Int) < _; omega) | exact ⟨by omega, by omega⟩ | exact Or.inl ⟨by omega, by omega⟩ | exact Or.inr ⟨by omega, by omega⟩ | exact ⟨by omega, by omega, by decide⟩ | exact ⟨by omega, by omega, by omega⟩)
local macro_rules | `(tactic| walk_at "at") => `(tactic| first | exact atC 0 rfl rfl | exact atC 1 rfl rfl | exact atC 2 rfl rfl | exact atC 3 rfl rfl | exact atC 4 rfl rfl | exact atC 5 rfl rfl | exact atC 6 rfl rfl | exact atC 7 rfl rfl)
local macro_rules | `(tactic| walk_at "ix") => `(tactic| first | exact ixC 0 rfl (Nat.le_of_ble_eq_true rfl) | exact ixC 1 rfl (Nat.le_of_ble_eq_true rfl) | exact ixC 2 rfl (Nat.le_of_ble_eq_true rfl) | exact ixC 3 rfl (Nat.le_of_ble_eq_true rfl) | exact ixC 4 rfl (Nat.le_of_ble_eq_true rfl) | exact ixC 5 rfl (Nat.le_of_ble_eq_true rfl))
local macro_rules | `(tactic| walk_at "st") => `(tactic| first
  | refine ⟨_, rfl, ?_⟩
  | refine ⟨_, _, rfl, rfl, (by walk_at "cnd" : (_ : Prop)), ?_⟩
  | refine ⟨_, _, rfl, rfl, ?_⟩
  | refine ⟨rfl, ?_⟩
  | refine Or.inl ⟨_, rfl, ?_⟩
  | refine ⟨_, _, _, _, rfl, rfl, by exact SqL.of (by walk_at "hp"), by walk_at "at", ?_⟩
  | refine ⟨_, _, _, _, rfl, rfl, by exact SqT.of (by walk_at "hp"), by walk_at "at", ?_⟩
  | refine ⟨_, _, _, _, rfl, rfl, by walk_at "hp", by walk_at "ix", ?_⟩
  | refine ⟨_, _, rfl, Or.inl (by exact SqL.of (by walk_at "hp")), ?_⟩
  | refine ⟨_, _, rfl, Or.inr (by exact SqT.of (by walk_at "hp")), ?_⟩)
local macro_rules | `(tactic| walk_at "so") => `(tactic| first
  | refine ⟨_, _, _, _, _, rfl, by walk_at "hp", by assumption, by assumption, rfl, ?_⟩
  | refine ⟨_, _, _, _, rfl, by walk_at "hp", by assumption, by assumption, Nat.le_of_ble_eq_true rfl, ?_⟩
  | refine ⟨_, _, _, rfl, by walk_at "hp", rfl, ?_⟩
  | walk_at "st")
local macro_rules | `(tactic| walk_at "ro") => `(tactic| repeat walk_at "so")
local macro_rules | `(tactic| walk_at "run") => `(tactic| repeat walk_at "st")

theorem isTst_form {d : PyData} (h : isTst d = true) : ∃ i m v, d = .tuple [.int i, .int m, .int v] ∧ 0 ≤ i ∧ i ≤ 5 ∧ 0 ≤ m ∧ m ≤ 4294967295 ∧ 0 ≤ v ∧ v ≤ 4294967295 ∧ m ≠ 0 ∧ Builtin.bitAnd v m = v := by
  match d, h with
  | .tuple [a, b, c], h =>
    have h' : (isI a 0 5 && isI b 0 4294967295 && isI c 0 4294967295 && okVal b c) = true := h
    rw [Bool.and_eq_true, Bool.and_eq_true, Bool.and_eq_true] at h'
    obtain ⟨⟨⟨h1, h2⟩, h3⟩, h4⟩ := h'
    obtain ⟨i, rfl, a1, a2⟩ := isI_int h1
    obtain ⟨m, rfl, b1, b2⟩ := isI_int h2
    obtain ⟨v, rfl, c1, c2⟩ := isI_int h3
    have h4' : ((!decide (m = 0)) && decide (Builtin.bitAnd v m = v)) = true := h4
    rw [Bool.and_eq_true, decide_eq_true_eq] at h4'
    exact ⟨i, m, v, rfl, a1, a2, b1, b2, c1, c2, by simpa using h4'.1, h4'.2⟩
section
variable {P : Program} {w : World} {K : PySem.W.Frag} {mg : Str → Option Value} {base : Heap} {C_Net C_NotValid : Addr}{A_EMPTY : Addr}
abbrev s_is_filter : Stmt := topS 17
abbrev ns_is_filter : List Str := ["value", "test", "at"]
theorem sc_is_filter : FnScope ns_is_filter ["value"] (defScope s_is_filter) := ⟨rfl, rfl, rfl, by decide +kernel, rfl, by decide +kernel, by decide +kernel⟩

theorem ok_is_filter {f : Addr} {fd : FuncData} (F : Fun K "is_filter" "is_filter" s_is_filter f fd) (T : Txt K mg C_Net C_NotValid A_EMPTY) (D_is_test : Dfn P w K mg base CX0 4 "_is_test" ["value"] spTst) : FnOk P w K mg base CX0 5 f fd ["value"] spFl := by
  refine F.ok sc_is_filter (fun vs H Q E h => ?_) (fun cdv A outer s H vs Q E hr h => ?_)
  · obtain ⟨v, d, rfl, _⟩ := h
    rfl
  · obtain ⟨v, d, rfl, hd, hz, k⟩ := h
    refine ⟨_, (pss_cons (ps_if (PW.pt (pw_or (pt_not (pt_val (pe_callB (kIsi K) (by rfl) T.b_isinstance (by decide +kernel) (pa_cons (pv 0) (pa_cons (pe_bltn (v := .ty "tuple") (by rfl) T.b_tuple (by decide +kernel) rfl) pa_nil))))) (pw_or1 (pt_cmpR op_gt (pe_callB (kLen K) (by rfl) T.b_len (by decide +kernel) (pa_cons (pv 0) pa_nil)) (pe_gint (by rfl) T.c_FIELDS) (nomark _))))) (pss_one (ps_ret pe_bl)) pss_nil)
  (pss_cons (ps_if (pt_not (pt_val (pe_callB (kAll K rfl) (by rfl) T.b_all (by decide +kernel) (pa_cons (pe_lc (own := [("test", 1)]) (by rfl) sc_is_filter.nd (kpiT K (pv 0)) (blkOk_by (N := ns_is_filter) (sc := defScope s_is_filter) (by decide +kernel)) (fun _ _ _ _ _ => (pg_name (i := 1) sc_is_filter.nd rfl (Or.inl rfl))) (fun _ _ _ _ _ => pts_nil) (fun _ _ _ _ _ => (pe_dcall D_is_test (hr.mono (by decide)) (by rfl) pass0 (pa_cons (pv 1) pa_nil)))) pa_nil)))) (pss_one (ps_ret pe_bl)) pss_nil)
  (pss_one (ps_ret (pe_callB (kAll K rfl) (by rfl) T.b_all (by decide +kernel) (pa_cons (pe_lc (own := [("at", 2)]) (by rfl) sc_is_filter.nd (pi_range1 (by rfl) T.b_range (pa_cons (pe_op op_sub (pe_callB (kLen K) (by rfl) T.b_len (by decide +kernel) (pa_cons (pv 0) pa_nil)) pe_int) pa_nil)) (blkOk_by (N := ns_is_filter) (sc := defScope s_is_filter) (by decide +kernel)) (fun _ _ _ _ _ => (pg_name (i := 2) sc_is_filter.nd rfl (Or.inl rfl))) (fun _ _ _ _ _ => pts_nil) (fun _ _ _ _ _ => (pe_cmpR op_lt (pe_ix (kIxT K) (pe_ix (kIxT K) (pv 0) (pv 2) (fun _ _ => rfl)) pe_int (fun _ _ => rfl)) (pe_ix (kIxT K) (pe_ix (kIxT K) (pv 0) (pe_op op_add (pv 2) pe_int) (fun _ _ => rfl)) pe_int (fun _ _ => rfl)) (nomark _)))) pa_nil)))))), ?_⟩
    refine ⟨_, rfl, _, _, _, _, _, rfl, .ty _, hd.ty, kit_ty (kitTup d), _, rfl, ?_⟩
    cases hd with
    | @tup a xs ds ha hs =>
      have hlen := hs.len
      have hz' := hz ds rfl
      refine iteF ?_
      walk_at "run"
      refine iteD (fun h1 => ?_) (fun h1 => ?_)
      · have e : isFl (.tuple ds) = false := by
          show (decide (ds.length ≤ 6) && _ && _) = false
          rw [decide_eq_false (by omega)]; rfl
        rw [e] at k
        exact k H (Same.refl H)
      · have h6 : ds.length ≤ 6 := by omega
        walk_at "run"
        refine ⟨⟨_, SqT.of ha⟩, fun D hD => ?_⟩
        refine lcT (xs := xs) ((ds.map isTst).map V.bl) (by simp [hlen]) (by omega) ha hD ?_ ?_
        · intro j x y H1 Q' hx hy s1 q
          obtain ⟨d, hd1, hd2⟩ := hs.getV hx
          have ey : y = .bl (isTst d) := by
            rw [List.getElem?_map, List.getElem?_map, hd1] at hy
            exact (Option.some.inj hy).symm
          subst ey
          refine ⟨rfl, ?_⟩
          walk_at "run"
          exact ⟨_, d, rfl, hd2.same s1, q H1 (Same.refl _)⟩
        · intro H1 s1 d1
          refine ⟨_, _, rfl, SqL.of d1, _, rfl, ?_⟩
          cases e1 : (ds.map isTst).all id with
          | false =>
            have e : isFl (.tuple ds) = false := by
              show (decide (ds.length ≤ 6) && ds.all isTst && _) = false
              rw [show ds.all isTst = (ds.map isTst).all id by simp, e1]
              cases decide (ds.length ≤ 6) <;> rfl
            rw [e] at k
            exact iteT (k H1 s1)
          | true =>
            refine iteF ?_
            have hall : ∀ d ∈ ds, isTst d = true := by
              intro d hd
              rw [List.all_map] at e1
              exact List.all_eq_true.mp e1 d hd
            have ha1 := s1 _ _ ha
            have hs1 := hs.same s1
            walk_at "run"
            refine ⟨by omega, by omega, fun D2 hD2 => ?_⟩
            have en : ((xs.length : Int) - 1).toNat = ds.length - 1 := by omega
            rw [en]
            have get : ∀ i : Nat, i < ds.length → ∃ t i1 m v, xs[i]? = some (.ref t) ∧ H1 t = some (.tup [.int i1, .int m, .int v]) ∧ idxD (ds.getD i .none) = i1 := by
              intro i hi
              have hdi : ds[i]? = some ds[i] := List.getElem?_eq_getElem hi
              obtain ⟨x, hx, hxd⟩ := hs1.get hdi
              obtain ⟨i1, m, v, e, _⟩ := isTst_form (hall _ (List.getElem_mem hi))
              rw [e] at hxd
              cases hxd with
              | tup ht hts =>
                cases hts with
                | cons c1 hts => cases hts with
                  | cons c2 hts => cases hts with
                    | cons c3 hts =>
                      cases hts; cases c1; cases c2; cases c3
                      refine ⟨_, i1, m, v, hx, ht, ?_⟩
                      rw [List.getD_eq_getElem?_getD, hdi, e]; rfl
            refine lcR (((List.range (ds.length - 1)).map fun i => decide (idxD (ds.getD i .none) < idxD (ds.getD (i + 1) .none))).map V.bl) (by simp) (by omega) hD2 ?_ ?_
            · intro j y H2 Q' hy s2 q
              have hj : j < ds.length - 1 := by
                have := (List.getElem?_eq_some_iff.mp hy).1
                simpa using this
              have ey : y = .bl (decide (idxD (ds.getD j .none) < idxD (ds.getD (j + 1) .none))) := by
                rw [List.getElem?_map, List.getElem?_map, List.getElem?_range hj] at hy
                exact (Option.some.inj hy).symm
              subst ey
              refine ⟨rfl, ?_⟩
              obtain ⟨t1, a1, m1, v1, x1, ht1, g1⟩ := get j (by omega)
              obtain ⟨t2, a2, m2, v2, x2, ht2, g2⟩ := get (j + 1) (by omega)
              rw [g1, g2] at q
              have ha2 := s2 _ _ ha1
              have ht1' := s2 _ _ ht1
              have ht2' := s2 _ _ ht2
              refine ⟨_, rfl, _, rfl, _, _, _, _, rfl, rfl, SqT.of ha2, atC j (by omega) x1, ?_⟩
              refine ⟨_, _, _, _, rfl, rfl, SqT.of ht1', atC 0 rfl rfl, ?_⟩
              refine ⟨_, rfl, _, rfl, _, _, rfl, rfl, _, _, _, _, rfl, rfl, SqT.of ha2, atC (j + 1) (by omega) x2, ?_⟩
              refine ⟨_, _, _, _, rfl, rfl, SqT.of ht2', atC 0 rfl rfl, _, _, rfl, rfl, ?_⟩
              exact q H2 (Same.refl _)
            · intro H2 s2 d2
              refine ⟨_, _, rfl, SqL.of d2, ?_⟩
              have e : isFl (.tuple ds) = ((List.range (ds.length - 1)).map fun i => decide (idxD (ds.getD i .none) < idxD (ds.getD (i + 1) .none))).all id := by
                show (decide (ds.length ≤ 6) && ds.all isTst && _) = _
                rw [show ds.all isTst = (ds.map isTst).all id by simp, e1, decide_eq_true h6]
                simp
              rw [e] at k
              exact k H2 (s1.trans s2)
    | int i => exact iteT (k H (Same.refl H))
    | bl b => exact iteT (k H (Same.refl H))
    | non => exact iteT (k H (Same.refl H))
    | str x => exact iteT (k H (Same.refl H))
    | lst a b => exact iteT (k H (Same.refl H))
end
end My

namespace My
open PySem L2
local macro_rules | `(tactic| walk_at "ne") => `(tactic| first | assumption | exact Ne.symm (by assumption) | exact ne_of_none (by assumption) (by assumption) | exact Ne.symm (ne_of_none (by assumption) (by assumption)))
local macro_rules | `(tactic| walk_at "hp") => `(tactic| first | assumption | with_reducible exact upd_same | (with_reducible refine Eq.trans (upd_ne ?_) ?_; rotate_left; walk_at "hp"; walk_at "ne"))
local macro_rules | `(tactic| walk_at "cnd") => `(tactic| first | omega | (show (0 : Int) < _; omega) | exact ⟨by omega, by omega⟩ | exact Or.inl ⟨by omega, by omega⟩ | exact Or.inr ⟨by omega, by omega⟩ | exact ⟨by omega, by omega, by decide⟩ | exact ⟨by omega, by omega, by omega⟩)
local macro_rules | `(tactic| walk_at "at") => `(tactic| first | exact atC 0 rfl rfl | exact atC 1 rfl rfl | exact atC 2 rfl rfl | exact atC 3 rfl rfl | exact atC 4 rfl rfl | exact atC 5 rfl rfl | exact atC 6 rfl rfl | exact atC 7 rfl rfl)
local macro_rules | `(tactic| walk_at "ix") => `(tactic| first | exact ixC 0 rfl (Nat.le_of_ble_eq_true rfl) | exact ixC 1 rfl (Nat.le_of_ble_eq_true rfl) | exact ixC 2 rfl (Nat.le_of_ble_eq_true rfl) | exact ixC 3 rfl (Nat.le_of_ble_eq_true rfl) | exact ixC 4 rfl (Nat.le_of_ble_eq_true rfl) | exact ixC 5 rfl (Nat.le_of_ble_eq_true rfl))
local macro_rules | `(tactic| walk_at "st") => `(tactic| first
  | refine ⟨_, rfl, ?_⟩
  | refine ⟨_, _, rfl, rfl, (by walk_at "cnd" : (_ : Prop)), ?_⟩
  | refine ⟨_, _, rfl, rfl, ?_⟩
  | refine ⟨rfl, ?_⟩
  | refine Or.inl ⟨_, rfl, ?_⟩
  | refine ⟨_, _, _, _, rfl, rfl, by exact SqL.of (by walk_at "hp"), by walk_at "at", ?_⟩
  | refine ⟨_, _, _, _, rfl, rfl, by exact SqT.of (by walk_at "hp"), by walk_at "at", ?_⟩
  | refine ⟨_, _, _, _, rfl, rfl, by walk_at "hp", by walk_at "ix", ?_⟩
  | refine ⟨_, _, rfl, Or.inl (by exact SqL.of (by walk_at "hp")), ?_⟩
  | refine ⟨_, _, rfl, Or.inr (by exact SqT.of (by walk_at "hp")), ?_⟩)
local macro_rules | `(tactic| walk_at "so") => `(tactic| first
  | refine ⟨_, _, _, _, _, rfl, by walk_at "hp", by assumption, by assumption, rfl, ?_⟩
  | refine ⟨_, _, _, _, rfl, by walk_at "hp", by assumption, by assumption, Nat.le_of_ble_eq_true rfl, ?_⟩
  | refine ⟨_, _, _, rfl, by walk_at "hp", rfl, ?_⟩
  | walk_at "st")
local macro_rules | `(tactic| walk_at "ro") => `(tactic| repeat walk_at "so")
local macro_rules | `(tactic| walk_at "run") => `(tactic| repeat walk_at "st")

def vN (n : Nat) : V := .int (n : Int)
def rowV (r : Row3) : List V := [.int r.1, .int r.2.1, .int r.2.2]
def rowD (r : Row3) : PyData := .tuple [.int r.1, .int r.2.1, .int r.2.2]
def fD (rows : List Row3) : PyData := .tuple (rows.map rowD)
def pD (ws : List Nat) : PyData := .tuple (ws.map fun n : Nat => PyData.int (n : Int))
theorem fD_open {H : Hp} {v : V} {rows : List Row3} (h : Dt H v (fD rows)) : ∃ (a : Addr) (xs : List V), v = .ref a ∧ H a = some (.tup xs) ∧ xs.length = rows.length ∧
    ∀ (i : Nat) (x : V), xs[i]? = some x → ∃ (r : Row3) (t : Addr), rows[i]? = some r ∧ x = .ref t ∧ H t = some (.tup (rowV r)) := by
  unfold fD at h
  cases h with
  | @tup a xs ds ha hs =>
    refine ⟨a, xs, rfl, ha, by rw [hs.len, List.length_map], fun i x hx => ?_⟩
    obtain ⟨d, hd, hD⟩ := hs.getV hx
    rw [List.getElem?_map] at hd
    cases e : rows[i]? with
    | none => rw [e] at hd; cases hd
    | some r =>
      rw [e] at hd
      have e2 : rowD r = d := Option.some.inj hd
      subst e2
      unfold rowD at hD
      cases hD with
      | tup ht hts =>
        cases hts with
        | cons c1 hts => cases hts with
          | cons c2 hts => cases hts with
            | cons c3 hts =>
              cases hts; cases c1; cases c2; cases c3
              exact ⟨r, _, rfl, rfl, ht⟩
theorem ints_open {H : Hp} : ∀ {ws : List Nat} {xs : List V}, DtAll H xs (ws.map fun n : Nat => PyData.int (n : Int)) → xs = ws.map vN
  | [], _, h => by cases h; rfl
  | w :: ws, _, h => by
    cases h with
    | cons h1 h2 =>
      cases h1
      rw [ints_open h2]; rfl
theorem pD_open {H : Hp} {v : V} {ws : List Nat} (h : Dt H v (pD ws)) : ∃ (a : Addr), v = .ref a ∧ H a = some (.tup (ws.map vN)) := by
  unfold pD at h
  cases h with
  | tup ha hs => exact ⟨_, rfl, by rw [ha, ints_open hs]⟩
theorem ints_mk {H : Hp} : ∀ {ws : List Nat}, DtAll H (ws.map vN) (ws.map fun n : Nat => PyData.int (n : Int))
  | [] => .nil
  | w :: ws => .cons (.int _) ints_mk
theorem pD_mk {H : Hp} {a : Addr} {ws : List Nat} (h : H a = some (.tup (ws.map vN))) : Dt H (.ref a) (pD ws) := .tup h ints_mk
theorem rows_tonly : ∀ (rows : List Row3), tonlyAll (rows.map rowD) = true
  | [] => rfl
  | r :: rs => by
    show (tonly (rowD r) && tonlyAll (rs.map rowD)) = true
    rw [rows_tonly rs]; rfl
theorem fD_tonly (rows : List Row3) : tonly (fD rows) = true := by
  show tonlyAll (rows.map rowD) = true
  exact rows_tonly rows
theorem ints_tonly : ∀ (ws : List Nat), tonlyAll (ws.map fun n : Nat => PyData.int (n : Int)) = true
  | [] => rfl
  | w :: ws => by
    show (true && tonlyAll (ws.map fun n : Nat => PyData.int (n : Int))) = true
    rw [ints_tonly ws]; rfl
theorem pD_tonly (ws : List Nat) : tonly (pD ws) = true := by
  show tonlyAll _ = true
  exact ints_tonly ws
theorem bitAnd_nat (a b : Nat) : Builtin.bitAnd (a : Int) (b : Int) = ((a &&& b : Nat) : Int) := by
  rw [PyProof.Rows.bitAnd_pp (Int.natCast_nonneg a) (Int.natCast_nonneg b), Int.toNat_natCast, Int.toNat_natCast]
theorem bitOr_nat (a b : Nat) : Builtin.bitOr (a : Int) (b : Int) = ((a ||| b : Nat) : Int) := by
  rw [Bits.bitOr_pp (Int.natCast_nonneg a) (Int.natCast_nonneg b), Int.toNat_natCast, Int.toNat_natCast]
theorem bitXor_nat (a b : Nat) : Builtin.bitXor (a : Int) (b : Int) = ((a ^^^ b : Nat) : Int) := by
  rw [Bits.bitXor_pp (Int.natCast_nonneg a) (Int.natCast_nonneg b), Int.toNat_natCast, Int.toNat_natCast]
theorem dec_int (a b : Int) : decide (V.int a = V.int b) = decide (a = b) := by simp
theorem dec_nat (a b : Nat) : decide (V.int (a : Int) = V.int (b : Int)) = decide (a = b) := by
  rw [dec_int]
  by_cases h : a = b
  · subst h; simp
  · rw [decide_eq_false h, decide_eq_false (by omega)]
theorem getVN {ws : List Nat} {i : Nat} (h : i < ws.length) : (ws.map vN)[i]? = some (.int (ws.getD i 0 : Nat)) := by
  rw [List.getElem?_map, List.getElem?_eq_getElem h, List.getD_eq_getElem?_getD, List.getElem?_eq_getElem h]; rfl
def meetsM (rows : List Row3) (ws : List Nat) : Bool := rows.all fun r => decide (ws.getD r.1 0 &&& r.2.1 = r.2.2)
end My

namespace My
open PySem L2
local macro_rules | `(tactic| walk_at "ne") => `(tactic| first | assumption | exact Ne.symm (by assumption) | exact ne_of_none (by assumption) (by assumption) | exact Ne.symm (ne_of_none (by assumption) (by assumption)))
local macro_rules | `(tactic| walk_at "hp") => `(tactic| first | assumption | with_reducible exact upd_same | (with_reducible refine Eq.trans (upd_ne ?_) ?_; rotate_left; walk_at "hp"; walk_at "ne"))
local macro_rules | `(tactic| walk_at "cnd") => `(tactic| first | omega | (show (0 : Int) < _; omega) | exact ⟨by omega, by omega⟩ | exact Or.inl ⟨by omega, by omega⟩ | exact Or.inr ⟨by omega, by omega⟩ | exact ⟨by omega, by omega, by decide⟩ | exact ⟨by omega, by omega, by omega⟩)
local macro_rules | `(tactic| walk_at "at") => `(tactic| first | exact atC 0 rfl rfl | exact atC 1 rfl rfl | exact atC 2 rfl rfl | exact atC 3 rfl rfl | exact atC 4 rfl rfl | exact atC 5 rfl rfl | exact atC 6 rfl rfl | exact atC 7 rfl rfl)
local macro_rules | `(tactic| walk_at "ix") => `(tactic| first | exact ixC 0 rfl (Nat.le_of_ble_eq_true rfl) | exact ixC 1 rfl (Nat.le_of_ble_eq_true rfl) | exact ixC 2 rfl (Nat.le_of_ble_eq_true rfl) | exact ixC 3 rfl (Nat.le_of_ble_eq_true rfl) | exact ixC 4 rfl (Nat.le_of_ble_eq_true rfl) | exact ixC 5 rfl (Nat.le_of_ble_eq_true rfl))
local macro_rules | `(tactic| walk_at "st") => `(tactic| first
  | refine ⟨_, rfl, ?_⟩
  | refine ⟨_, _, rfl, rfl, (by walk_at "cnd" : (_ : Prop)), ?_⟩
  | refine ⟨_, _, rfl, rfl, ?_⟩
  | refine ⟨rfl, ?_⟩
  | refine Or.inl ⟨_, rfl, ?_⟩
  | refine ⟨_, _, _, _, rfl, rfl, by exact SqL.of (by walk_at "hp"), by walk_at "at", ?_⟩
  | refine ⟨_, _, _, _, rfl, rfl, by exact SqT.of (by walk_at "hp"), by walk_at "at", ?_⟩
  | refine ⟨_, _, _, _, rfl, rfl, by walk_at "hp", by walk_at "ix", ?_⟩
  | refine ⟨_, _, rfl, Or.inl (by exact SqL.of (by walk_at "hp")), ?_⟩
  | refine ⟨_, _, rfl, Or.inr (by exact SqT.of (by walk_at "hp")), ?_⟩)
local macro_rules | `(tactic| walk_at "so") => `(tactic| first
  | refine ⟨_, _, _, _, _, rfl, by walk_at "hp", by assumption, by assumption, rfl, ?_⟩
  | refine ⟨_, _, _, _, rfl, by walk_at "hp", by assumption, by assumption, Nat.le_of_ble_eq_true rfl, ?_⟩
  | refine ⟨_, _, _, rfl, by walk_at "hp", rfl, ?_⟩
  | walk_at "st")
local macro_rules | `(tactic| walk_at "ro") => `(tactic| repeat walk_at "so")
local macro_rules | `(tactic| walk_at "run") => `(tactic| repeat walk_at "st")

def st1 (p : List Nat × List Nat) (r : Row3) : List Nat × List Nat := (p.1.set r.1 r.2.1, p.2.set r.1 r.2.2)
def z6 : List Nat := [0, 0, 0, 0, 0, 0]
def one1 (rows : List Row3) : List Nat × List Nat := rows.foldl st1 (z6, z6)
def st2 (ms : List Nat) (o : Option (List Nat)) (r : Row3) : Option (List Nat) := o.bind fun ws =>
  if ((ws.getD r.1 0 ^^^ r.2.2) &&& ms.getD r.1 0) &&& r.2.1 = 0 then some (ws.set r.1 (ws.getD r.1 0 ||| r.2.2)) else none
def commonM (one other : List Row3) : Option (List Nat) := other.foldl (st2 (one1 one).1) (some (one1 one).2)
theorem foldl_take {α β : Type} {f : β → α → β} {l : List α} {z : β} {i : Nat} {r : α} (h : l[i]? = some r) : (l.take (i + 1)).foldl f z = f ((l.take i).foldl f z) r := by
  rw [← take_snoc h, List.foldl_append]; rfl
theorem st1_len : ∀ (rows : List Row3) (p : List Nat × List Nat), p.1.length = 6 → p.2.length = 6 → (rows.foldl st1 p).1.length = 6 ∧ (rows.foldl st1 p).2.length = 6
  | [], p, h1, h2 => ⟨h1, h2⟩
  | r :: rs, p, h1, h2 => st1_len rs (st1 p r) (by simp [st1, h1]) (by simp [st1, h2])
theorem st2_none (ms : List Nat) : ∀ (rows : List Row3), rows.foldl (st2 ms) none = none
  | [] => rfl
  | r :: rs => st2_none ms rs
theorem st2_len (ms : List Nat) : ∀ (rows : List Row3) (ws ws' : List Nat), ws.length = 6 → rows.foldl (st2 ms) (some ws) = some ws' → ws'.length = 6
  | [], ws, ws', h1, h2 => by cases h2; exact h1
  | r :: rs, ws, ws', h1, h2 => by
    rw [List.foldl_cons] at h2
    unfold st2 at h2
    simp only [Option.bind_some] at h2
    split at h2
    · exact st2_len ms rs _ ws' (by simp [h1]) h2
    · have e := st2_none ms rs
      unfold st2 at e
      rw [e] at h2; cases h2
theorem mapSet {ws : List Nat} {j n : Nat} : (ws.map vN).set j (.int (n : Int)) = (ws.set j n).map vN := by rw [List.map_set]; rfl
def spCommon : Sp := fun vs H Q _ => ∃ t p one other, vs = [t, p] ∧ Dt H t (fD one) ∧ Dt H p (fD other) ∧ (∀ r ∈ one, r.1 < 6) ∧ (∀ r ∈ other, r.1 < 6) ∧ one.length ≤ 1000 ∧ other.length ≤ 1000 ∧
  (commonM one other = none → ∀ H', Same H H' → Q .non H') ∧ (∀ ws, commonM one other = some ws → ∀ p H', H p = none → H' p = some (.tup (ws.map vN)) → Same H H' → Q (.ref p) H')
section
variable {P : Program} {w : World} {K : PySem.W.Frag} {mg : Str → Option Value} {base : Heap} {C_Net C_NotValid : Addr}{A_EMPTY : Addr}
abbrev s_common : Stmt := topS 19
abbrev ns_common : List Str := ["one", "other", "words", "masks", "index", "mask", "value"]
theorem sc_common : FnScope ns_common ["one", "other"] (defScope s_common) := ⟨rfl, rfl, rfl, by decide +kernel, rfl, by decide +kernel, by decide +kernel⟩

theorem ok_common {f : Addr} {fd : FuncData} (F : Fun K "common" "common" s_common f fd) (T : Txt K mg C_Net C_NotValid A_EMPTY) : FnOk P w K mg base CX0 1 f fd ["one", "other"] spCommon := by
  refine F.ok sc_common (fun vs H Q E h => ?_) (fun cdv A outer s H vs Q E hr h => ?_)
  · obtain ⟨t, p, one, other, rfl, _⟩ := h
    rfl
  · obtain ⟨t, p, one, other, rfl, h1, h2, i1, i2, z1, z2, kN, kS⟩ := h
    obtain ⟨a, xs, rfl, ha, hl, hx⟩ := fD_open h1
    obtain ⟨b, ys, rfl, hb, hl2, hy⟩ := fD_open h2
    refine ⟨_, (pss_cons (ps_set (i := 2) sc_common.nd rfl (Or.inl rfl) (pe_op op_rep (pe_lst (pa_cons pe_int pa_nil)) (pe_gint (by rfl) T.c_FIELDS)))
  (pss_cons (ps_set (i := 3) sc_common.nd rfl (Or.inl rfl) (pe_op op_rep (pe_lst (pa_cons pe_int pa_nil)) (pe_gint (by rfl) T.c_FIELDS)))
  (pss_cons (ps_for PassesOwn.never (by rfl) (kpiT K (pv 0)) (kpgT K (n := 3) (by rfl) (pgs_cons (pg_name (i := 4) sc_common.nd rfl (Or.inl rfl)) (pgs_cons (pg_name (i := 5) sc_common.nd rfl (Or.inl rfl)) (pgs_cons (pg_name (i := 6) sc_common.nd rfl (Or.inl rfl)) pgs_nil)))) (pss_cons (ps_asg (pv 5) (pg_sub (pv 3) (pv 4) set_list))
  (pss_one (ps_asg (pv 6) (pg_sub (pv 2) (pv 4) set_list)))))
  (pss_cons (ps_for PassesOwn.never (by rfl) (kpiT K (pv 1)) (kpgT K (n := 3) (by rfl) (pgs_cons (pg_name (i := 4) sc_common.nd rfl (Or.inl rfl)) (pgs_cons (pg_name (i := 5) sc_common.nd rfl (Or.inl rfl)) (pgs_cons (pg_name (i := 6) sc_common.nd rfl (Or.inl rfl)) pgs_nil)))) (pss_cons (ps_if (pt_truth (pe_op op_and (pe_op op_and (pe_op op_xor (pe_ix (kIxL K) (pv 2) (pv 4) (fun _ _ => rfl)) (pv 6)) (pe_ix (kIxL K) (pv 3) (pv 4) (fun _ _ => rfl))) (pv 5)) (by intro _; rfl)) (pss_one (ps_ret pe_non)) pss_nil)
  (pss_one (ps_asg (pe_op op_or (pe_ix (kIxL K) (pv 2) (pv 4) (fun _ _ => rfl)) (pv 6)) (pg_sub (pv 2) (pv 4) set_list)))))
  (pss_one (ps_ret (pe_callTy (kTupOf K) (by rfl) T.b_tuple (by decide +kernel) (pa_cons (pv 2) pa_nil)))))))), ?_⟩
    -- words, masks
    refine ⟨by decide, fun l0 n0 => ⟨_, _, _, rfl, rfl, upd_same, by decide, by decide, by decide, fun W hW => ?_⟩⟩
    refine ⟨by decide, fun l1 n1 => ⟨_, _, _, rfl, rfl, upd_same, by decide, by decide, by decide, fun M hM => ?_⟩⟩
    generalize eH0 : upd (upd (upd (upd H l0 _) W _) l1 _) M _ = H0
    have sW : Same H (upd (upd H l0 (.lst [.int 0])) W (.lst (List.replicate (Int.toNat 6) [V.int 0]).flatten)) := (Same.new n0).trans (Same.new hW)
    have s0 : Same H H0 := by
      rw [← eH0]
      exact (sW.trans (Same.new n1)).trans (Same.new hM)
    have fW : H W = none := (Same.new n0).free hW
    have fM : H M = none := (sW.trans (Same.new n1)).free hM
    have nWM : W ≠ M := fun e => by
      subst e
      have q : (upd (upd (upd H l0 (.lst [.int 0])) W (.lst (List.replicate (Int.toNat 6) [V.int 0]).flatten)) l1 (.lst [.int 0])) W = some _ := (Same.new n1) _ _ upd_same
      rw [q] at hM; cases hM
    have hW0 : H0 W = some (.lst (z6.map vN)) := by
      rw [← eH0, upd_ne nWM]
      exact (Same.new n1) _ _ upd_same
    have hM0 : H0 M = some (.lst (z6.map vN)) := by
      rw [← eH0]; exact upd_same
    -- the first loop
    refine ⟨_, rfl, _, rfl, ⟨_, SqT.of (s0 _ _ ha)⟩, for_tup (xs := xs) (fun i σ H1 => ∃ v4 v5 v6 : Option V, σ = [some (.ref a), some (.ref b), some (.ref W), some (.ref M), v4, v5, v6] ∧ Same H H1 ∧
      H1 W = some (.lst (((one.take i).foldl st1 (z6, z6)).2.map vN)) ∧ H1 M = some (.lst (((one.take i).foldl st1 (z6, z6)).1.map vN)))
      ⟨none, none, none, rfl, s0, hW0, hM0⟩ (fun i σ H1 _ ⟨_, _, _, _, s, _⟩ => SqT.of (s _ _ ha)) ?_ ?_⟩
    · rintro i x σ H1 hi ⟨v4, v5, v6, rfl, s1, hw, hm⟩
      obtain ⟨r, t, hr1, rfl, ht⟩ := hx i x hi
      have hir := i1 r (List.mem_of_getElem? hr1)
      obtain ⟨len1, len2⟩ := st1_len (one.take i) (z6, z6) rfl rfl
      refine ⟨t, _, rfl, SqT.of (s1 _ _ ht), rfl, _, _, rfl, _, _, rfl, _, _, rfl, rfl, ?_⟩
      refine ⟨_, rfl, _, rfl, _, rfl, _, _, _, _, rfl, rfl, hm, ixC r.1 rfl (by rw [List.length_map]; omega), ?_⟩
      refine ⟨_, rfl, _, rfl, _, rfl, _, _, _, _, rfl, rfl, Eq.trans (upd_ne nWM) hw, ixC r.1 rfl (by rw [List.length_map]; omega), ?_⟩
      refine ⟨_, _, _, rfl, Same.mut (Same.mut s1 fM) fW, ?_, ?_⟩
      · rw [foldl_take hr1, upd_same, mapSet]; rfl
      · rw [foldl_take hr1, upd_ne nWM.symm, upd_same, mapSet]; rfl
    · rintro σ H1 ⟨v4, v5, v6, rfl, s1, hw, hm⟩
      rw [hl, List.take_length] at hw hm
      -- the second loop
      refine ⟨_, rfl, _, rfl, ⟨_, SqT.of (s1 _ _ hb)⟩, for_tup (xs := ys) (fun i σ H1 => ∃ (v4 v5 v6 : Option V) (ws : List Nat), σ = [some (.ref a), some (.ref b), some (.ref W), some (.ref M), v4, v5, v6] ∧ Same H H1 ∧
        (other.take i).foldl (st2 (one1 one).1) (some (one1 one).2) = some ws ∧ H1 W = some (.lst (ws.map vN)) ∧ H1 M = some (.lst ((one1 one).1.map vN)))
        ⟨v4, v5, v6, _, rfl, s1, rfl, hw, hm⟩ (fun i σ H1 _ ⟨_, _, _, _, _, s, _⟩ => SqT.of (s _ _ hb)) ?_ ?_⟩
      · rintro i x σ H1 hi ⟨v4, v5, v6, ws, rfl, s1, hf, hw, hm⟩
        obtain ⟨r, t, hr1, rfl, ht⟩ := hy i x hi
        have hir := i2 r (List.mem_of_getElem? hr1)
        obtain ⟨len1, len2⟩ := st1_len one (z6, z6) rfl rfl
        have len3 := st2_len _ _ _ _ len2 hf
        have hf' : (other.take (i + 1)).foldl (st2 (one1 one).1) (some (one1 one).2) = st2 (one1 one).1 (some ws) r := by rw [foldl_take hr1, hf]
        refine ⟨t, _, rfl, SqT.of (s1 _ _ ht), rfl, _, _, rfl, _, _, rfl, _, _, rfl, rfl, ?_⟩
        have gw := getVN (ws := ws) (i := r.1) (by omega)
        have gm := getVN (ws := (one1 one).1) (i := r.1) (by show r.1 < (one.foldl st1 (z6, z6)).1.length; omega)
        refine ⟨_, rfl, _, rfl, _, _, _, _, rfl, rfl, SqL.of hw, atC r.1 rfl gw, ?_⟩
        refine ⟨_, rfl, _, _, rfl, rfl, _, rfl, _, rfl, _, _, _, _, rfl, rfl, SqL.of hm, atC r.1 rfl gm, ?_⟩
        walk_at "run"
        have ev : Builtin.bitAnd (Builtin.bitAnd (Builtin.bitXor (ws.getD r.1 0 : Nat) (r.2.2 : Nat)) ((one1 one).1.getD r.1 0 : Nat)) (r.2.1 : Nat) = ((((ws.getD r.1 0 ^^^ r.2.2) &&& (one1 one).1.getD r.1 0) &&& r.2.1 : Nat) : Int) := by
          rw [bitXor_nat, bitAnd_nat, bitAnd_nat]
        refine iteB (fun e => ?_) (fun e => ?_)
        · have e' : (Builtin.bitAnd (Builtin.bitAnd (Builtin.bitXor (ws.getD r.1 0 : Nat) (r.2.2 : Nat)) ((one1 one).1.getD r.1 0 : Nat)) (r.2.1 : Nat) != 0) = true := e
          rw [ev] at e'
          have hn : ((ws.getD r.1 0 ^^^ r.2.2) &&& (one1 one).1.getD r.1 0) &&& r.2.1 ≠ 0 := by
            intro q; rw [q] at e'; cases e'
          have hs : (other.take (i + 1)).foldl (st2 (one1 one).1) (some (one1 one).2) = none := by
            rw [hf']; show (if _ then _ else _) = _; rw [if_neg hn]
          refine kN ?_ _ s1
          unfold commonM
          rw [← List.take_append_drop (i + 1) other, List.foldl_append, hs]
          exact st2_none _ _
        · have e' : (Builtin.bitAnd (Builtin.bitAnd (Builtin.bitXor (ws.getD r.1 0 : Nat) (r.2.2 : Nat)) ((one1 one).1.getD r.1 0 : Nat)) (r.2.1 : Nat) != 0) = false := e
          rw [ev] at e'
          have hz : ((ws.getD r.1 0 ^^^ r.2.2) &&& (one1 one).1.getD r.1 0) &&& r.2.1 = 0 := by
            have q := (bne_eq_false_iff_eq).mp e'
            omega
          refine ⟨_, rfl, _, rfl, _, _, _, _, rfl, rfl, SqL.of hw, atC r.1 rfl gw, ?_⟩
          refine ⟨_, rfl, _, _, rfl, rfl, _, rfl, _, rfl, _, _, _, _, rfl, rfl, hw, ixC r.1 rfl (by rw [List.length_map]; omega), ?_⟩
          refine ⟨_, _, _, ws.set r.1 (ws.getD r.1 0 ||| r.2.2), rfl, Same.mut s1 fW, ?_, ?_, ?_⟩
          · rw [hf']; show (if _ then _ else _) = _; rw [if_pos hz]
          · rw [upd_same]
            show some (HO.lst ((ws.map vN).set r.1 (V.int (Builtin.bitOr (ws.getD r.1 0 : Nat) (r.2.2 : Nat))))) = _
            rw [bitOr_nat, mapSet]
          · rw [upd_ne nWM.symm]; exact hm
      · rintro σ H1 ⟨v4, v5, v6, ws, rfl, s1, hf, hw, hm⟩
        rw [hl2, List.take_length] at hf
        refine ⟨_, rfl, _, _, rfl, .inl ⟨SqL.of hw, fun l hl => ?_⟩⟩
        exact kS ws hf l _ (s1.free hl) upd_same (s1.trans (Same.new hl))
end
end My

namespace My
open PySem L2
local macro_rules | `(tactic| walk_at "ne") => `(tactic| first | assumption | exact Ne.symm (by assumption) | exact ne_of_none (by assumption) (by assumption) | exact Ne.symm (ne_of_none (by assumption) (by assumption)))
local macro_rules | `(tactic| walk_at "hp") => `(tactic| first | assumption | with_reducible exact upd_same | (with_reducible refine Eq.trans (upd_ne ?_) ?_; rotate_left; walk_at "hp"; walk_at "ne"))
local macro_rules | `(tactic| walk_at "cnd") => `(tactic| first | omega | (show (0 : Int) < _; omega) | exact ⟨by omega, by omega⟩ | exact Or.inl ⟨by omega, by omega⟩ | exact Or.inr ⟨by omega, by omega⟩ | exact ⟨by omega, by omega, by decide⟩ | exact ⟨by omega, by omega, by omega⟩)
local macro_rules | `(tactic| walk_at "at") => `(tactic| first | exact atC 0 rfl rfl | exact atC 1 rfl rfl | exact atC 2 rfl rfl | exact atC 3 rfl rfl | exact atC 4 rfl rfl | exact atC 5 rfl rfl | exact atC 6 rfl rfl | exact atC 7 rfl rfl)
local macro_rules | `(tactic| walk_at "ix") => `(tactic| first | exact ixC 0 rfl (Nat.le_of_ble_eq_true rfl) | exact ixC 1 rfl (Nat.le_of_ble_eq_true rfl) | exact ixC 2 rfl (Nat.le_of_ble_eq_true rfl) | exact ixC 3 rfl (Nat.le_of_ble_eq_true rfl) | exact ixC 4 rfl (Nat.le_of_ble_eq_true rfl) | exact ixC 5 rfl (Nat.le_of_ble_eq_true rfl))
local macro_rules | `(tactic| walk_at "st") => `(tactic| first
  | refine ⟨_, rfl, ?_⟩
  | refine ⟨_, _, rfl, rfl, (by walk_at "cnd" : (_ : Prop)), ?_⟩
  | refine ⟨_, _, rfl, rfl, ?_⟩
  | refine ⟨rfl, ?_⟩
  | refine Or.inl ⟨_, rfl, ?_⟩
  | refine ⟨_, _, _, _, rfl, rfl, by exact SqL.of (by walk_at "hp"), by walk_at "at", ?_⟩
  | refine ⟨_, _, _, _, rfl, rfl, by exact SqT.of (by walk_at "hp"), by walk_at "at", ?_⟩
  | refine ⟨_, _, _, _, rfl, rfl, by walk_at "hp", by walk_at "ix", ?_⟩
  | refine ⟨_, _, rfl, Or.inl (by exact SqL.of (by walk_at "hp")), ?_⟩
  | refine ⟨_, _, rfl, Or.inr (by exact SqT.of (by walk_at "hp")), ?_⟩)
local macro_rules | `(tactic| walk_at "so") => `(tactic| first
  | refine ⟨_, _, _, _, _, rfl, by walk_at "hp", by assumption, by assumption, rfl, ?_⟩
  | refine ⟨_, _, _, _, rfl, by walk_at "hp", by assumption, by assumption, Nat.le_of_ble_eq_true rfl, ?_⟩
  | refine ⟨_, _, _, rfl, by walk_at "hp", rfl, ?_⟩
  | walk_at "st")
local macro_rules | `(tactic| walk_at "ro") => `(tactic| repeat walk_at "so")
local macro_rules | `(tactic| walk_at "run") => `(tactic| repeat walk_at "st")

def Good (rows : List Row3) : Prop := rows.Pairwise (fun r s => r.1 < s.1) ∧ (∀ r ∈ rows, r.1 < 6 ∧ 0 < r.2.1 ∧ r.2.1 < 2 ^ 32 ∧ r.2.2 &&& r.2.1 = r.2.2) ∧ rows.length ≤ 6
theorem or_lt {x y : Nat} (hx : x < 2 ^ 32) (hy : y < 2 ^ 32) : x ||| y < 2 ^ 32 := Nat.or_lt_two_pow hx hy
theorem and_le32 {v m : Nat} (h : v &&& m = v) (hm : m < 2 ^ 32) : v < 2 ^ 32 := by
  rw [← h]; exact Nat.lt_of_le_of_lt Nat.and_le_right hm
def Mt (rows : List Row3) (ws : List Nat) : Prop := ∀ r ∈ rows, ∀ b, b < 32 → r.2.1.testBit b = true → (ws.getD r.1 0).testBit b = r.2.2.testBit b
def Ap (one other : List Row3) : Prop := ∃ r ∈ one, ∃ s ∈ other, s.1 = r.1 ∧ ∃ b, b < 32 ∧ r.2.1.testBit b = true ∧ s.2.1.testBit b = true ∧ r.2.2.testBit b ≠ s.2.2.testBit b
theorem isI_nat {n : Nat} {hi : Int} (h : (n : Int) ≤ hi) : isI (.int (n : Int)) 0 hi = true := by
  show (decide ((0 : Int) ≤ n) && decide ((n : Int) ≤ hi)) = true
  rw [decide_eq_true (Int.natCast_nonneg n), decide_eq_true h]; rfl
theorem isTst_row {r : Row3} (h1 : r.1 < 6) (h2 : 0 < r.2.1) (h3 : r.2.1 < 2 ^ 32) (h4 : r.2.2 &&& r.2.1 = r.2.2) : isTst (rowD r) = true := by
  have h5 := and_le32 h4 h3
  show (isI (.int (r.1 : Int)) 0 5 && isI (.int (r.2.1 : Int)) 0 4294967295 && isI (.int (r.2.2 : Int)) 0 4294967295 && okVal (.int (r.2.1 : Int)) (.int (r.2.2 : Int))) = true
  rw [isI_nat (by omega), isI_nat (by omega), isI_nat (by omega)]
  show ((!decide ((r.2.1 : Int) = 0)) && decide (Builtin.bitAnd (r.2.2 : Int) (r.2.1 : Int) = (r.2.2 : Int))) = true
  rw [bitAnd_nat, h4, decide_eq_false (by omega), decide_eq_true rfl]; rfl
theorem isFl_of {ds : List PyData} (h1 : ds.length ≤ 6) (h2 : ∀ d ∈ ds, isTst d = true) (h3 : ∀ i, i + 1 < ds.length → idxD (ds.getD i .none) < idxD (ds.getD (i + 1) .none)) : isFl (.tuple ds) = true := by
  show (decide (ds.length ≤ 6) && ds.all isTst && (List.range (ds.length - 1)).all fun i => decide (idxD (ds.getD i .none) < idxD (ds.getD (i + 1) .none))) = true
  rw [decide_eq_true h1, List.all_eq_true.mpr h2, List.all_eq_true.mpr]
  · rfl
  · intro i hi
    have := List.mem_range.mp hi
    exact decide_eq_true (h3 i (by omega))
theorem getD_row {rows : List Row3} {i : Nat} (h : i < rows.length) : (rows.map rowD).getD i .none = rowD rows[i] := by
  rw [List.getD_eq_getElem?_getD, List.getElem?_map, List.getElem?_eq_getElem h]; rfl
theorem isFl_good {rows : List Row3} (g : Good rows) : isFl (fD rows) = true := by
  refine isFl_of (by rw [List.length_map]; exact g.2.2) ?_ ?_
  · intro d hd
    obtain ⟨r, hr, rfl⟩ := List.mem_map.mp hd
    obtain ⟨a, b, c, d⟩ := g.2.1 r hr
    exact isTst_row a b c d
  · intro i hi
    rw [List.length_map] at hi
    rw [getD_row (by omega), getD_row hi]
    have := List.pairwise_iff_getElem.mp g.1 i (i + 1) (by omega) hi (by omega)
    show ((rows[i].1 : Nat) : Int) < (rows[i + 1].1 : Nat)
    omega
theorem isPk_good {ws : List Nat} (h : ws.length = 6) (h2 : ∀ n ∈ ws, n < 2 ^ 32) : isPk (pD ws) = true := by
  show (decide ((ws.map fun n : Nat => PyData.int (n : Int)).length = 6) && (ws.map fun n : Nat => PyData.int (n : Int)).all fun d => isI d 0 4294967295) = true
  rw [List.length_map, decide_eq_true h, List.all_eq_true.mpr]
  · rfl
  · intro d hd
    obtain ⟨n, hn, rfl⟩ := List.mem_map.mp hd
    have := h2 n hn
    exact isI_nat (by omega)
/-! ### the mathematics of common packets -/
theorem getD_set_self {ws : List Nat} {i x : Nat} (h : i < ws.length) : (ws.set i x).getD i 0 = x := by
  rw [List.getD_eq_getElem?_getD, List.getElem?_set_self h]; rfl
theorem getD_set_ne {ws : List Nat} {i j x : Nat} (h : i ≠ j) : (ws.set i x).getD j 0 = ws.getD j 0 := by
  rw [List.getD_eq_getElem?_getD, List.getElem?_set_ne h, List.getD_eq_getElem?_getD]
def Up (rows : List Row3) : Prop := rows.Pairwise (fun r s => r.1 < s.1)
theorem Up.ne {r : Row3} {rs : List Row3} (h : Up (r :: rs)) : ∀ s ∈ rs, s.1 ≠ r.1 := fun s hs => by
  have := (List.pairwise_cons.mp h).1 s hs
  omega
theorem st1_out : ∀ (rows : List Row3) (p : List Nat × List Nat) (i : Nat), (∀ r ∈ rows, r.1 ≠ i) → (rows.foldl st1 p).1.getD i 0 = p.1.getD i 0 ∧ (rows.foldl st1 p).2.getD i 0 = p.2.getD i 0
  | [], p, i, _ => ⟨rfl, rfl⟩
  | r :: rs, p, i, h => by
    have h0 := h r (List.mem_cons_self)
    obtain ⟨a, b⟩ := st1_out rs (st1 p r) i fun s hs => h s (List.mem_cons_of_mem _ hs)
    rw [List.foldl_cons, a, b]
    exact ⟨getD_set_ne h0, getD_set_ne h0⟩
theorem st1_in : ∀ (rows : List Row3) (p : List Nat × List Nat) (r : Row3), Up rows → p.1.length = 6 → p.2.length = 6 → r ∈ rows → r.1 < 6 → (rows.foldl st1 p).1.getD r.1 0 = r.2.1 ∧ (rows.foldl st1 p).2.getD r.1 0 = r.2.2
  | [], p, r, _, _, _, h, _ => by cases h
  | q :: rs, p, r, hu, l1, l2, h, h6 => by
    rcases List.mem_cons.mp h with e | h
    · subst e
      obtain ⟨a, b⟩ := st1_out rs (st1 p r) r.1 (hu.ne)
      rw [List.foldl_cons, a, b]
      exact ⟨getD_set_self (by omega), getD_set_self (by omega)⟩
    · exact st1_in rs (st1 p q) r (List.pairwise_cons.mp hu).2 (by simp [st1, l1]) (by simp [st1, l2]) h h6
def stO (ws : List Nat) (r : Row3) : List Nat := ws.set r.1 (ws.getD r.1 0 ||| r.2.2)
theorem stO_len : ∀ (rows : List Row3) (ws : List Nat), (rows.foldl stO ws).length = ws.length
  | [], ws => rfl
  | r :: rs, ws => by rw [List.foldl_cons, stO_len rs]; simp [stO]
theorem stO_out : ∀ (rows : List Row3) (ws : List Nat) (i : Nat), (∀ r ∈ rows, r.1 ≠ i) → (rows.foldl stO ws).getD i 0 = ws.getD i 0
  | [], ws, i, _ => rfl
  | r :: rs, ws, i, h => by
    rw [List.foldl_cons, stO_out rs (stO ws r) i fun s hs => h s (List.mem_cons_of_mem _ hs)]
    exact getD_set_ne (h r List.mem_cons_self)
theorem stO_in : ∀ (rows : List Row3) (ws : List Nat) (r : Row3), Up rows → r ∈ rows → r.1 < ws.length → (rows.foldl stO ws).getD r.1 0 = ws.getD r.1 0 ||| r.2.2
  | [], ws, r, _, h, _ => by cases h
  | q :: rs, ws, r, hu, h, h6 => by
    rcases List.mem_cons.mp h with e | h
    · subst e
      rw [List.foldl_cons, stO_out rs (stO ws r) r.1 hu.ne]
      exact getD_set_self h6
    · rw [List.foldl_cons, stO_in rs (stO ws q) r (List.pairwise_cons.mp hu).2 h (by simp [stO]; exact h6)]
      rw [show (stO ws q).getD r.1 0 = ws.getD r.1 0 from getD_set_ne (fun e => hu.ne r h e.symm)]
/-- a clash -/
def Cl (ms ws : List Nat) (s : Row3) : Prop := ((ws.getD s.1 0 ^^^ s.2.2) &&& ms.getD s.1 0) &&& s.2.1 ≠ 0
theorem Cl.set {ms ws : List Nat} {q s : Row3} {x : Nat} (h : s.1 ≠ q.1) : Cl ms (ws.set q.1 x) s ↔ Cl ms ws s := by
  unfold Cl
  rw [getD_set_ne (fun e => h e.symm)]
theorem st2_some (ms : List Nat) : ∀ (rows : List Row3) (ws : List Nat), Up rows → (∀ s ∈ rows, ¬ Cl ms ws s) → rows.foldl (st2 ms) (some ws) = some (rows.foldl stO ws)
  | [], ws, _, _ => rfl
  | r :: rs, ws, hu, h => by
    have h0 : ((ws.getD r.1 0 ^^^ r.2.2) &&& ms.getD r.1 0) &&& r.2.1 = 0 := Decidable.of_not_not (h r List.mem_cons_self)
    have e : st2 ms (some ws) r = some (stO ws r) := by
      show (if _ then _ else _) = _
      rw [if_pos h0]; rfl
    rw [List.foldl_cons, List.foldl_cons, e]
    exact st2_some ms rs (stO ws r) (List.pairwise_cons.mp hu).2 fun s hs => by
      rw [show stO ws r = ws.set r.1 (ws.getD r.1 0 ||| r.2.2) from rfl, Cl.set (hu.ne s hs)]
      exact h s (List.mem_cons_of_mem _ hs)
theorem st2_clash (ms : List Nat) : ∀ (rows : List Row3) (ws : List Nat), Up rows → (∃ s ∈ rows, Cl ms ws s) → rows.foldl (st2 ms) (some ws) = none
  | [], ws, _, h => by obtain ⟨_, h, _⟩ := h; cases h
  | r :: rs, ws, hu, h => by
    rw [List.foldl_cons]
    by_cases h0 : ((ws.getD r.1 0 ^^^ r.2.2) &&& ms.getD r.1 0) &&& r.2.1 = 0
    · have e : st2 ms (some ws) r = some (stO ws r) := by
        show (if _ then _ else _) = _
        rw [if_pos h0]; rfl
      rw [e]
      refine st2_clash ms rs (stO ws r) (List.pairwise_cons.mp hu).2 ?_
      obtain ⟨s, hs, hc⟩ := h
      rcases List.mem_cons.mp hs with q | q
      · subst q; exact absurd h0 hc
      · refine ⟨s, q, ?_⟩
        rw [show stO ws r = ws.set r.1 (ws.getD r.1 0 ||| r.2.2) from rfl, Cl.set (hu.ne s q)]
        exact hc
    · have e : st2 ms (some ws) r = none := by
        show (if _ then _ else _) = _
        rw [if_neg h0]
      rw [e]; exact st2_none ms rs
theorem tb_lt {m b : Nat} (hm : m < 2 ^ 32) (h : m.testBit b = true) : b < 32 := by
  rcases Nat.lt_or_ge b 32 with l | l
  · exact l
  · have : m < 2 ^ b := Nat.lt_of_lt_of_le hm (Nat.pow_le_pow_right (by decide) l)
    rw [Nat.testBit_lt_two_pow this] at h; cases h
theorem clash_bits {rv sv rm sm : Nat} : (((rv ^^^ sv) &&& rm) &&& sm ≠ 0) ↔ ∃ b, rm.testBit b = true ∧ sm.testBit b = true ∧ rv.testBit b ≠ sv.testBit b := by
  constructor
  · intro h
    obtain ⟨b, hb⟩ := Nat.exists_testBit_of_ne_zero h
    rw [Nat.testBit_and, Nat.testBit_and, Nat.testBit_xor, Bool.and_eq_true, Bool.and_eq_true] at hb
    refine ⟨b, hb.1.2, hb.2, ?_⟩
    have q := hb.1.1
    intro e
    rw [e] at q
    cases h : sv.testBit b <;> rw [h] at q <;> cases q
  · rintro ⟨b, h1, h2, h3⟩ e
    have : (((rv ^^^ sv) &&& rm) &&& sm).testBit b = true := by
      rw [Nat.testBit_and, Nat.testBit_and, Nat.testBit_xor, h1, h2]
      cases h4 : rv.testBit b with
      | false => cases h5 : sv.testBit b with
        | false => rw [h4, h5] at h3; exact absurd rfl h3
        | true => rfl
      | true => cases h5 : sv.testBit b with
        | true => rw [h4, h5] at h3; exact absurd rfl h3
        | false => rfl
    rw [e, Nat.zero_testBit] at this; cases this
section
variable {one other : List Row3}
theorem clash_ap (g1 : Good one) (g2 : Good other) : (∃ s ∈ other, Cl (one1 one).1 (one1 one).2 s) ↔ Ap one other := by
  constructor
  · rintro ⟨s, hs, hc⟩
    by_cases h : ∃ r ∈ one, r.1 = s.1
    · obtain ⟨r, hr, e⟩ := h
      obtain ⟨a, b⟩ := st1_in one (z6, z6) r g1.1 rfl rfl hr (g1.2.1 r hr).1
      unfold Cl at hc
      rw [← e] at hc
      have a' : (one1 one).1.getD r.1 0 = r.2.1 := a
      have b' : (one1 one).2.getD r.1 0 = r.2.2 := b
      rw [a', b'] at hc
      obtain ⟨bt, h1, h2, h3⟩ := clash_bits.mp hc
      exact ⟨r, hr, s, hs, e.symm, bt, tb_lt (g1.2.1 r hr).2.2.1 h1, h1, h2, h3⟩
    · exfalso
      have h' : ∀ r ∈ one, r.1 ≠ s.1 := fun r hr e => h ⟨r, hr, e⟩
      obtain ⟨a, b⟩ := st1_out one (z6, z6) s.1 h'
      apply hc
      have a' : (one1 one).1.getD s.1 0 = 0 := by
        refine Eq.trans a ?_
        show z6.getD s.1 0 = 0
        have := (g2.2.1 s hs).1
        unfold z6
        match s.1, this with
        | 0, _ => rfl
        | 1, _ => rfl
        | 2, _ => rfl
        | 3, _ => rfl
        | 4, _ => rfl
        | 5, _ => rfl
      rw [a', Nat.and_zero, Nat.zero_and]
  · rintro ⟨r, hr, s, hs, e, b, hb, h1, h2, h3⟩
    refine ⟨s, hs, ?_⟩
    obtain ⟨a, c⟩ := st1_in one (z6, z6) r g1.1 rfl rfl hr (g1.2.1 r hr).1
    unfold Cl
    rw [e, show (one1 one).1.getD r.1 0 = r.2.1 from a, show (one1 one).2.getD r.1 0 = r.2.2 from c]
    exact clash_bits.mpr ⟨b, h1, h2, h3⟩
theorem common_none (g1 : Good one) (g2 : Good other) : commonM one other = none ↔ Ap one other := by
  rw [← clash_ap g1 g2]
  constructor
  · intro h
    apply Classical.byContradiction
    intro hn
    have := st2_some (one1 one).1 other (one1 one).2 g2.1 fun s hs hc => hn ⟨s, hs, hc⟩
    unfold commonM at h
    rw [this] at h; cases h
  · exact st2_clash _ _ _ g2.1
theorem z6_getD (i : Nat) : z6.getD i 0 = 0 := by
  unfold z6
  match i with
  | 0 => rfl
  | 1 => rfl
  | 2 => rfl
  | 3 => rfl
  | 4 => rfl
  | 5 => rfl
  | n + 6 => rfl
/-- what stands at a place of the common packet -/
theorem common_some (g1 : Good one) (g2 : Good other) {ws : List Nat} (h : commonM one other = some ws) : ws = (one ++ other).foldl stO z6 ∧ ws.length = 6 ∧ (∀ n ∈ ws, n < 2 ^ 32) ∧ Mt one ws ∧ Mt other ws := by
  have nap : ¬ Ap one other := fun q => by
    rw [(common_none g1 g2).mpr q] at h; cases h
  have ncl : ∀ s ∈ other, ¬ Cl (one1 one).1 (one1 one).2 s := fun s hs hc => nap ((clash_ap g1 g2).mp ⟨s, hs, hc⟩)
  have e := st2_some (one1 one).1 other (one1 one).2 g2.1 ncl
  unfold commonM at h
  rw [e] at h
  have hw : other.foldl stO (one1 one).2 = ws := Option.some.inj h
  obtain ⟨_, l2⟩ := st1_len one (z6, z6) rfl rfl
  have l2' : (one1 one).2.length = 6 := l2
  have wl : ws.length = 6 := by rw [← hw, stO_len]; exact l2
  have f1 : ∀ i, (one1 one).2.getD i 0 = (one.foldl stO z6).getD i 0 := by
    intro i
    by_cases q : ∃ r ∈ one, r.1 = i
    · obtain ⟨r, hr, e⟩ := q
      subst e
      have h6 := (g1.2.1 r hr).1
      rw [stO_in one z6 r g1.1 hr h6, z6_getD, Nat.zero_or]
      exact (st1_in one (z6, z6) r g1.1 rfl rfl hr h6).2
    · have q' : ∀ r ∈ one, r.1 ≠ i := fun r hr e => q ⟨r, hr, e⟩
      rw [stO_out one z6 i q']
      exact (st1_out one (z6, z6) i q').2
  have l3 : (one.foldl stO z6).length = 6 := stO_len one z6
  have eq2 : (one1 one).2 = one.foldl stO z6 := by
    refine List.ext_getElem (by rw [l2', l3]) fun i h1 h2 => ?_
    have := f1 i
    rw [List.getD_eq_getElem?_getD, List.getD_eq_getElem?_getD, List.getElem?_eq_getElem h1, List.getElem?_eq_getElem h2] at this
    exact this
  have lt1 : ∀ i, (one.foldl stO z6).getD i 0 < 2 ^ 32 := by
    intro i
    by_cases q : ∃ r ∈ one, r.1 = i
    · obtain ⟨r, hr, e⟩ := q
      subst e
      rw [stO_in one z6 r g1.1 hr (g1.2.1 r hr).1, z6_getD, Nat.zero_or]
      exact and_le32 (g1.2.1 r hr).2.2.2 (g1.2.1 r hr).2.2.1
    · rw [stO_out one z6 i fun r hr e => q ⟨r, hr, e⟩, z6_getD]; decide
  have at_in : ∀ s ∈ other, ws.getD s.1 0 = (one1 one).2.getD s.1 0 ||| s.2.2 := fun s hs => by
    rw [← hw]; exact stO_in other (one1 one).2 s g2.1 hs (by rw [l2']; exact (g2.2.1 s hs).1)
  have at_out : ∀ i, (∀ s ∈ other, s.1 ≠ i) → ws.getD i 0 = (one1 one).2.getD i 0 := fun i hi => by
    rw [← hw]; exact stO_out other (one1 one).2 i hi
  refine ⟨by rw [List.foldl_append, ← eq2, hw], wl, ?_, ?_, ?_⟩
  · intro n hn
    obtain ⟨i, hi, e⟩ := List.mem_iff_getElem.mp hn
    have en : n = ws.getD i 0 := by rw [List.getD_eq_getElem?_getD, List.getElem?_eq_getElem hi, e]; rfl
    rw [en]
    by_cases q : ∃ s ∈ other, s.1 = i
    · obtain ⟨s, hs, e⟩ := q
      subst e
      rw [at_in s hs, eq2]
      exact or_lt (lt1 _) (and_le32 (g2.2.1 s hs).2.2.2 (g2.2.1 s hs).2.2.1)
    · rw [at_out i fun s hs e => q ⟨s, hs, e⟩, eq2]
      exact lt1 i
  · intro r hr b hb hm
    have hr2 := (st1_in one (z6, z6) r g1.1 rfl rfl hr (g1.2.1 r hr).1).2
    have hr2' : (one1 one).2.getD r.1 0 = r.2.2 := hr2
    by_cases q : ∃ s ∈ other, s.1 = r.1
    · obtain ⟨s, hs, e⟩ := q
      rw [← e, at_in s hs, e, hr2', Nat.testBit_or]
      cases h2 : s.2.2.testBit b with
      | false => simp
      | true =>
        have hsm : s.2.1.testBit b = true := by
          have := congrArg (fun x => Nat.testBit x b) (g2.2.1 s hs).2.2.2
          simp only [Nat.testBit_and, h2, Bool.true_and] at this
          exact this
        cases h3 : r.2.2.testBit b with
        | true => rfl
        | false => exact absurd ⟨r, hr, s, hs, e, b, hb, hm, hsm, by rw [h2, h3]; decide⟩ nap
    · rw [at_out r.1 fun s hs e => q ⟨s, hs, e⟩, hr2']
  · intro s hs b hb hm
    rw [at_in s hs, Nat.testBit_or]
    by_cases q : ∃ r ∈ one, r.1 = s.1
    · obtain ⟨r, hr, e⟩ := q
      have hr2 : (one1 one).2.getD r.1 0 = r.2.2 := (st1_in one (z6, z6) r g1.1 rfl rfl hr (g1.2.1 r hr).1).2
      rw [← e, hr2]
      cases h3 : r.2.2.testBit b with
      | false => simp
      | true =>
        have hrm : r.2.1.testBit b = true := by
          have := congrArg (fun x => Nat.testBit x b) (g1.2.1 r hr).2.2.2
          simp only [Nat.testBit_and, h3, Bool.true_and] at this
          exact this
        cases h2 : s.2.2.testBit b with
        | true => rfl
        | false => exact absurd ⟨r, hr, s, hs, e.symm, b, hb, hrm, hm, by rw [h2, h3]; decide⟩ nap
    · have q' : ∀ r ∈ one, r.1 ≠ s.1 := fun r hr e => q ⟨r, hr, e⟩
      rw [show (one1 one).2.getD s.1 0 = 0 from (st1_out one (z6, z6) s.1 q').2.trans (z6_getD _)]
      simp
theorem meets_iff {rows : List Row3} {ws : List Nat} (g : Good rows) : meetsM rows ws = true ↔ Mt rows ws := by
  unfold meetsM Mt
  rw [List.all_eq_true]
  constructor
  · intro h r hr b hb hm
    have := of_decide_eq_true (h r hr)
    rw [← this, Nat.testBit_and, hm, Bool.and_true]
  · intro h r hr
    refine decide_eq_true (Nat.eq_of_testBit_eq fun b => ?_)
    rw [Nat.testBit_and]
    cases hm : r.2.1.testBit b with
    | true =>
      rw [Bool.and_true]
      exact h r hr b (tb_lt (g.2.1 r hr).2.2.1 hm) hm
    | false =>
      have := congrArg (fun x => Nat.testBit x b) (g.2.1 r hr).2.2.2
      simp only [Nat.testBit_and, hm, Bool.and_false] at this
      rw [Bool.and_false]; exact this
theorem ap_not_both {ws : List Nat} (h : Ap one other) (h1 : Mt one ws) (h2 : Mt other ws) : False := by
  obtain ⟨r, hr, s, hs, e, b, hb, q1, q2, q3⟩ := h
  have a1 := h1 r hr b hb q1
  have a2 := h2 s hs b hb q2
  rw [e] at a2
  exact q3 (a1.symm.trans a2)
end
end My

namespace My
open PySem L2
local macro_rules | `(tactic| walk_at "ne") => `(tactic| first | assumption | exact Ne.symm (by assumption) | exact ne_of_none (by assumption) (by assumption) | exact Ne.symm (ne_of_none (by assumption) (by assumption)))
local macro_rules | `(tactic| walk_at "hp") => `(tactic| first | assumption | with_reducible exact upd_same | (with_reducible refine Eq.trans (upd_ne ?_) ?_; rotate_left; walk_at "hp"; walk_at "ne"))
local macro_rules | `(tactic| walk_at "cnd") => `(tactic| first | omega | (show (0 : Int) < _; omega) | exact ⟨by omega, by omega⟩ | exact Or.inl ⟨by omega, by omega⟩ | exact Or.inr ⟨by omega, by omega⟩ | exact ⟨by omega, by omega, by decide⟩ | exact ⟨by omega, by omega, by omega⟩)
local macro_rules | `(tactic| walk_at "at") => `(tactic| first | exact atC 0 rfl rfl | exact atC 1 rfl rfl | exact atC 2 rfl rfl | exact atC 3 rfl rfl | exact atC 4 rfl rfl | exact atC 5 rfl rfl | exact atC 6 rfl rfl | exact atC 7 rfl rfl)
local macro_rules | `(tactic| walk_at "ix") => `(tactic| first | exact ixC 0 rfl (Nat.le_of_ble_eq_true rfl) | exact ixC 1 rfl (Nat.le_of_ble_eq_true rfl) | exact ixC 2 rfl (Nat.le_of_ble_eq_true rfl) | exact ixC 3 rfl (Nat.le_of_ble_eq_true rfl) | exact ixC 4 rfl (Nat.le_of_ble_eq_true rfl) | exact ixC 5 rfl (Nat.le_of_ble_eq_true rfl))
local macro_rules | `(tactic| walk_at "st") => `(tactic| first
  | refine ⟨_, rfl, ?_⟩
  | refine ⟨_, _, rfl, rfl, (by walk_at "cnd" : (_ : Prop)), ?_⟩
  | refine ⟨_, _, rfl, rfl, ?_⟩
  | refine ⟨rfl, ?_⟩
  | refine Or.inl ⟨_, rfl, ?_⟩
  | refine ⟨_, _, _, _, rfl, rfl, by exact SqL.of (by walk_at "hp"), by walk_at "at", ?_⟩
  | refine ⟨_, _, _, _, rfl, rfl, by exact SqT.of (by walk_at "hp"), by walk_at "at", ?_⟩
  | refine ⟨_, _, _, _, rfl, rfl, by walk_at "hp", by walk_at "ix", ?_⟩
  | refine ⟨_, _, rfl, Or.inl (by exact SqL.of (by walk_at "hp")), ?_⟩
  | refine ⟨_, _, rfl, Or.inr (by exact SqT.of (by walk_at "hp")), ?_⟩)
local macro_rules | `(tactic| walk_at "so") => `(tactic| first
  | refine ⟨_, _, _, _, _, rfl, by walk_at "hp", by assumption, by assumption, rfl, ?_⟩
  | refine ⟨_, _, _, _, rfl, by walk_at "hp", by assumption, by assumption, Nat.le_of_ble_eq_true rfl, ?_⟩
  | refine ⟨_, _, _, rfl, by walk_at "hp", rfl, ?_⟩
  | walk_at "st")
local macro_rules | `(tactic| walk_at "ro") => `(tactic| repeat walk_at "so")
local macro_rules | `(tactic| walk_at "run") => `(tactic| repeat walk_at "st")

/-! ### looking into trees -/
abbrev BsV (K : PySem.W.Frag) (H : Hp) (v : V) (bs : List Br) : Prop := Tv K H v (.tuple (bs.map brD))
abbrev KsV (K : PySem.W.Frag) (H : Hp) (v : V) (cs : List Kid) : Prop := Tv K H v (.tuple (cs.map chD))
abbrev NsV (K : PySem.W.Frag) (H : Hp) (v : V) (ns : List Int) : Prop := Tv K H v (.tuple (ns.map .int))
section
variable {K : PySem.W.Frag} {H : Hp}
theorem tr_open {v : V} {ns : List Int} {bs : List Br} (h : Tv K H v (trD ns bs)) : ∃ a n b, v = .ref a ∧ StT K H a [n, b] ∧ NsV K H n ns ∧ BsV K H b bs := by
  obtain ⟨a, xs, rfl, ha, hs⟩ := Tv.tupI h
  cases hs with
  | cons h1 hs => cases hs with
    | cons h2 hs => cases hs; exact ⟨a, _, _, rfl, ha, h1, h2⟩
theorem br_open {v : V} {b : Br} (h : Tv K H v (brD b)) : ∃ a c, v = .ref a ∧ StT K H a [.int b.1, .int b.2.1, c] ∧ KsV K H c b.2.2 := by
  obtain ⟨a, xs, rfl, ha, hs⟩ := Tv.tupI h
  cases hs with
  | cons h1 hs => cases hs with
    | cons h2 hs => cases hs with
      | cons h3 hs => cases hs; cases h1; cases h2; exact ⟨a, _, rfl, ha, h3⟩
theorem ch_open {v : V} {c : Kid} (h : Tv K H v (chD c)) : ∃ a x, v = .ref a ∧ StT K H a [.int c.1, x] ∧ Tv K H x c.2 := by
  obtain ⟨a, xs, rfl, ha, hs⟩ := Tv.tupI h
  cases hs with
  | cons h1 hs => cases hs with
    | cons h2 hs => cases hs; cases h1; exact ⟨a, _, rfl, ha, h2⟩
theorem map_get {α β : Type} {f : α → β} {l : List α} {i : Nat} {d : β} (h : (l.map f)[i]? = some d) : ∃ x, l[i]? = some x ∧ d = f x := by
  rw [List.getElem?_map] at h
  cases e : l[i]? with
  | none => rw [e] at h; cases h
  | some x => rw [e] at h; exact ⟨x, rfl, (Option.some.inj h).symm⟩
theorem drop_get {α : Type} {l : List α} {i : Nat} {x : α} (h : l[i]? = some x) : l.drop i = x :: l.drop (i + 1) := by
  obtain ⟨h1, h2⟩ := List.getElem?_eq_some_iff.mp h
  rw [← h2]; exact List.drop_eq_getElem_cons h1
theorem intV {i j : Nat} : decide (V.int (i : Int) = V.int (j : Int)) = decide (i = j) := by
  by_cases h : i = j
  · subst h; simp
  · rw [decide_eq_false h, decide_eq_false (fun z => h (by injection z with z; exact Int.ofNat.inj z))]
end
def spChildren (K : PySem.W.Frag) : Sp := fun vs H Q _ => ∃ (v : V) (bs : List Br) (i m : Nat), vs = [v, .int i, .int m] ∧ BsV K H v bs ∧ ∀ u H', Same H H' → KsV K H' u (kids bs i m) → Q u H'
def spChild (K : PySem.W.Frag) : Sp := fun vs H Q _ => ∃ (v : V) (cs : List Kid) (x : Nat), vs = [v, .int x] ∧ KsV K H v cs ∧ ∀ u, Tv K H u (kid cs x) → Q u H
section
variable {P : Program} {w : World} {K : PySem.W.Frag} {mg : Str → Option Value} {base : Heap} {C_Net C_NotValid : Addr}{A_EMPTY : Addr}
abbrev s_children : Stmt := topS 28
abbrev ns_children : List Str := ["branches", "index", "mask", "row"]
theorem sc_children : FnScope ns_children ["branches", "index", "mask"] (defScope s_children) := ⟨rfl, rfl, rfl, by decide +kernel, rfl, by decide +kernel, by decide +kernel⟩

theorem ok_children {f : Addr} {fd : FuncData} (F : Fun K "_children" "_children" s_children f fd) (T : Txt K mg C_Net C_NotValid A_EMPTY) : FnOk P w K mg base CX0 1 f fd ["branches", "index", "mask"] (spChildren K) := by
  refine F.ok sc_children (fun vs H Q E h => ?_) (fun cdv A outer s H vs Q E hr h => ?_)
  · obtain ⟨v, bs, i, m, rfl, _⟩ := h
    rfl
  · obtain ⟨v, bs, i, m, rfl, hv, k⟩ := h
    obtain ⟨a, xs, rfl, ha, hs⟩ := Tv.tupI hv
    refine ⟨_, (pss_cons (ps_for PassesOwn.never (by rfl) (kpiT K (pv 0)) (pg_name (i := 3) sc_children.nd rfl (Or.inl rfl)) (pss_one (ps_if (PW.pt (pw_and (pt_cmpR op_eq (pe_ix (kIxT K) (pv 3) pe_int (fun _ _ => rfl)) (pv 1) (nomark _)) (pw_and1 (pt_cmpR op_eq (pe_ix (kIxT K) (pv 3) pe_int (fun _ _ => rfl)) (pv 2) (nomark _))))) (pss_one (ps_ret (pe_ix (kIxT K) (pv 3) pe_int (fun _ _ => rfl)))) pss_nil)))
  (pss_one (ps_ret (pe_tup pa_nil)))), ?_⟩
    refine ⟨_, rfl, _, rfl, ⟨_, ha.sq⟩, for_tup (xs := xs) (fun j σ H' => ∃ v3 : Option V, σ = [some (.ref a), some (.int i), some (.int m), v3] ∧ H' = H ∧ kids (bs.drop j) i m = kids bs i m) ?_ ?_ ?_ ?_⟩
    · exact ⟨none, rfl, rfl, rfl⟩
    · rintro j σ H' _ ⟨v3, _, rfl, _⟩
      exact ha.sq
    · rintro j x σ H' hj ⟨v3, rfl, rfl, hk⟩
      obtain ⟨d, hd, hx⟩ := hs.getV hj
      obtain ⟨b, hb, rfl⟩ := map_get hd
      obtain ⟨p, c, rfl, hp, hc⟩ := br_open hx
      rw [drop_get hb, kids_cons] at hk
      refine ⟨_, rfl, _, _, _, _, rfl, rfl, hp.sq, atC 0 rfl rfl, ?_⟩
      refine ⟨_, rfl, rfl, _, rfl, ?_⟩
      rw [intV]
      refine iteD (fun e1 => ?_) (fun e1 => ?_)
      · refine ⟨_, rfl, _, _, _, _, rfl, rfl, hp.sq, atC 1 rfl rfl, ?_⟩
        refine ⟨_, rfl, rfl, _, rfl, ?_⟩
        rw [intV]
        refine iteD (fun e2 => ?_) (fun e2 => ?_)
        · refine ⟨_, rfl, _, _, _, _, rfl, rfl, hp.sq, atC 2 rfl rfl, ?_⟩
          rw [if_pos ⟨e1, e2⟩] at hk
          rw [← hk] at k
          exact k _ _ (Same.refl _) hc
        · rw [if_neg (fun z => e2 z.2)] at hk
          exact ⟨_, rfl, rfl, hk⟩
      · rw [if_neg (fun z => e1 z.1)] at hk
        exact iteF ⟨_, rfl, rfl, hk⟩
    · rintro σ H' ⟨v3, rfl, rfl, hk⟩
      rw [hs.len, List.length_map, List.drop_length] at hk
      rw [← hk] at k
      exact ⟨szl rfl, fun p hp => k _ _ (Same.new hp) (Tv.new .nil hp)⟩
abbrev s_child : Stmt := topS 29
abbrev ns_child : List Str := ["children", "value", "row"]
theorem sc_child : FnScope ns_child ["children", "value"] (defScope s_child) := ⟨rfl, rfl, rfl, by decide +kernel, rfl, by decide +kernel, by decide +kernel⟩

theorem ok_child {f : Addr} {fd : FuncData} (F : Fun K "_child" "_child" s_child f fd) (T : Txt K mg C_Net C_NotValid A_EMPTY) : FnOk P w K mg base CX0 1 f fd ["children", "value"] (spChild K) := by
  refine F.ok sc_child (fun vs H Q E h => ?_) (fun cdv A outer s H vs Q E hr h => ?_)
  · obtain ⟨v, bs, i, rfl, _⟩ := h
    rfl
  · obtain ⟨v, bs, i, rfl, hv, k⟩ := h
    obtain ⟨a, xs, rfl, ha, hs⟩ := Tv.tupI hv
    refine ⟨_, (pss_cons (ps_for PassesOwn.never (by rfl) (kpiT K (pv 0)) (pg_name (i := 2) sc_child.nd rfl (Or.inl rfl)) (pss_one (ps_if (pt_cmpR op_eq (pe_ix (kIxT K) (pv 2) pe_int (fun _ _ => rfl)) (pv 1) (nomark _)) (pss_one (ps_ret (pe_ix (kIxT K) (pv 2) pe_int (fun _ _ => rfl)))) pss_nil)))
  (pss_one (ps_ret (pe_gref (by rfl) T.c_EMPTY)))), ?_⟩
    refine ⟨_, rfl, _, rfl, ⟨_, ha.sq⟩, for_tup (xs := xs) (fun j σ H' => ∃ v3 : Option V, σ = [some (.ref a), some (.int i), v3] ∧ H' = H ∧ kid (bs.drop j) i = kid bs i) ?_ ?_ ?_ ?_⟩
    · exact ⟨none, rfl, rfl, rfl⟩
    · rintro j σ H' _ ⟨v3, _, rfl, _⟩
      exact ha.sq
    · rintro j x σ H' hj ⟨v3, rfl, rfl, hk⟩
      obtain ⟨d, hd, hx⟩ := hs.getV hj
      obtain ⟨b, hb, rfl⟩ := map_get hd
      obtain ⟨p, c, rfl, hp, hc⟩ := ch_open hx
      rw [drop_get hb, kid_cons] at hk
      refine ⟨_, rfl, _, _, _, _, rfl, rfl, hp.sq, atC 0 rfl rfl, ?_⟩
      refine ⟨_, rfl, rfl, _, rfl, ?_⟩
      rw [intV]
      refine iteD (fun e1 => ?_) (fun e1 => ?_)
      · refine ⟨_, rfl, _, _, _, _, rfl, rfl, hp.sq, atC 1 rfl rfl, ?_⟩
        rw [if_pos e1] at hk
        rw [← hk] at k
        exact k _ hc
      · rw [if_neg e1] at hk
        exact ⟨_, rfl, rfl, hk⟩
    · rintro σ H' ⟨v3, rfl, rfl, hk⟩
      rw [hs.len, List.length_map, List.drop_length] at hk
      rw [← hk] at k
      exact k _ (T.t_EMPTY H')
end
end My

namespace My
open PySem L2
local macro_rules | `(tactic| walk_at "ne") => `(tactic| first | assumption | exact Ne.symm (by assumption) | exact ne_of_none (by assumption) (by assumption) | exact Ne.symm (ne_of_none (by assumption) (by assumption)))
local macro_rules | `(tactic| walk_at "hp") => `(tactic| first | assumption | with_reducible exact upd_same | (with_reducible refine Eq.trans (upd_ne ?_) ?_; rotate_left; walk_at "hp"; walk_at "ne"))
local macro_rules | `(tactic| walk_at "cnd") => `(tactic| first | omega | (show (0 : Int) < _; omega) | exact ⟨by omega, by omega⟩ | exact Or.inl ⟨by omega, by omega⟩ | exact Or.inr ⟨by omega, by omega⟩ | exact ⟨by omega, by omega, by decide⟩ | exact ⟨by omega, by omega, by omega⟩)
local macro_rules | `(tactic| walk_at "at") => `(tactic| first | exact atC 0 rfl rfl | exact atC 1 rfl rfl | exact atC 2 rfl rfl | exact atC 3 rfl rfl | exact atC 4 rfl rfl | exact atC 5 rfl rfl | exact atC 6 rfl rfl | exact atC 7 rfl rfl)
local macro_rules | `(tactic| walk_at "ix") => `(tactic| first | exact ixC 0 rfl (Nat.le_of_ble_eq_true rfl) | exact ixC 1 rfl (Nat.le_of_ble_eq_true rfl) | exact ixC 2 rfl (Nat.le_of_ble_eq_true rfl) | exact ixC 3 rfl (Nat.le_of_ble_eq_true rfl) | exact ixC 4 rfl (Nat.le_of_ble_eq_true rfl) | exact ixC 5 rfl (Nat.le_of_ble_eq_true rfl))
local macro_rules | `(tactic| walk_at "st") => `(tactic| first
  | refine ⟨_, rfl, ?_⟩
  | refine ⟨_, _, rfl, rfl, (by walk_at "cnd" : (_ : Prop)), ?_⟩
  | refine ⟨_, _, rfl, rfl, ?_⟩
  | refine ⟨rfl, ?_⟩
  | refine Or.inl ⟨_, rfl, ?_⟩
  | refine ⟨_, _, _, _, rfl, rfl, by exact SqL.of (by walk_at "hp"), by walk_at "at", ?_⟩
  | refine ⟨_, _, _, _, rfl, rfl, by exact SqT.of (by walk_at "hp"), by walk_at "at", ?_⟩
  | refine ⟨_, _, _, _, rfl, rfl, by walk_at "hp", by walk_at "ix", ?_⟩
  | refine ⟨_, _, rfl, Or.inl (by exact SqL.of (by walk_at "hp")), ?_⟩
  | refine ⟨_, _, rfl, Or.inr (by exact SqT.of (by walk_at "hp")), ?_⟩)
local macro_rules | `(tactic| walk_at "so") => `(tactic| first
  | refine ⟨_, _, _, _, _, rfl, by walk_at "hp", by assumption, by assumption, rfl, ?_⟩
  | refine ⟨_, _, _, _, rfl, by walk_at "hp", by assumption, by assumption, Nat.le_of_ble_eq_true rfl, ?_⟩
  | refine ⟨_, _, _, rfl, by walk_at "hp", rfl, ?_⟩
  | walk_at "st")
local macro_rules | `(tactic| walk_at "ro") => `(tactic| repeat walk_at "so")
local macro_rules | `(tactic| walk_at "run") => `(tactic| repeat walk_at "st")

/-! ### names behind tests; children and branches put in -/
abbrev PaV (K : PySem.W.Frag) (H : Hp) (v : V) (p : Path) : Prop := Tv K H v (.tuple (p.map rowD))
theorem row_open {K : PySem.W.Frag} {H : Hp} {v : V} {r : Row3} (h : Tv K H v (rowD r)) : ∃ a, v = .ref a ∧ StT K H a [.int r.1, .int r.2.1, .int r.2.2] := by
  obtain ⟨a, xs, rfl, ha, hs⟩ := Tv.tupI h
  cases hs with
  | cons h1 hs => cases hs with
    | cons h2 hs => cases hs with
      | cons h3 hs => cases hs; cases h1; cases h2; cases h3; exact ⟨a, rfl, ha⟩
def spBehind (K : PySem.W.Frag) : Sp := fun vs H Q _ => ∃ (v u : V) (d : PyData) (p : Path) (N n : Nat) (f : Path → List Int), vs = [v, u] ∧ Tv K H v d ∧ PaV K H u p ∧ Rep N n f d ∧ ∀ x H', Same H H' → NsV K H' x (f p) → Q x H'
def Node (d : PyData) : Prop := (∃ ns bs, d = trD ns bs) ∧ SeqAt.shaped d = true
theorem em_shaped : SeqAt.shaped emD = true := by decide +kernel
theorem em_iff {ns : List Int} {bs : List Br} : (ns.isEmpty && bs.isEmpty) = true ↔ trD ns bs = emD := by
  cases ns with
  | cons n ns => exact ⟨fun z => (by cases z), fun z => by have := (trD_inj (show trD (n :: ns) bs = trD [] [] from z)).1; cases this⟩
  | nil =>
    cases bs with
    | nil => exact ⟨fun _ => rfl, fun _ => rfl⟩
    | cons b bs => exact ⟨fun z => (by cases z), fun z => by have := (trD_inj (show trD [] (b :: bs) = trD [] [] from z)).2; cases this⟩
theorem eqv_em (ns : List Int) (bs : List Br) : PyData.eqv (trD ns bs) emD = (ns.isEmpty && bs.isEmpty) := by
  cases ns with
  | cons n ns => rfl
  | nil =>
    cases bs with
    | nil => rfl
    | cons b bs => rfl
theorem iteBn {b : Bool} {A B : Prop} (h1 : b = false → A) (h2 : b = true → B) : if (!b) = true then A else B := by
  cases b
  · show if true = true then A else B
    rw [if_pos rfl]; exact h1 rfl
  · show if false = true then A else B
    rw [if_neg (by decide)]; exact h2 rfl
/-- what stands after a child was put in -/
structure Put1 (cs cs' : List Kid) (x : Nat) (d : PyData) (N : Nat) : Prop where
  ok : KsOk (N + 1) cs'
  eq : ∀ w, kid cs' w = if w = x then d else kid cs w
structure Put2 (bs bs' : List Br) (i m : Nat) (cs : List Kid) (N : Nat) : Prop where
  ok : BsOk (N + 1) bs'
  eq : ∀ j l, kids bs' j l = if j = i ∧ l = m then cs else kids bs j l
def spWithChild (K : PySem.W.Frag) : Sp := fun vs H Q _ => ∃ (v u : V) (cs : List Kid) (x : Nat) (d : PyData) (N : Nat), vs = [v, .int x, u] ∧ KsV K H v cs ∧ Tv K H u d ∧ Node d ∧ KsOk N cs ∧ N ≤ 1000 ∧
  ∀ y H' cs', Same H H' → KsV K H' y cs' → Put1 cs cs' x d N → Q y H'
def spWithBranch (K : PySem.W.Frag) : Sp := fun vs H Q _ => ∃ (v u : V) (bs : List Br) (i m : Nat) (cs : List Kid) (N : Nat), vs = [v, .int i, .int m, u] ∧ BsV K H v bs ∧ KsV K H u cs ∧ BsOk N bs ∧ KsOk (N + 1) cs ∧ i < 6 ∧ N ≤ 1000 ∧
  ∀ y H' bs', Same H H' → BsV K H' y bs' → Put2 bs bs' i m cs N → Q y H'
/-! the mathematics of putting in -/
def cs1 (cs : List Kid) (x : Nat) (d : PyData) (b : Bool) : List Kid := cs.filter (fun c => decide (c.1 ≠ x)) ++ (if b then [(x, d)] else [])
theorem put1 {cs cs' : List Kid} {x N : Nat} {d : PyData} {b : Bool} (h : KsOk N cs) (hb : b = true ↔ d ≠ emD) (hp : cs'.Perm (cs1 cs x d b)) (up : cs'.Pairwise kLt) : Put1 cs cs' x d N := by
  have hf : ∀ c ∈ cs.filter (fun c => decide (c.1 ≠ x)), c ∈ cs ∧ c.1 ≠ x := fun c hc => by
    obtain ⟨a, b⟩ := List.mem_filter.mp hc
    exact ⟨a, by simpa using b⟩
  have nd : (cs1 cs x d b).Pairwise (fun a b => a.1 ≠ b.1) := by
    refine List.pairwise_append.mpr ⟨?_, ?_, fun a ha c hc => ?_⟩
    · exact (h.up.filter _).imp fun {a b} z => by unfold kLt at z; omega
    · cases b <;> simp
    · cases b with
      | false => cases hc
      | true => rw [List.mem_singleton.mp hc]; exact (hf a ha).2
  refine ⟨⟨?_, up, fun c hc => ?_⟩, fun w => ?_⟩
  · rw [hp.length_eq]
    unfold cs1
    rw [List.length_append]
    have := h.len
    have l2 := List.length_filter_le (fun c : Kid => decide (c.1 ≠ x)) cs
    have l3 : (if b = true then [(x, d)] else ([] : List Kid)).length ≤ 1 := by cases b <;> simp
    omega
  · have hc' := hp.mem_iff.mp hc
    rcases List.mem_append.mp hc' with q | q
    · exact h.ne c (hf c q).1
    · cases b with
      | false => cases q
      | true => rw [List.mem_singleton.mp q]; exact hb.mp rfl
  · rw [kid_perm hp up nd]
    unfold cs1
    cases b with
    | false =>
      have : d = emD := Classical.byContradiction fun z => by have := hb.mpr z; cases this
      rw [if_neg Bool.false_ne_true, List.append_nil, kid_without, this]
    | true =>
      rw [if_pos rfl, kid_snoc _ _ _ _ fun c hc => (hf c hc).2, kid_without]
      by_cases e : w = x
      · rw [if_pos e, if_pos e]
      · rw [if_neg e, if_neg e, if_neg e]
def bs1 (bs : List Br) (i m : Nat) (cs : List Kid) : List Br := bs.filter (fun c => decide (c.1 ≠ i) || decide (c.2.1 ≠ m)) ++ (if cs.isEmpty then [] else [(i, m, cs)])
theorem put2 {bs bs' : List Br} {i m N : Nat} {cs : List Kid} (h : BsOk N bs) (hc : KsOk (N + 1) cs) (hi : i < 6) (hp : bs'.Perm (bs1 bs i m cs)) (up : bs'.Pairwise brLt) : Put2 bs bs' i m cs N := by
  have hf : ∀ c ∈ bs.filter (fun c => decide (c.1 ≠ i) || decide (c.2.1 ≠ m)), c ∈ bs ∧ (c.1 ≠ i ∨ c.2.1 ≠ m) := fun c hc => by
    obtain ⟨a, b⟩ := List.mem_filter.mp hc
    exact ⟨a, by simpa using b⟩
  have nd : (bs1 bs i m cs).Pairwise (fun a b => a.1 ≠ b.1 ∨ a.2.1 ≠ b.2.1) := by
    refine List.pairwise_append.mpr ⟨?_, ?_, fun a ha c hc => ?_⟩
    · exact (h.up.filter _).imp fun {a b} z => by unfold brLt at z; omega
    · cases cs <;> simp
    · cases cs with
      | nil => cases hc
      | cons _ _ => rw [List.mem_singleton.mp hc]; exact (hf a ha).2
  have key : ∀ c ∈ bs', c ∈ bs ∨ (c = (i, m, cs) ∧ cs ≠ []) := fun c hc => by
    rcases List.mem_append.mp (hp.mem_iff.mp hc) with q | q
    · exact .inl (hf c q).1
    · cases cs with
      | nil => cases q
      | cons _ _ => exact .inr ⟨List.mem_singleton.mp q, by simp⟩
  refine ⟨⟨?_, up, fun c hc => ?_, fun c hc => ?_, fun c hc' => ?_⟩, fun j l => ?_⟩
  · rw [hp.length_eq]
    unfold bs1
    rw [List.length_append]
    have := h.len
    have l2 := List.length_filter_le (fun c : Br => decide (c.1 ≠ i) || decide (c.2.1 ≠ m)) bs
    have l3 : (if cs.isEmpty = true then [] else [((i, m, cs) : Br)]).length ≤ 1 := by cases cs <;> simp
    omega
  · rcases key c hc with q | ⟨rfl, q⟩
    · exact h.ix c q
    · exact hi
  · rcases key c hc with q | ⟨rfl, q⟩
    · exact h.ne c q
    · exact q
  · rcases key c hc' with q | ⟨rfl, q⟩
    · exact ⟨by have := (h.ks c q).len; omega, (h.ks c q).up, (h.ks c q).ne⟩
    · exact hc
  · rw [kids_perm hp up nd]
    unfold bs1
    cases cs with
    | nil =>
      rw [if_pos (by rfl), List.append_nil, kids_without]
    | cons c cs =>
      rw [if_neg (by simp), kids_snoc _ _ _ _ _ _ fun c hc => (hf c hc).2, kids_without]
      by_cases e : j = i ∧ l = m
      · rw [if_pos e, if_pos e]
      · rw [if_neg e, if_neg e, if_neg e]
theorem TvAll.of_zip {α : Type} {K : PySem.W.Frag} {H : Hp} {g : α → PyData} : ∀ (zs : List (V × α)), (∀ z ∈ zs, Tv K H z.1 (g z.2)) → TvAll K H (zs.map (·.1)) ((zs.map (·.2)).map g)
  | [], _ => .nil
  | z :: zs, h => .cons (h z List.mem_cons_self) (TvAll.of_zip zs fun y hy => h y (List.mem_cons_of_mem _ hy))
theorem TvAll.zip {α : Type} {K : PySem.W.Frag} {H : Hp} {g : α → PyData} : ∀ {cs : List α} {xs : List V}, TvAll K H xs (cs.map g) → ∀ z ∈ xs.zip cs, Tv K H z.1 (g z.2)
  | [], _, h, z, hz => by cases h; cases hz
  | c :: cs, _, h, z, hz => by
    cases h with
    | cons h1 h2 =>
      rcases List.mem_cons.mp hz with e | hz
      · subst e; exact h1
      · exact TvAll.zip h2 z hz
theorem filter_snoc {α : Type} (p : α → Bool) (l : List α) (x : α) : (l ++ [x]).filter p = l.filter p ++ (if p x = true then [x] else []) := by
  rw [List.filter_append]
  cases h : p x with
  | true => rw [List.filter_cons_of_pos h]; rfl
  | false => rw [List.filter_cons_of_neg (by rw [h]; decide)]; rfl
theorem intVn {i j : Nat} : (!decide (V.int (i : Int) = V.int (j : Int))) = decide (i ≠ j) := by
  rw [intV]
  by_cases h : i = j
  · subst h; simp
  · simp [h]
section
variable {P : Program} {w : World} {K : PySem.W.Frag} {mg : Str → Option Value} {base : Heap} {C_Net C_NotValid : Addr}{A_EMPTY : Addr}
abbrev s_names_behind : Stmt := topS 26
abbrev ns_names_behind : List Str := ["tree", "tests", "node", "index", "mask", "value"]
theorem sc_names_behind : FnScope ns_names_behind ["tree", "tests"] (defScope s_names_behind) := ⟨rfl, rfl, rfl, by decide +kernel, rfl, by decide +kernel, by decide +kernel⟩

theorem ok_names_behind {f : Addr} {fd : FuncData} (F : Fun K "_names_behind" "_names_behind" s_names_behind f fd) (T : Txt K mg C_Net C_NotValid A_EMPTY) (D_children : Dfn P w K mg base CX0 1 "_children" ["branches", "index", "mask"] (spChildren K)) (D_child : Dfn P w K mg base CX0 1 "_child" ["children", "value"] (spChild K)) : FnOk P w K mg base CX0 2 f fd ["tree", "tests"] (spBehind K) := by
  refine F.ok sc_names_behind (fun vs H Q E h => ?_) (fun cdv A outer s H vs Q E hr h => ?_)
  · obtain ⟨v, u, d, p, N, n, g, rfl, _⟩ := h
    rfl
  · obtain ⟨v, u, d, p, N, n, g, rfl, hv, hu, hr0, k⟩ := h
    obtain ⟨a, xs, rfl, ha, hs⟩ := Tv.tupI hu
    refine ⟨_, (pss_cons (ps_set (i := 2) sc_names_behind.nd rfl (Or.inl rfl) (pv 0))
  (pss_cons (ps_for PassesOwn.never (by rfl) (kpiT K (pv 1)) (kpgT K (n := 3) (by rfl) (pgs_cons (pg_name (i := 3) sc_names_behind.nd rfl (Or.inl rfl)) (pgs_cons (pg_name (i := 4) sc_names_behind.nd rfl (Or.inl rfl)) (pgs_cons (pg_name (i := 5) sc_names_behind.nd rfl (Or.inl rfl)) pgs_nil)))) (pss_one (ps_set (i := 2) sc_names_behind.nd rfl (Or.inl rfl) (pe_dcall D_child (hr.mono (by decide)) (by rfl) pass0 (pa_cons (pe_dcall D_children (hr.mono (by decide)) (by rfl) pass0 (pa_cons (pe_ix (kIxT K) (pv 2) pe_int (fun _ _ => rfl)) (pa_cons (pv 3) (pa_cons (pv 4) pa_nil)))) (pa_cons (pv 5) pa_nil))))))
  (pss_one (ps_ret (pe_ix (kIxT K) (pv 2) pe_int (fun _ _ => rfl)))))), ?_⟩
    refine ⟨_, rfl, _, rfl, _, rfl, ⟨_, ha.sq⟩, for_tup (xs := xs) (fun j σ H' => ∃ (y : V) (d' : PyData) (v3 v4 v5 : Option V), σ = [some v, some (.ref a), some y, v3, v4, v5] ∧ Same H H' ∧ Tv K H' y d' ∧ Rep N (n - j) (fun q => g (p.take j ++ q)) d') ?_ ?_ ?_ ?_⟩
    · exact ⟨v, d, none, none, none, rfl, Same.refl _, hv, hr0⟩
    · rintro j σ H' _ ⟨_, _, _, _, _, _, s1, _⟩
      exact (ha.ts (Same.ts s1)).sq
    · rintro j x σ H1 hj ⟨y, d', v3, v4, v5, rfl, s1, hy, hrep⟩
      obtain ⟨e, he, hx⟩ := hs.getV hj
      obtain ⟨r, hr1, rfl⟩ := map_get he
      obtain ⟨t, rfl, ht⟩ := row_open hx
      obtain ⟨ns, bs, rfl, _, _, _, _⟩ := hrep.names
      obtain ⟨ta, tn, tb, rfl, hta, _, htb⟩ := tr_open hy
      refine ⟨_, _, rfl, (ht.ts (Same.ts s1)).sq, rfl, _, _, rfl, _, _, rfl, _, _, rfl, rfl, ?_⟩
      refine ⟨_, rfl, _, _, _, _, rfl, rfl, hta.sq, atC 1 rfl rfl, _, rfl, _, rfl, _, bs, r.1, r.2.1, rfl, htb, fun u1 H2 s2 hu1 => ?_⟩
      refine ⟨_, rfl, _, _, r.2.2, rfl, hu1, fun u2 hu2 => ?_⟩
      refine ⟨_, _, _, _, _, rfl, s1.trans s2, hu2, ?_⟩
      rw [show n - (j + 1) = n - j - 1 by omega, ← take_snoc hr1]
      have := hrep.down r.1 r.2.1 r.2.2
      simpa using this
    · rintro σ H1 ⟨y, d', v3, v4, v5, rfl, s1, hy, hrep⟩
      rw [hs.len, List.length_map, List.take_length] at hrep
      obtain ⟨ns, bs, rfl, hns, _, _, _⟩ := hrep.names
      obtain ⟨ta, tn, tb, rfl, hta, htn, _⟩ := tr_open hy
      refine ⟨_, rfl, _, _, _, _, rfl, rfl, hta.sq, atC 0 rfl rfl, ?_⟩
      rw [List.append_nil] at hns
      rw [hns] at k
      exact k _ _ s1 htn
abbrev s_with_child : Stmt := topS 31
abbrev ns_with_child : List Str := ["children", "value", "node", "rows", "row"]
theorem sc_with_child : FnScope ns_with_child ["children", "value", "node"] (defScope s_with_child) := ⟨rfl, rfl, rfl, by decide +kernel, rfl, by decide +kernel, by decide +kernel⟩

theorem ok_with_child {f : Addr} {fd : FuncData} (F : Fun K "_with_child" "_with_child" s_with_child f fd) (T : Txt K mg C_Net C_NotValid A_EMPTY) : FnOk P w K mg base CX0 1 f fd ["children", "value", "node"] (spWithChild K) := by
  refine F.ok sc_with_child (fun vs H Q E h => ?_) (fun cdv A outer s H vs Q E hr h => ?_)
  · obtain ⟨v, u, cs, x, d, N, rfl, _⟩ := h
    rfl
  · obtain ⟨v, u, cs, x, d, N, rfl, hv, hu, hn, hk, hN, k⟩ := h
    obtain ⟨a, xs, rfl, ha, hs⟩ := Tv.tupI hv
    have hlen : xs.length = cs.length := by rw [hs.len, List.length_map]
    have hcl := hk.len
    refine ⟨_, (pss_cons (ps_setLc (i := 3) (own := [("row", 4)]) (by rfl) sc_with_child.nd rfl rfl (sw_true rfl rfl rfl (by decide +kernel)) (kpiT K (pv 0)) (blkOk_by (N := ns_with_child) (sc := defScope s_with_child) (by decide +kernel)) (fun _ _ _ _ _ => (pg_name (i := 4) sc_with_child.nd rfl (Or.inl rfl))) (fun _ _ _ _ _ => (pts_one (pt_cmpR op_ne (pe_ix (kIxT K) (pv 4) pe_int (fun _ _ => rfl)) (pv 1) (nomark _)))) (fun _ _ _ _ _ => (pv 4)))
  (C8.pss_cut (ps_if (pt_cmpR (kNeD K hr.units) (pv 2) (pe_gref (by rfl) T.c_EMPTY) (nomark _)) (pss_one (ps_expr (kBM K PySem.F.plainAttrs_list PySem.F.slot_list_append PySem.F.type_list_append mt_append (pv 3) (pa_cons (pe_tup (pa_cons (pv 1) (pa_cons (pv 2) pa_nil))) pa_nil)))) pss_nil)
  (pss_one (ps_ret (pe_callTy (kTupOf K) (by rfl) T.b_tuple (by decide +kernel) (pa_cons (pe_callB (cr_sortedR K) (by rfl) T.b_sorted (by decide +kernel) (pa_cons (pv 3) pa_nil)) pa_nil)))))), ?_⟩
    refine ⟨_, rfl, _, rfl, ⟨_, ha.sq⟩, fun D hD => lc_tup (xs := xs) (fun j H1 => Same H H1 ∧ ∃ ys, H1 D = some (.lst ys) ∧ TvAll K H1 ys (((cs.take j).filter (fun c => decide (c.1 ≠ x))).map chD)) ?_ ?_ ?_ ?_⟩
    · exact ⟨Same.new hD, [], upd_same, .nil⟩
    · rintro j H1 _ ⟨s1, _⟩
      exact (ha.ts (Same.ts s1)).sq
    · rintro j y H1 hj ⟨s1, ys, hys, hts⟩
      obtain ⟨e, he, hx⟩ := hs.getV hj
      obtain ⟨c, hc, rfl⟩ := map_get he
      have hx1 := hx.ts (Same.ts s1)
      obtain ⟨p, c', rfl, hp, _⟩ := ch_open hx1
      refine ⟨rfl, ?_⟩
      refine ⟨_, rfl, _, _, _, _, rfl, rfl, hp.sq, atC 0 rfl rfl, _, rfl, rfl, _, rfl, ?_⟩
      have ylen : ys.length ≤ N := by
        rw [hts.len, List.length_map]
        have l2 := List.length_filter_le (fun c : Kid => decide (c.1 ≠ x)) (cs.take j)
        have l3 := List.length_take_le' j cs
        omega
      rw [intVn]
      refine iteD (fun e => ?_) (fun e => ?_)
      · refine ⟨_, rfl, ys, hys, szt (by omega), Same.mut s1 hD, _, upd_same, ?_⟩
        rw [← take_snoc hc, filter_snoc, if_pos (by simpa using e), List.map_append]
        have s2 : TS H1 (upd H1 D (.lst (ys ++ [V.ref p]))) := Chg.ts Chg.upd hys
        exact TvAll.snoc (hts.ts s2) (hx1.ts s2)
      · refine ⟨s1, ys, hys, ?_⟩
        rw [← take_snoc hc, filter_snoc, if_neg (by simpa using e), List.append_nil]
        exact hts
    · rintro H1 ⟨s1, ys, hys, hts⟩
      rw [hlen, List.take_length] at hts
      obtain ⟨⟨ns, bs, rfl⟩, hsh⟩ := hn
      have hu1 := hu.ts (Same.ts s1)
      refine ⟨fun σ H2 => ∃ (ys : List V) (v4 : Option V), σ = [some (.ref a), some (.int x), some u, some (.ref D), v4] ∧ Same H H2 ∧ H2 D = some (.lst ys) ∧ TvAll K H2 ys ((cs1 cs x (trD ns bs) (!(ns.isEmpty && bs.isEmpty))).map chD), ?_, ?_⟩
      · refine ⟨_, rfl, trD ns bs, emD, hu1.dp, (T.t_EMPTY H1).dp, hsh, em_shaped, _, rfl, ?_⟩
        rw [eqv_em]
        refine iteBn (fun e => ?_) (fun e => ?_)
        · have ylen : ys.length ≤ N := by
            rw [hts.len, List.length_map]
            have l2 := List.length_filter_le (fun c : Kid => decide (c.1 ≠ x)) cs
            omega
          refine ⟨_, rfl, .inl ⟨rfl, _, SqL.of hys⟩, _, rfl, _, rfl, szl rfl, fun p hp => ?_⟩
          have s2 : Same H (upd H1 p (.tup [.int x, u])) := s1.trans (Same.new hp)
          have hyp : (upd H1 p (.tup [.int x, u])) D = some (.lst ys) := Same.new hp _ _ hys
          refine ⟨_, _, _, rfl, rfl, hyp, szt (by omega), ?_⟩
          have s3 : TS H1 (upd (upd H1 p (.tup [.int x, u])) D (.lst (ys ++ [V.ref p]))) := (Same.ts (Same.new hp)).trans (Chg.ts Chg.upd hyp)
          refine ⟨_, none, rfl, Same.mut s2 hD, upd_same, ?_⟩
          unfold cs1
          rw [e]
          show TvAll K _ _ ((_ ++ [(x, trD ns bs)]).map chD)
          rw [List.map_append]
          refine TvAll.snoc (hts.ts s3) (.tup (.inl ?_) (.cons (.int _) (.cons (hu1.ts s3) .nil)))
          rw [upd_ne (ne_of_none hys hp).symm]
          exact upd_same
        · refine ⟨ys, _, rfl, s1, hys, ?_⟩
          unfold cs1
          rw [e]
          show TvAll K _ _ ((_ ++ []).map chD)
          rw [List.append_nil]
          exact hts
      · rintro σ H2 ⟨ys, v4, rfl, s2, hys, hts⟩
        have hb : (!(ns.isEmpty && bs.isEmpty)) = true ↔ trD ns bs ≠ emD := by
          rw [Bool.not_eq_true', ← Bool.not_eq_true, not_congr em_iff]
        generalize (!(ns.isEmpty && bs.isEmpty)) = b at hts hb
        have nd : (cs1 cs x (trD ns bs) b).Pairwise (fun c d => ((c.1 : Int), (0 : Int)) ≠ ((d.1 : Int), (0 : Int))) := by
          refine List.pairwise_append.mpr ⟨?_, ?_, fun c hc e he => ?_⟩
          · refine (hk.up.filter _).imp fun {a b} z w => ?_
            unfold kLt at z
            have : (a.1 : Int) = b.1 := congrArg Prod.fst w
            omega
          · cases b <;> simp
          · cases b with
            | false => cases he
            | true =>
              rw [List.mem_singleton.mp he]
              intro w
              have : (c.1 : Int) = x := congrArg Prod.fst w
              have h2 := (List.mem_filter.mp hc).2
              simp at h2
              omega
        refine ⟨_, rfl, _, ys, Kid, cs1 cs x (trD ns bs) b, fun c => ((c.1 : Int), 0), false, rfl, SqL.of hys, by rw [hts.len, List.length_map], fun z hz => ?_, fun _ _ _ => rfl, nd, fun zs p hp hup hpn => ?_⟩
        · obtain ⟨t, y, e, ht, _⟩ := ch_open (hts.zip z hz)
          exact ⟨t, y, e, ht.sq⟩
        have hzs : ∀ z ∈ zs, Tv K H2 z.1 (chD z.2) := fun z hz => hts.zip z (hp.mem_iff.mp hz)
        have hlen2 : ys.length = (cs1 cs x (trD ns bs) b).length := by rw [hts.len, List.length_map]
        have hperm : (zs.map (·.2)).Perm (cs1 cs x (trD ns bs) b) := by
          have := hp.map (·.2)
          rw [zip_snd hlen2] at this
          exact this
        have hup2 : (zs.map (·.2)).Pairwise kLt := by
          rw [List.pairwise_map]
          refine hup.imp fun {y z} h => ?_
          have := SrtO.lexB_iff.mp h
          unfold kLt
          dsimp only at this
          omega
        have P1 := put1 hk hb hperm hup2
        refine ⟨_, _, rfl, .inl ⟨SqL.of upd_same, fun q hq => ?_⟩⟩
        have s3 := (Same.new (o := .lst (zs.map (·.1))) hpn).trans (Same.new (o := .tup (zs.map (·.1))) hq)
        refine k _ _ _ (s2.trans s3) ?_ P1
        exact .tup (.inl upd_same) ((TvAll.of_zip zs hzs).ts (Same.ts s3))
end
end My

namespace My
open PySem L2
local macro_rules | `(tactic| walk_at "ne") => `(tactic| first | assumption | exact Ne.symm (by assumption) | exact ne_of_none (by assumption) (by assumption) | exact Ne.symm (ne_of_none (by assumption) (by assumption)))
local macro_rules | `(tactic| walk_at "hp") => `(tactic| first | assumption | with_reducible exact upd_same | (with_reducible refine Eq.trans (upd_ne ?_) ?_; rotate_left; walk_at "hp"; walk_at "ne"))
local macro_rules | `(tactic| walk_at "cnd") => `(tactic| first | omega | (show (0 : Int) < _; omega) | exact ⟨by omega, by omega⟩ | exact Or.inl ⟨by omega, by omega⟩ | exact Or.inr ⟨by omega, by omega⟩ | exact ⟨by omega, by omega, by decide⟩ | exact ⟨by omega, by omega, by omega⟩)
local macro_rules | `(tactic| walk_at "at") => `(tactic| first | exact atC 0 rfl rfl | exact atC 1 rfl rfl | exact atC 2 rfl rfl | exact atC 3 rfl rfl | exact atC 4 rfl rfl | exact atC 5 rfl rfl | exact atC 6 rfl rfl | exact atC 7 rfl rfl)
local macro_rules | `(tactic| walk_at "ix") => `(tactic| first | exact ixC 0 rfl (Nat.le_of_ble_eq_true rfl) | exact ixC 1 rfl (Nat.le_of_ble_eq_true rfl) | exact ixC 2 rfl (Nat.le_of_ble_eq_true rfl) | exact ixC 3 rfl (Nat.le_of_ble_eq_true rfl) | exact ixC 4 rfl (Nat.le_of_ble_eq_true rfl) | exact ixC 5 rfl (Nat.le_of_ble_eq_true rfl))
local macro_rules | `(tactic| walk_at "st") => `(tactic| first
  | refine ⟨_, rfl, ?_⟩
  | refine ⟨_, _, rfl, rfl, (by walk_at "cnd" : (_ : Prop)), ?_⟩
  | refine ⟨_, _, rfl, rfl, ?_⟩
  | refine ⟨rfl, ?_⟩
  | refine Or.inl ⟨_, rfl, ?_⟩
  | refine ⟨_, _, _, _, rfl, rfl, by exact SqL.of (by walk_at "hp"), by walk_at "at", ?_⟩
  | refine ⟨_, _, _, _, rfl, rfl, by exact SqT.of (by walk_at "hp"), by walk_at "at", ?_⟩
  | refine ⟨_, _, _, _, rfl, rfl, by walk_at "hp", by walk_at "ix", ?_⟩
  | refine ⟨_, _, rfl, Or.inl (by exact SqL.of (by walk_at "hp")), ?_⟩
  | refine ⟨_, _, rfl, Or.inr (by exact SqT.of (by walk_at "hp")), ?_⟩)
local macro_rules | `(tactic| walk_at "so") => `(tactic| first
  | refine ⟨_, _, _, _, _, rfl, by walk_at "hp", by assumption, by assumption, rfl, ?_⟩
  | refine ⟨_, _, _, _, rfl, by walk_at "hp", by assumption, by assumption, Nat.le_of_ble_eq_true rfl, ?_⟩
  | refine ⟨_, _, _, rfl, by walk_at "hp", rfl, ?_⟩
  | walk_at "st")
local macro_rules | `(tactic| walk_at "ro") => `(tactic| repeat walk_at "so")
local macro_rules | `(tactic| walk_at "run") => `(tactic| repeat walk_at "st")

section
variable {P : Program} {w : World} {K : PySem.W.Frag} {mg : Str → Option Value} {base : Heap} {C_Net C_NotValid : Addr}{A_EMPTY : Addr}
abbrev s_with_branch : Stmt := topS 30
abbrev ns_with_branch : List Str := ["branches", "index", "mask", "children", "rows", "row"]
theorem sc_with_branch : FnScope ns_with_branch ["branches", "index", "mask", "children"] (defScope s_with_branch) := ⟨rfl, rfl, rfl, by decide +kernel, rfl, by decide +kernel, by decide +kernel⟩

theorem ok_with_branch {f : Addr} {fd : FuncData} (F : Fun K "_with_branch" "_with_branch" s_with_branch f fd) (T : Txt K mg C_Net C_NotValid A_EMPTY) : FnOk P w K mg base CX0 1 f fd ["branches", "index", "mask", "children"] (spWithBranch K) := by
  refine F.ok sc_with_branch (fun vs H Q E h => ?_) (fun cdv A outer s H vs Q E hr h => ?_)
  · obtain ⟨v, u, bs, i, m, cs, N, rfl, _⟩ := h
    rfl
  · obtain ⟨v, u, bs, i, m, cs, N, rfl, hv, hu, hk, hc, hi, hN, k⟩ := h
    obtain ⟨a, xs, rfl, ha, hs⟩ := Tv.tupI hv
    have hlen : xs.length = bs.length := by rw [hs.len, List.length_map]
    have hcl := hk.len
    refine ⟨_, (pss_cons (ps_setLc (i := 4) (own := [("row", 5)]) (by rfl) sc_with_branch.nd rfl rfl (sw_true rfl rfl rfl (by decide +kernel)) (kpiT K (pv 0)) (blkOk_by (N := ns_with_branch) (sc := defScope s_with_branch) (by decide +kernel)) (fun _ _ _ _ _ => (pg_name (i := 5) sc_with_branch.nd rfl (Or.inl rfl))) (fun _ _ _ _ _ => (pts_one (PW.pt (pw_or (pt_cmpR op_ne (pe_ix (kIxT K) (pv 5) pe_int (fun _ _ => rfl)) (pv 1) (nomark _)) (pw_or1 (pt_cmpR op_ne (pe_ix (kIxT K) (pv 5) pe_int (fun _ _ => rfl)) (pv 2) (nomark _))))))) (fun _ _ _ _ _ => (pv 5)))
  (C8.pss_cut (ps_if (pt_truth (pv 3) (by intro _; rfl)) (pss_one (ps_expr (kBM K PySem.F.plainAttrs_list PySem.F.slot_list_append PySem.F.type_list_append mt_append (pv 4) (pa_cons (pe_tup (pa_cons (pv 1) (pa_cons (pv 2) (pa_cons (pv 3) pa_nil)))) pa_nil)))) pss_nil)
  (pss_one (ps_ret (pe_callTy (kTupOf K) (by rfl) T.b_tuple (by decide +kernel) (pa_cons (pe_callB (cr_sortedR K) (by rfl) T.b_sorted (by decide +kernel) (pa_cons (pv 4) pa_nil)) pa_nil)))))), ?_⟩
    refine ⟨_, rfl, _, rfl, ⟨_, ha.sq⟩, fun D hD => lc_tup (xs := xs) (fun j H1 => Same H H1 ∧ ∃ ys, H1 D = some (.lst ys) ∧ TvAll K H1 ys (((bs.take j).filter (fun c => decide (c.1 ≠ i) || decide (c.2.1 ≠ m))).map brD)) ?_ ?_ ?_ ?_⟩
    · exact ⟨Same.new hD, [], upd_same, .nil⟩
    · rintro j H1 _ ⟨s1, _⟩
      exact (ha.ts (Same.ts s1)).sq
    · rintro j y H1 hj ⟨s1, ys, hys, hts⟩
      obtain ⟨e, he, hx⟩ := hs.getV hj
      obtain ⟨c, hc, rfl⟩ := map_get he
      have hx1 := hx.ts (Same.ts s1)
      obtain ⟨p, c', rfl, hp, _⟩ := br_open hx1
      have ylen : ys.length ≤ N := by
        rw [hts.len, List.length_map]
        have l2 := List.length_filter_le (fun c : Br => decide (c.1 ≠ i) || decide (c.2.1 ≠ m)) (bs.take j)
        have l3 := List.length_take_le' j bs
        omega
      have yes : (decide (c.1 ≠ i) || decide (c.2.1 ≠ m)) = true → ∃ acc, H1 D = some (.lst acc) ∧ acc.length < sizeLine ∧ Same H (upd H1 D (.lst (acc ++ [V.ref p]))) ∧ ∃ ys, (upd H1 D (.lst (acc ++ [V.ref p]))) D = some (.lst ys) ∧ TvAll K (upd H1 D (.lst (acc ++ [V.ref p]))) ys (((bs.take (j + 1)).filter (fun c => decide (c.1 ≠ i) || decide (c.2.1 ≠ m))).map brD) := fun e => by
        refine ⟨ys, hys, szt (by omega), Same.mut s1 hD, _, upd_same, ?_⟩
        rw [← take_snoc hc, filter_snoc, if_pos e, List.map_append]
        have s2 : TS H1 (upd H1 D (.lst (ys ++ [V.ref p]))) := Chg.ts Chg.upd hys
        exact TvAll.snoc (hts.ts s2) (hx1.ts s2)
      refine ⟨rfl, ?_⟩
      refine ⟨_, rfl, _, _, _, _, rfl, rfl, hp.sq, atC 0 rfl rfl, _, rfl, rfl, _, rfl, ?_⟩
      rw [intVn]
      refine iteD (fun e => iteT ⟨_, rfl, yes (by rw [decide_eq_true e]; rfl)⟩) (fun e => ?_)
      refine ⟨_, rfl, _, _, _, _, rfl, rfl, hp.sq, atC 1 rfl rfl, _, rfl, rfl, _, rfl, ?_⟩
      rw [intVn]
      refine iteD (fun e2 => ⟨_, rfl, yes (by rw [decide_eq_true e2, Bool.or_true])⟩) (fun e2 => ?_)
      refine ⟨s1, ys, hys, ?_⟩
      rw [← take_snoc hc, filter_snoc, if_neg (by simp; omega), List.append_nil]
      exact hts
    · rintro H1 ⟨s1, ys, hys, hts⟩
      rw [hlen, List.take_length] at hts
      have hu1 := hu.ts (Same.ts s1)
      refine ⟨fun σ H2 => ∃ (ys : List V) (v4 : Option V), σ = [some (.ref a), some (.int i), some (.int m), some u, some (.ref D), v4] ∧ Same H H2 ∧ H2 D = some (.lst ys) ∧ TvAll K H2 ys ((bs1 bs i m cs).map brD), ?_, ?_⟩
      · obtain ⟨ua, us, rfl, hua, hus⟩ := Tv.tupI hu1
        have ulen : us.length = cs.length := by rw [hus.len, List.length_map]
        have uem : us.isEmpty = cs.isEmpty := by
          cases us with
          | nil => cases cs with
            | nil => rfl
            | cons _ _ => simp at ulen
          | cons _ _ => cases cs with
            | nil => simp at ulen
            | cons _ _ => rfl
        refine ⟨_, rfl, _, .inr (.inl ⟨_, hua.sq, rfl⟩), ?_⟩
        rw [uem]
        refine iteBn (fun e => ?_) (fun e => ?_)
        · have ylen : ys.length ≤ N := by
            rw [hts.len, List.length_map]
            have l2 := List.length_filter_le (fun c : Br => decide (c.1 ≠ i) || decide (c.2.1 ≠ m)) bs
            omega
          refine ⟨_, rfl, .inl ⟨rfl, _, SqL.of hys⟩, _, rfl, _, rfl, _, rfl, szl rfl, fun p hp => ?_⟩
          have s2 : Same H (upd H1 p (.tup [.int i, .int m, .ref ua])) := s1.trans (Same.new hp)
          have hyp : (upd H1 p (.tup [.int i, .int m, .ref ua])) D = some (.lst ys) := Same.new hp _ _ hys
          refine ⟨_, _, _, rfl, rfl, hyp, szt (by omega), ?_⟩
          have s3 : TS H1 (upd (upd H1 p (.tup [.int i, .int m, .ref ua])) D (.lst (ys ++ [V.ref p]))) := (Same.ts (Same.new hp)).trans (Chg.ts Chg.upd hyp)
          refine ⟨_, none, rfl, Same.mut s2 hD, upd_same, ?_⟩
          unfold bs1
          rw [e, if_neg Bool.false_ne_true, List.map_append]
          refine TvAll.snoc (hts.ts s3) (.tup (.inl ?_) (.cons (.int _) (.cons (.int _) (.cons (hu1.ts s3) .nil))))
          rw [upd_ne (ne_of_none hys hp).symm]
          exact upd_same
        · refine ⟨ys, _, rfl, s1, hys, ?_⟩
          unfold bs1
          rw [if_pos e, List.append_nil]
          exact hts
      · rintro σ H2 ⟨ys, v4, rfl, s2, hys, hts⟩
        have nd : (bs1 bs i m cs).Pairwise (fun c d => ((c.1 : Int), (c.2.1 : Int)) ≠ ((d.1 : Int), (d.2.1 : Int))) := by
          refine List.pairwise_append.mpr ⟨?_, ?_, fun c hc' e he => ?_⟩
          · refine (hk.up.filter _).imp fun {a b} z w => ?_
            unfold brLt at z
            have e1 : (a.1 : Int) = b.1 := congrArg Prod.fst w
            have e2 : (a.2.1 : Int) = b.2.1 := congrArg Prod.snd w
            omega
          · cases cs <;> simp
          · cases cs with
            | nil => cases he
            | cons _ _ =>
              rw [List.mem_singleton.mp he]
              intro w
              have e1 : (c.1 : Int) = i := congrArg Prod.fst w
              have e2 : (c.2.1 : Int) = m := congrArg Prod.snd w
              have h2 := (List.mem_filter.mp hc').2
              simp at h2
              omega
        refine ⟨_, rfl, _, ys, Br, bs1 bs i m cs, fun c => ((c.1 : Int), (c.2.1 : Int)), true, rfl, SqL.of hys, by rw [hts.len, List.length_map], fun z hz => ?_, fun z => (by cases z), nd, fun zs p hp hup hpn => ?_⟩
        · obtain ⟨t, y, e, ht, _⟩ := br_open (hts.zip z hz)
          exact ⟨t, y, e, ht.sq⟩
        have hzs : ∀ z ∈ zs, Tv K H2 z.1 (brD z.2) := fun z hz => hts.zip z (hp.mem_iff.mp hz)
        have hlen2 : ys.length = (bs1 bs i m cs).length := by rw [hts.len, List.length_map]
        have hperm : (zs.map (·.2)).Perm (bs1 bs i m cs) := by
          have := hp.map (·.2)
          rw [zip_snd hlen2] at this
          exact this
        have hup2 : (zs.map (·.2)).Pairwise brLt := by
          rw [List.pairwise_map]
          refine hup.imp fun {y z} h => ?_
          have := SrtO.lexB_iff.mp h
          unfold brLt
          dsimp only at this
          omega
        have P1 := put2 hk hc hi hperm hup2
        refine ⟨_, _, rfl, .inl ⟨SqL.of upd_same, fun q hq => ?_⟩⟩
        have s3 := (Same.new (o := .lst (zs.map (·.1))) hpn).trans (Same.new (o := .tup (zs.map (·.1))) hq)
        refine k _ _ _ (s2.trans s3) ?_ P1
        exact .tup (.inl upd_same) ((TvAll.of_zip zs hzs).ts (Same.ts s3))
end
end My

namespace My
open PySem L2
local macro_rules | `(tactic| walk_at "ne") => `(tactic| first | assumption | exact Ne.symm (by assumption) | exact ne_of_none (by assumption) (by assumption) | exact Ne.symm (ne_of_none (by assumption) (by assumption)))
local macro_rules | `(tactic| walk_at "hp") => `(tactic| first | assumption | with_reducible exact upd_same | (with_reducible refine Eq.trans (upd_ne ?_) ?_; rotate_left; walk_at "hp"; walk_at "ne"))
local macro_rules | `(tactic| walk_at "cnd") => `(tactic| first | omega | (show (0 : Int) < _; omega) | exact ⟨by omega, by omega⟩ | exact Or.inl ⟨by omega, by omega⟩ | exact Or.inr ⟨by omega, by omega⟩ | exact ⟨by omega, by omega, by decide⟩ | exact ⟨by omega, by omega, by omega⟩)
local macro_rules | `(tactic| walk_at "at") => `(tactic| first | exact atC 0 rfl rfl | exact atC 1 rfl rfl | exact atC 2 rfl rfl | exact atC 3 rfl rfl | exact atC 4 rfl rfl | exact atC 5 rfl rfl | exact atC 6 rfl rfl | exact atC 7 rfl rfl)
local macro_rules | `(tactic| walk_at "ix") => `(tactic| first | exact ixC 0 rfl (Nat.le_of_ble_eq_true rfl) | exact ixC 1 rfl (Nat.le_of_ble_eq_true rfl) | exact ixC 2 rfl (Nat.le_of_ble_eq_true rfl) | exact ixC 3 rfl (Nat.le_of_ble_eq_true rfl) | exact ixC 4 rfl (Nat.le_of_ble_eq_true rfl) | exact ixC 5 rfl (Nat.le_of_ble_eq_true rfl))
local macro_rules | `(tactic| walk_at "st") => `(tactic| first
  | refine ⟨_, rfl, ?_⟩
  | refine ⟨_, _, rfl, rfl, (by walk_at "cnd" : (_ : Prop)), ?_⟩
  | refine ⟨_, _, rfl, rfl, ?_⟩
  | refine ⟨rfl, ?_⟩
  | refine Or.inl ⟨_, rfl, ?_⟩
  | refine ⟨_, _, _, _, rfl, rfl, by exact SqL.of (by walk_at "hp"), by walk_at "at", ?_⟩
  | refine ⟨_, _, _, _, rfl, rfl, by exact SqT.of (by walk_at "hp"), by walk_at "at", ?_⟩
  | refine ⟨_, _, _, _, rfl, rfl, by walk_at "hp", by walk_at "ix", ?_⟩
  | refine ⟨_, _, rfl, Or.inl (by exact SqL.of (by walk_at "hp")), ?_⟩
  | refine ⟨_, _, rfl, Or.inr (by exact SqT.of (by walk_at "hp")), ?_⟩)
local macro_rules | `(tactic| walk_at "so") => `(tactic| first
  | refine ⟨_, _, _, _, _, rfl, by walk_at "hp", by assumption, by assumption, rfl, ?_⟩
  | refine ⟨_, _, _, _, rfl, by walk_at "hp", by assumption, by assumption, Nat.le_of_ble_eq_true rfl, ?_⟩
  | refine ⟨_, _, _, rfl, by walk_at "hp", rfl, ?_⟩
  | walk_at "st")
local macro_rules | `(tactic| walk_at "ro") => `(tactic| repeat walk_at "so")
local macro_rules | `(tactic| walk_at "run") => `(tactic| repeat walk_at "st")

/-! ### defs that call themselves -/
section
variable {P : Program} {w : World} {K : PySem.W.Frag} {mg : Str → Option Value} {base : Heap} {C_Net C_NotValid : Addr}{A_EMPTY : Addr}
structure Slf (K : PySem.W.Frag) (mg : Str → Option Value) (x : Str) (f : Addr) (fd : FuncData) (ps : List Str) : Prop where
  m : mg x = some (.ref f)
  k : PySem.W.keepIn K (.ref f) = true
  b : Binds K fd ps []
theorem Slf.dfn {x : Str} {f : Addr} {fd : FuncData} {ps : List Str} {CX : CXT} {k : Nat} {sp : Sp} (S : Slf K mg x f fd ps) (F : FnOk P w K mg base CX k f fd ps sp) : Dfn P w K mg base CX k x ps sp := ⟨f, fd, F, S.m, S.k, S.b⟩
end
theorem rep_sh {N : Nat} : ∀ {n : Nat} {f : Path → List Int} {d : PyData}, Rep N n f d → Sh (5 * n + 2) d
  | 0, f, d, ⟨ns, a, _⟩ => by
    subst a
    refine Sh.tup fun d hd => ?_
    rcases List.mem_cons.mp hd with e | hd
    · subst e
      exact Sh.tup fun d hd => by obtain ⟨i, _, rfl⟩ := List.mem_map.mp hd; exact Sh.int _ _
    · rw [List.mem_singleton.mp hd]
      exact Sh.tup fun d hd => by cases hd
  | n + 1, f, d, ⟨ns, bs, a, _, _, e, g⟩ => by
    subst a
    show Sh ((5 * n + 6) + 1) _
    refine Sh.tup fun d hd => ?_
    rcases List.mem_cons.mp hd with e' | hd
    · subst e'
      show Sh ((5 * n + 5) + 1) _
      exact Sh.tup fun d hd => by obtain ⟨i, _, rfl⟩ := List.mem_map.mp hd; exact Sh.int _ _
    · rw [List.mem_singleton.mp hd]
      show Sh ((5 * n + 5) + 1) _
      refine Sh.tup fun d hd => ?_
      obtain ⟨b, hb, rfl⟩ := List.mem_map.mp hd
      show Sh ((5 * n + 4) + 1) _
      refine Sh.tup fun d hd => ?_
      rcases List.mem_cons.mp hd with e' | hd
      · subst e'; exact Sh.int _ _
      rcases List.mem_cons.mp hd with e' | hd
      · subst e'; exact Sh.int _ _
      rw [List.mem_singleton.mp hd]
      show Sh ((5 * n + 3) + 1) _
      refine Sh.tup fun d hd => ?_
      obtain ⟨c, hc, rfl⟩ := List.mem_map.mp hd
      show Sh ((5 * n + 2) + 1) _
      refine Sh.tup fun d hd => ?_
      rcases List.mem_cons.mp hd with e' | hd
      · subst e'; exact Sh.int _ _
      rw [List.mem_singleton.mp hd]
      have := g b.1 b.2.1 c.1
      rw [kids_mem e.up b hb, kid_mem (e.ks b hb).up c hc] at this
      exact rep_sh this
theorem Sh.mono {n m : Nat} {d : PyData} (h : Sh n d) (hm : n ≤ m) : Sh m d := ⟨h.1, Nat.le_trans h.2 hm⟩
theorem rep_ok {N n : Nat} {f : Path → List Int} {d : PyData} (h : Rep N n f d) (hn : n ≤ 12) : SeqAt.shaped d = true := ((rep_sh h).mono (by omega : 5 * n + 2 ≤ 62)).ok (by decide)
theorem rep_node {N n : Nat} {f : Path → List Int} {d : PyData} (h : Rep N n f d) (hn : n ≤ 12) : Node d := by
  obtain ⟨ns, bs, e, _⟩ := h.names
  exact ⟨⟨ns, bs, e⟩, rep_ok h hn⟩
theorem Rep.top0 {N : Nat} : ∀ {n : Nat} {f : Path → List Int} {ns0 ns : List Int} {bs : List Br}, Rep N n f (trD ns0 bs) → ns.length ≤ N → Rep N n (fset f [] ns) (trD ns bs)
  | 0, f, ns0, ns, bs, ⟨ns', a, b, c, e⟩, hl => by
    obtain ⟨rfl, rfl⟩ := trD_inj a
    exact ⟨ns, rfl, if_pos rfl, hl, fun r p => (if_neg (by simp)).trans (e r p)⟩
  | n + 1, f, ns0, ns, bs, h, hl => h.top hl
/-- names put behind a path -/
def spSet (K : PySem.W.Frag) (n : Nat) : Sp := fun vs H Q _ => ∃ (v u x : V) (d : PyData) (p : Path) (ns : List Int) (N m : Nat) (f : Path → List Int), vs = [v, u, x] ∧ Tv K H v d ∧ PaV K H u p ∧ NsV K H x ns ∧ Rep N m f d ∧ p.length ≤ n ∧ p.length ≤ m ∧ m ≤ 12 ∧ ns.length ≤ N + 1 ∧ (∀ r ∈ p, r.1 < 6) ∧ N ≤ 1000 ∧
  ∀ y H' d', Same H H' → Tv K H' y d' → Rep (N + 1) m (fset f p ns) d' → Q y H'
theorem cut1 {x : V} {xs : List V} : cutV (x :: xs) (some 1) none = xs := by
  unfold cutV
  rw [HT.sIx_none]
  have : HT.sIx (x :: xs).length 0 (some 1) = 1 := by
    exact (HT.sIx_nat _ _ 1).trans (by simp)
  rw [this, List.drop_one, List.tail_cons]
  exact List.take_of_length_le (by simp)
section
variable {P : Program} {w : World} {K : PySem.W.Frag} {mg : Str → Option Value} {base : Heap} {C_Net C_NotValid : Addr}{A_EMPTY : Addr}
abbrev s_with_names_behind : Stmt := topS 27
abbrev ns_with_names_behind : List Str := ["tree", "tests", "names", "index", "mask", "value", "children", "node"]
theorem sc_with_names_behind : FnScope ns_with_names_behind ["tree", "tests", "names"] (defScope s_with_names_behind) := ⟨rfl, rfl, rfl, by decide +kernel, rfl, by decide +kernel, by decide +kernel⟩

theorem ok_with_names_behind {f : Addr} {fd : FuncData} (F : Fun K "_with_names_behind" "_with_names_behind" s_with_names_behind f fd) (T : Txt K mg C_Net C_NotValid A_EMPTY) (D_children : Dfn P w K mg base CX0 1 "_children" ["branches", "index", "mask"] (spChildren K)) (D_child : Dfn P w K mg base CX0 1 "_child" ["children", "value"] (spChild K))
    (D_with_branch : Dfn P w K mg base CX0 1 "_with_branch" ["branches", "index", "mask", "children"] (spWithBranch K)) (D_with_child : Dfn P w K mg base CX0 1 "_with_child" ["children", "value", "node"] (spWithChild K)) (R : Slf K mg "_with_names_behind" f fd ["tree", "tests", "names"]) : FnOk P w K mg base CX0 8 f fd ["tree", "tests", "names"] (spSet K 6) := by
  have go : ∀ n, FnOk P w K mg base CX0 (2 + n) f fd ["tree", "tests", "names"] (spSet K n) := by
    intro n
    have hstep : ∀ n, (∀ n', n = n' + 1 → Dfn P w K mg base CX0 (2 + n') "_with_names_behind" ["tree", "tests", "names"] (spSet K n')) → FnOk P w K mg base CX0 (1 + n + 1) f fd ["tree", "tests", "names"] (spSet K n) := by
      intro n IH
      have IH' : Dfn P w K mg base CX0 (1 + n) "_with_names_behind" ["tree", "tests", "names"] (fun vs H Q E => ∃ n', n = n' + 1 ∧ spSet K n' vs H Q E) := by
        cases n with
        | zero => exact ⟨f, fd, F.ok sc_with_names_behind (fun vs H Q E h => by obtain ⟨n', e, _⟩ := h; cases e) (fun cdv A outer s H vs Q E hr h => by obtain ⟨n', e, _⟩ := h; cases e), R.m, R.k, R.b⟩
        | succ n' =>
          have := IH n' rfl
          rw [show 1 + (n' + 1) = 2 + n' by omega]
          refine this.imp fun vs H Q E h => ?_
          obtain ⟨n2, e, h⟩ := h
          have : n' = n2 := by omega
          subst this
          exact h
      have D_with_names_behind := IH'
      refine F.ok sc_with_names_behind (fun vs H Q E h => ?_) (fun cdv A outer s H vs Q E hr h => ?_)
      · obtain ⟨v, u, x, d, p, ns, N, m, g, rfl, _⟩ := h
        rfl
      · obtain ⟨v, u, x, d, p, ns, N, m, g, rfl, hv, hu, hx, hrep, pn, pm, m12, nl, hp6, hN, k⟩ := h
        obtain ⟨ua, us, rfl, hua, hus⟩ := Tv.tupI hu
        obtain ⟨ns0, bs, rfl, hns, _, hbs, _⟩ := hrep.names
        obtain ⟨ta, tn, tb, rfl, hta, htn, htb⟩ := tr_open hv
        refine ⟨_, (pss_cons (ps_if (pt_not (pt_truth (pv 1) (by intro _; rfl))) (pss_one (ps_ret (pe_tup (pa_cons (pv 2) (pa_cons (pe_ix (kIxT K) (pv 0) pe_int (fun _ _ => rfl)) pa_nil))))) pss_nil)
  (pss_cons (ps_asg (pe_ix (kIxT K) (pv 1) pe_int (fun _ _ => rfl)) (kpgT K (n := 3) (by rfl) (pgs_cons (pg_name (i := 3) sc_with_names_behind.nd rfl (Or.inl rfl)) (pgs_cons (pg_name (i := 4) sc_with_names_behind.nd rfl (Or.inl rfl)) (pgs_cons (pg_name (i := 5) sc_with_names_behind.nd rfl (Or.inl rfl)) pgs_nil)))))
  (pss_cons (ps_set (i := 6) sc_with_names_behind.nd rfl (Or.inl rfl) (pe_dcall D_children (hr.mono (by omega)) (by rfl) pass0 (pa_cons (pe_ix (kIxT K) (pv 0) pe_int (fun _ _ => rfl)) (pa_cons (pv 3) (pa_cons (pv 4) pa_nil)))))
  (pss_cons (ps_set (i := 7) sc_with_names_behind.nd rfl (Or.inl rfl) (pe_dcall D_with_names_behind (hr.mono (by omega)) (by rfl) pass0 (pa_cons (pe_dcall D_child (hr.mono (by omega)) (by rfl) pass0 (pa_cons (pv 6) (pa_cons (pv 5) pa_nil))) (pa_cons (pe_slice (kSlT K) (pv 1) (po_some pe_int) po_none) (pa_cons (pv 2) pa_nil)))))
  (pss_one (ps_ret (pe_tup (pa_cons (pe_ix (kIxT K) (pv 0) pe_int (fun _ _ => rfl)) (pa_cons (pe_dcall D_with_branch (hr.mono (by omega)) (by rfl) pass0 (pa_cons (pe_ix (kIxT K) (pv 0) pe_int (fun _ _ => rfl)) (pa_cons (pv 3) (pa_cons (pv 4) (pa_cons (pe_dcall D_with_child (hr.mono (by omega)) (by rfl) pass0 (pa_cons (pv 6) (pa_cons (pv 5) (pa_cons (pv 7) pa_nil)))) pa_nil))))) pa_nil))))))))), ?_⟩
        refine ⟨_, rfl, _, .inr (.inl ⟨_, hua.sq, rfl⟩), ?_⟩
        cases p with
        | nil =>
          have : us = [] := by cases hus; rfl
          subst this
          refine iteT ?_
          refine ⟨_, rfl, _, rfl, _, _, _, _, rfl, rfl, hta.sq, atC 1 rfl rfl, szl rfl, fun q hq => ?_⟩
          have s1 := Same.new (o := .tup [x, tb]) hq
          refine k _ _ _ s1 ?_ ((hrep.mono (Nat.le_succ N)).top0 nl)
          exact .tup (.inl upd_same) (.cons (hx.ts (Same.ts s1)) (.cons (htb.ts (Same.ts s1)) .nil))
        | cons r p =>
          obtain ⟨u0, us, rfl, h0, hus'⟩ : ∃ u0 us', us = u0 :: us' ∧ Tv K H u0 (rowD r) ∧ TvAll K H us' (p.map rowD) := by cases hus with | cons a b => exact ⟨_, _, rfl, a, b⟩
          obtain ⟨t, rfl, ht⟩ := row_open h0
          obtain ⟨m', rfl⟩ : ∃ m', m = m' + 1 := ⟨m - 1, by simp at pm; omega⟩
          obtain ⟨n', rfl⟩ : ∃ n', n = n' + 1 := ⟨n - 1, by simp at pn; omega⟩
          refine iteF ?_
          refine ⟨_, rfl, _, _, _, _, rfl, rfl, hua.sq, atC 0 rfl rfl, _, _, rfl, ht.sq, rfl, _, _, rfl, _, _, rfl, _, _, rfl, rfl, ?_⟩
          refine ⟨_, rfl, _, _, _, _, rfl, rfl, hta.sq, atC 1 rfl rfl, _, rfl, _, rfl, _, bs, r.1, r.2.1, rfl, htb, fun ch H1 s1 hch => ?_⟩
          refine ⟨_, rfl, _, rfl, _, _, r.2.2, rfl, hch, fun nd hnd => ?_⟩
          refine ⟨_, rfl, _, rfl, _, _, rfl, (hua.ts (Same.ts s1)).sq, fun z => ?_, fun _ p1 hp1 => ?_⟩
          · exfalso
            have := z.1
            rw [show HT.sIx ((V.ref t :: us).length) 0 (some 1) = 1 from by
              exact (HT.sIx_nat _ _ 1).trans (by simp)] at this
            cases this
          rw [cut1]
          have s2 := s1.trans (Same.new (o := .tup us) hp1)
          have hd0 := hrep.down r.1 r.2.1 r.2.2
          refine ⟨_, rfl, n', rfl, nd, .ref p1, x, _, p, ns, N, m', _, rfl, hnd.ts (Same.ts (Same.new hp1)), .tup (.inl upd_same) (hus'.ts (Same.ts s2)), hx.ts (Same.ts s2), hd0, by simp at pn; omega, by simp at pm; omega, by omega, nl, fun r' hr' => hp6 r' (List.mem_cons_of_mem _ hr'), hN, fun y H3 d3 s3 hy3 hr3 => ?_⟩
          have s4 := s2.trans s3
          have hta4 := hta.ts (Same.ts s4)
          refine ⟨_, rfl, _, _, _, _, rfl, rfl, hta4.sq, atC 0 rfl rfl, ?_⟩
          refine ⟨_, rfl, _, _, _, _, rfl, rfl, hta4.sq, atC 1 rfl rfl, _, rfl, _, rfl, _, rfl, _, rfl, _, rfl, ?_⟩
          refine ⟨ch, y, kids bs r.1 r.2.1, r.2.2, d3, N, rfl, (hch.ts (Same.ts ((Same.new hp1).trans s3))), hy3, rep_node hr3 (by omega), hbs.kids _ _, hN, fun y5 H5 cs' s5 hy5 P1 => ?_⟩
          refine ⟨tb, y5, bs, r.1, r.2.1, cs', N, rfl, (htb.ts (Same.ts (s4.trans s5))), hy5, hbs, P1.ok, hp6 r List.mem_cons_self, hN, fun y6 H6 bs' s6 hy6 P2 => ?_⟩
          refine ⟨szl rfl, fun q hq => ?_⟩
          have s7 := Same.new (o := .tup [tn, y6]) hq
          refine k _ _ (trD ns0 bs') (((s4.trans s5).trans s6).trans s7) ?_ (hrep.deep P2.ok P1.eq P2.eq hr3)
          exact .tup (.inl upd_same) (.cons (htn.ts (Same.ts (((s4.trans s5).trans s6).trans s7))) (.cons (hy6.ts (Same.ts s7)) .nil))
    induction n with
    | zero => exact hstep 0 fun n' e => by cases e
    | succ n ih =>
      rw [show 2 + (n + 1) = 1 + (n + 1) + 1 by omega]
      exact hstep (n + 1) fun n' e => by
        have : n = n' := by omega
        subst this
        exact R.dfn ih
  exact go 6
end
end My

namespace My
open PySem L2
local macro_rules | `(tactic| walk_at "ne") => `(tactic| first | assumption | exact Ne.symm (by assumption) | exact ne_of_none (by assumption) (by assumption) | exact Ne.symm (ne_of_none (by assumption) (by assumption)))
local macro_rules | `(tactic| walk_at "hp") => `(tactic| first | assumption | with_reducible exact upd_same | (with_reducible refine Eq.trans (upd_ne ?_) ?_; rotate_left; walk_at "hp"; walk_at "ne"))
local macro_rules | `(tactic| walk_at "cnd") => `(tactic| first | omega | (show (0 : Int) < _; omega) | exact ⟨by omega, by omega⟩ | exact Or.inl ⟨by omega, by omega⟩ | exact Or.inr ⟨by omega, by omega⟩ | exact ⟨by omega, by omega, by decide⟩ | exact ⟨by omega, by omega, by omega⟩)
local macro_rules | `(tactic| walk_at "at") => `(tactic| first | exact atC 0 rfl rfl | exact atC 1 rfl rfl | exact atC 2 rfl rfl | exact atC 3 rfl rfl | exact atC 4 rfl rfl | exact atC 5 rfl rfl | exact atC 6 rfl rfl | exact atC 7 rfl rfl)
local macro_rules | `(tactic| walk_at "ix") => `(tactic| first | exact ixC 0 rfl (Nat.le_of_ble_eq_true rfl) | exact ixC 1 rfl (Nat.le_of_ble_eq_true rfl) | exact ixC 2 rfl (Nat.le_of_ble_eq_true rfl) | exact ixC 3 rfl (Nat.le_of_ble_eq_true rfl) | exact ixC 4 rfl (Nat.le_of_ble_eq_true rfl) | exact ixC 5 rfl (Nat.le_of_ble_eq_true rfl))
local macro_rules | `(tactic| walk_at "st") => `(tactic| first
  | refine ⟨_, rfl, ?_⟩
  | refine ⟨_, _, rfl, rfl, (by walk_at "cnd" : (_ : Prop)), ?_⟩
  | refine ⟨_, _, rfl, rfl, ?_⟩
  | refine ⟨rfl, ?_⟩
  | refine Or.inl ⟨_, rfl, ?_⟩
  | refine ⟨_, _, _, _, rfl, rfl, by exact SqL.of (by walk_at "hp"), by walk_at "at", ?_⟩
  | refine ⟨_, _, _, _, rfl, rfl, by exact SqT.of (by walk_at "hp"), by walk_at "at", ?_⟩
  | refine ⟨_, _, _, _, rfl, rfl, by walk_at "hp", by walk_at "ix", ?_⟩
  | refine ⟨_, _, rfl, Or.inl (by exact SqL.of (by walk_at "hp")), ?_⟩
  | refine ⟨_, _, rfl, Or.inr (by exact SqT.of (by walk_at "hp")), ?_⟩)
local macro_rules | `(tactic| walk_at "so") => `(tactic| first
  | refine ⟨_, _, _, _, _, rfl, by walk_at "hp", by assumption, by assumption, rfl, ?_⟩
  | refine ⟨_, _, _, _, rfl, by walk_at "hp", by assumption, by assumption, Nat.le_of_ble_eq_true rfl, ?_⟩
  | refine ⟨_, _, _, rfl, by walk_at "hp", rfl, ?_⟩
  | walk_at "st")
local macro_rules | `(tactic| walk_at "ro") => `(tactic| repeat walk_at "so")
local macro_rules | `(tactic| walk_at "run") => `(tactic| repeat walk_at "st")

/-! ### the names that a packet meets -/
theorem nodup_len {α : Type} [DecidableEq α] : ∀ {l ns : List α}, l.Nodup → (∀ x ∈ l, x ∈ ns) → l.length ≤ ns.length
  | [], _, _, _ => Nat.zero_le _
  | x :: l, ns, h, s => by
    obtain ⟨h1, h2⟩ := List.nodup_cons.mp h
    have hx := s x List.mem_cons_self
    have := nodup_len (l := l) (ns := ns.erase x) h2 fun y hy => (List.mem_erase_of_ne (fun e => h1 (by rw [← e]; exact hy))).mpr (s y (List.mem_cons_of_mem _ hy))
    rw [List.length_erase_of_mem hx] at this
    have : 0 < ns.length := List.length_pos_of_mem hx
    simp only [List.length_cons]
    omega
def vNat (w : Nat) : PyData := .int (w : Int)
abbrev PkV (K : PySem.W.Frag) (H : Hp) (v : V) (pk : List Nat) : Prop := Tv K H v (.tuple (pk.map vNat))
theorem pk_open {K : PySem.W.Frag} {H : Hp} {v : V} {pk : List Nat} (h : PkV K H v pk) : ∃ a, v = .ref a ∧ StT K H a (pk.map fun w : Nat => V.int (w : Int)) := by
  obtain ⟨a, xs, rfl, ha, hs⟩ := Tv.tupI h
  have e : pk.map vNat = (pk.map (fun w : Nat => (w : Int))).map PyData.int := by rw [List.map_map]; rfl
  rw [e] at hs
  have := hs.ints_inv
  rw [List.map_map] at this
  subst this
  exact ⟨a, rfl, ha⟩
theorem pk_get {pk : List Nat} {i : Nat} (h : i < pk.length) : (pk.map fun w : Nat => V.int (w : Int))[i]? = some (V.int (pk.getD i 0 : Nat)) := by
  rw [List.getElem?_map, List.getElem?_eq_getElem h, List.getD_eq_getElem?_getD, List.getElem?_eq_getElem h]; rfl
def Few (f : Path → List Int) : Prop := ∃ ns : List Int, ns.length ≤ 1000 ∧ ∀ p x, x ∈ f p → x ∈ ns
theorem Few.down {f : Path → List Int} (h : Few f) (r : Row3) : Few (fun p => f (r :: p)) := by
  obtain ⟨ns, a, b⟩ := h
  exact ⟨ns, a, fun p x hx => b _ x hx⟩
def spMet (K : PySem.W.Frag) (n : Nat) : Sp := fun vs H Q _ => ∃ (v u : V) (d : PyData) (pk : List Nat) (N : Nat) (f : Path → List Int), vs = [v, u] ∧ Tv K H v d ∧ PkV K H u pk ∧ pk.length = 6 ∧ Rep N n f d ∧ Sep f ∧ Few f ∧
  ∀ y L H', Same H H' → H y = none → H' y = some (.lst (L.map V.int)) → MetL pk f L → Q (.ref y) H'
theorem Mets.few {pk : List Nat} {f : Path → List Int} {bs : List Br} {L : List Int} (h : Mets pk f bs L) (hf : Few f) : L.length ≤ 1000 := by
  obtain ⟨ns, a, b⟩ := hf
  refine Nat.le_trans (nodup_len h.nd fun x hx => ?_) a
  rcases (h.iff x).mp hx with q | ⟨_, _, p, _, q⟩
  · exact b _ x q
  · exact b _ x q
theorem MetL.few {pk : List Nat} {f : Path → List Int} {L : List Int} (h : MetL pk f L) (hf : Few f) : L.length ≤ 1000 := by
  obtain ⟨ns, a, b⟩ := hf
  refine Nat.le_trans (nodup_len h.nd fun x hx => ?_) a
  obtain ⟨p, _, q⟩ := (h.iff x).mp hx
  exact b _ x q
theorem BsOk.apart {N : Nat} {bs : List Br} (h : BsOk N bs) {j : Nat} {b : Br} (hb : bs[j]? = some b) : ∀ c ∈ bs.take j, c.1 ≠ b.1 ∨ c.2.1 ≠ b.2.1 := fun c hc => by
  obtain ⟨hj, e⟩ := List.getElem?_eq_some_iff.mp hb
  obtain ⟨i, hi, e2⟩ := List.getElem_of_mem hc
  rw [List.length_take] at hi
  rw [List.getElem_take] at e2
  have := List.pairwise_iff_getElem.mp h.up i j (by omega) hj (by omega)
  rw [e, e2] at this
  unfold brLt at this
  omega
section
variable {P : Program} {w : World} {K : PySem.W.Frag} {mg : Str → Option Value} {base : Heap} {C_Net C_NotValid : Addr}{A_EMPTY : Addr}
abbrev s_names_met : Stmt := topS 25
abbrev ns_names_met : List Str := ["tree", "packet", "names", "branches", "met", "index", "mask", "children"]
theorem sc_names_met : FnScope ns_names_met ["tree", "packet"] (defScope s_names_met) := ⟨rfl, rfl, rfl, by decide +kernel, rfl, by decide +kernel, by decide +kernel⟩

theorem ok_names_met {f : Addr} {fd : FuncData} (F : Fun K "_names_met" "_names_met" s_names_met f fd) (T : Txt K mg C_Net C_NotValid A_EMPTY) (D_child : Dfn P w K mg base CX0 1 "_child" ["children", "value"] (spChild K)) (R : Slf K mg "_names_met" f fd ["tree", "packet"]) : FnOk P w K mg base CX0 8 f fd ["tree", "packet"] (spMet K 6) := by
  have hstep : ∀ n, (∀ n', n = n' + 1 → Dfn P w K mg base CX0 (2 + n') "_names_met" ["tree", "packet"] (spMet K n')) → FnOk P w K mg base CX0 (1 + n + 1) f fd ["tree", "packet"] (spMet K n) := by
    intro n IH
    have D_names_met : Dfn P w K mg base CX0 (1 + n) "_names_met" ["tree", "packet"] (fun vs H Q E => ∃ n', n = n' + 1 ∧ spMet K n' vs H Q E) := by
      cases n with
      | zero => exact ⟨f, fd, F.ok sc_names_met (fun vs H Q E h => by obtain ⟨n', e, _⟩ := h; cases e) (fun cdv A outer s H vs Q E hr h => by obtain ⟨n', e, _⟩ := h; cases e), R.m, R.k, R.b⟩
      | succ n' =>
        have := IH n' rfl
        rw [show 1 + (n' + 1) = 2 + n' by omega]
        refine this.imp fun vs H Q E h => ?_
        obtain ⟨n2, e, h⟩ := h
        have : n' = n2 := by omega
        subst this
        exact h
    refine F.ok sc_names_met (fun vs H Q E h => ?_) (fun cdv A outer s H vs Q E hr h => ?_)
    · obtain ⟨v, u, d, pk, N, g, rfl, _⟩ := h
      rfl
    · obtain ⟨v, u, d, pk, N, g, rfl, hv, hu, hpk, hrep, hsep, hfew, k⟩ := h
      obtain ⟨ua, rfl, hua⟩ := pk_open hu
      obtain ⟨ns, bs, rfl, hns, _, hbs, hb0⟩ := hrep.names
      obtain ⟨ta, tn, tb, rfl, hta, htn, htb⟩ := tr_open hv
      obtain ⟨na, nxs, rfl, hna, hnx⟩ := Tv.tupI htn
      obtain ⟨ba, xs, rfl, hba, hbx⟩ := Tv.tupI htb
      have := hnx.ints_inv
      subst this
      refine ⟨_, (pss_cons (ps_asg (pv 0) (kpgT K (n := 2) (by rfl) (pgs_cons (pg_name (i := 2) sc_names_met.nd rfl (Or.inl rfl)) (pgs_cons (pg_name (i := 3) sc_names_met.nd rfl (Or.inl rfl)) pgs_nil))))
  (pss_cons (ps_set (i := 4) sc_names_met.nd rfl (Or.inl rfl) (pe_callTy (kListOf K) (by rfl) T.b_list (by decide +kernel) (pa_cons (pv 2) pa_nil)))
  (pss_cons (ps_for PassesOwn.never (by rfl) (kpiT K (pv 3)) (kpgT K (n := 3) (by rfl) (pgs_cons (pg_name (i := 5) sc_names_met.nd rfl (Or.inl rfl)) (pgs_cons (pg_name (i := 6) sc_names_met.nd rfl (Or.inl rfl)) (pgs_cons (pg_name (i := 7) sc_names_met.nd rfl (Or.inl rfl)) pgs_nil)))) (pss_one (ps_expr (kBM K PySem.F.plainAttrs_list PySem.F.slot_list_extend PySem.F.type_list_extend mt_extend (pv 4) (pa_cons (pe_dcall D_names_met (hr.mono (by omega)) (by rfl) pass0 (pa_cons (pe_dcall D_child (hr.mono (by omega)) (by rfl) pass0 (pa_cons (pv 7) (pa_cons (pe_op op_and (pe_ix (kIxT K) (pv 1) (pv 5) (fun _ _ => rfl)) (pv 6)) pa_nil))) (pa_cons (pv 1) pa_nil))) pa_nil)))))
  (pss_one (ps_ret (pv 4)))))), ?_⟩
      refine ⟨_, rfl, ta, _, rfl, hta.sq, rfl, _, _, rfl, _, _, rfl, rfl, ?_⟩
      refine ⟨_, rfl, _, _, rfl, .inr hna.sq, fun D hD => ?_⟩
      refine ⟨_, rfl, _, rfl, ⟨_, (hba.ts (Same.ts (Same.new hD))).sq⟩, for_tup (xs := xs) (fun j σ H' => ∃ (v5 v6 v7 : Option V) (L : List Int), σ = [some (.ref ta), some (.ref ua), some (.ref na), some (.ref ba), some (.ref D), v5, v6, v7] ∧ Same H H' ∧ H' D = some (.lst (L.map V.int)) ∧ Mets pk g (bs.take j) L) ?_ ?_ ?_ ?_⟩
      · exact ⟨none, none, none, _, rfl, Same.new hD, upd_same, by rw [List.take_zero, ← hns]; exact Mets.start hsep⟩
      · rintro j σ H' _ ⟨_, _, _, _, _, s1, _⟩
        exact (hba.ts (Same.ts s1)).sq
      · rintro j x σ H1 hj ⟨v5, v6, v7, L, rfl, s1, hL, hm⟩
        obtain ⟨e, he, hx⟩ := hbx.getV hj
        obtain ⟨b, hb, rfl⟩ := map_get he
        obtain ⟨p, c, rfl, hp, hc⟩ := br_open (hx.ts (Same.ts s1))
        have bmem := List.mem_of_getElem? hb
        have b6 := hbs.ix b bmem
        obtain ⟨n', rfl⟩ : ∃ n', n = n' + 1 := by
          cases n with
          | zero => rw [hb0 rfl] at bmem; cases bmem
          | succ n' => exact ⟨n', rfl⟩
        refine ⟨_, _, rfl, hp.sq, rfl, _, _, rfl, _, _, rfl, _, _, rfl, rfl, ?_⟩
        refine ⟨_, rfl, .inl ⟨rfl, _, SqL.of hL⟩, _, rfl, _, rfl, _, rfl, _, _, _, _, rfl, rfl, (hua.ts (Same.ts s1)).sq, atC b.1 rfl (pk_get (by omega)), _, rfl, _, _, rfl, rfl, ?_⟩
        refine ⟨c, b.2.2, pk.getD b.1 0 &&& b.2.1, by rw [← bitAnd_nat]; rfl, hc, fun y hy => ?_⟩
        have hd0 := hrep.down b.1 b.2.1 (pk.getD b.1 0 &&& b.2.1)
        rw [kids_mem hbs.up b bmem] at hd0
        refine ⟨_, rfl, n', rfl, y, .ref ua, _, pk, N, _, rfl, hy, hu.ts (Same.ts s1), hpk, hd0, hsep.down _, hfew.down _, fun z M H2 s2 hz hzM hM => ?_⟩
        have hL2 := s2 _ _ hL
        have lens := hm.few hfew
        have lens2 := hM.few (hfew.down _)
        refine ⟨_, _, _, _, rfl, rfl, hL2, hzM, szn (by rw [List.length_map, List.length_map]; omega), ?_⟩
        refine ⟨_, _, _, L ++ M, rfl, Same.mut (s1.trans s2) hD, ?_, ?_⟩
        · rw [upd_same, List.map_append]
        · rw [← take_snoc hb]
          exact hm.snoc hsep (hbs.apart hb) hM
      · rintro σ H1 ⟨v5, v6, v7, L, rfl, s1, hL, hm⟩
        rw [hbx.len, List.length_map, List.take_length] at hm
        exact ⟨_, rfl, k _ _ _ s1 hD hL (hm.done hrep)⟩
  have go : ∀ n, FnOk P w K mg base CX0 (2 + n) f fd ["tree", "packet"] (spMet K n) := by
    intro n
    induction n with
    | zero => exact hstep 0 fun n' e => by cases e
    | succ n ih =>
      rw [show 2 + (n + 1) = 1 + (n + 1) + 1 by omega]
      exact hstep (n + 1) fun n' e => by
        have : n = n' := by omega
        subst this
        exact R.dfn ih
  exact go 6
end
end My

namespace My
open PySem L2
local macro_rules | `(tactic| walk_at "ne") => `(tactic| first | assumption | exact Ne.symm (by assumption) | exact ne_of_none (by assumption) (by assumption) | exact Ne.symm (ne_of_none (by assumption) (by assumption)))
local macro_rules | `(tactic| walk_at "hp") => `(tactic| first | assumption | with_reducible exact upd_same | (with_reducible refine Eq.trans (upd_ne ?_) ?_; rotate_left; walk_at "hp"; walk_at "ne"))
local macro_rules | `(tactic| walk_at "cnd") => `(tactic| first | omega | (show (0 : Int) < _; omega) | exact ⟨by omega, by omega⟩ | exact Or.inl ⟨by omega, by omega⟩ | exact Or.inr ⟨by omega, by omega⟩ | exact ⟨by omega, by omega, by decide⟩ | exact ⟨by omega, by omega, by omega⟩)
local macro_rules | `(tactic| walk_at "at") => `(tactic| first | exact atC 0 rfl rfl | exact atC 1 rfl rfl | exact atC 2 rfl rfl | exact atC 3 rfl rfl | exact atC 4 rfl rfl | exact atC 5 rfl rfl | exact atC 6 rfl rfl | exact atC 7 rfl rfl)
local macro_rules | `(tactic| walk_at "ix") => `(tactic| first | exact ixC 0 rfl (Nat.le_of_ble_eq_true rfl) | exact ixC 1 rfl (Nat.le_of_ble_eq_true rfl) | exact ixC 2 rfl (Nat.le_of_ble_eq_true rfl) | exact ixC 3 rfl (Nat.le_of_ble_eq_true rfl) | exact ixC 4 rfl (Nat.le_of_ble_eq_true rfl) | exact ixC 5 rfl (Nat.le_of_ble_eq_true rfl))
local macro_rules | `(tactic| walk_at "st") => `(tactic| first
  | refine ⟨_, rfl, ?_⟩
  | refine ⟨_, _, rfl, rfl, (by walk_at "cnd" : (_ : Prop)), ?_⟩
  | refine ⟨_, _, rfl, rfl, ?_⟩
  | refine ⟨rfl, ?_⟩
  | refine Or.inl ⟨_, rfl, ?_⟩
  | refine ⟨_, _, _, _, rfl, rfl, by exact SqL.of (by walk_at "hp"), by walk_at "at", ?_⟩
  | refine ⟨_, _, _, _, rfl, rfl, by exact SqT.of (by walk_at "hp"), by walk_at "at", ?_⟩
  | refine ⟨_, _, _, _, rfl, rfl, by walk_at "hp", by walk_at "ix", ?_⟩
  | refine ⟨_, _, rfl, Or.inl (by exact SqL.of (by walk_at "hp")), ?_⟩
  | refine ⟨_, _, rfl, Or.inr (by exact SqT.of (by walk_at "hp")), ?_⟩)
local macro_rules | `(tactic| walk_at "so") => `(tactic| first
  | refine ⟨_, _, _, _, _, rfl, by walk_at "hp", by assumption, by assumption, rfl, ?_⟩
  | refine ⟨_, _, _, _, rfl, by walk_at "hp", by assumption, by assumption, Nat.le_of_ble_eq_true rfl, ?_⟩
  | refine ⟨_, _, _, rfl, by walk_at "hp", rfl, ?_⟩
  | walk_at "st")
local macro_rules | `(tactic| walk_at "ro") => `(tactic| repeat walk_at "so")
local macro_rules | `(tactic| walk_at "run") => `(tactic| repeat walk_at "st")

/-! ### trees of sets of filters -/
def TreeV (K : PySem.W.Frag) (H : Hp) (v : V) (S : Int → Prop) (T : Int → Path) (N : Nat) : Prop := ∃ d f, Tv K H v d ∧ Rep N 6 f d ∧ Desc f S T
theorem TreeV.ts {K : PySem.W.Frag} {H H' : Hp} {v : V} {S : Int → Prop} {T : Int → Path} {N : Nat} (s : TS H H') (h : TreeV K H v S T N) : TreeV K H' v S T N := by
  obtain ⟨d, f, a, b, c⟩ := h
  exact ⟨d, f, a.ts s, b, c⟩
theorem TreeV.congr {K : PySem.W.Frag} {H : Hp} {v : V} {S S' : Int → Prop} {T : Int → Path} {N : Nat} (h : TreeV K H v S T N) (e : ∀ x, S x ↔ S' x) : TreeV K H v S' T N := by
  obtain ⟨d, f, a, b, c⟩ := h
  exact ⟨d, f, a, b, c.congr e⟩
theorem Rep.len {N : Nat} : ∀ {n : Nat} {f : Path → List Int} {d : PyData}, Rep N n f d → ∀ p, (f p).length ≤ N
  | 0, f, d, ⟨ns, a, b, c, e⟩, p => by
    cases p with
    | nil => rw [b]; exact c
    | cons r p => rw [e]; exact Nat.zero_le _
  | n + 1, f, d, ⟨ns, bs, a, b, c, e, g⟩, p => by
    cases p with
    | nil => rw [b]; exact c
    | cons r p => exact (g r.1 r.2.1 r.2.2).len p
structure PathOk (p : Path) : Prop where
  len : p.length ≤ 6
  ix : ∀ r ∈ p, r.1 < 6
def FewS (S : Int → Prop) : Prop := ∃ ns : List Int, ns.length ≤ 1000 ∧ ∀ x, S x → x ∈ ns
theorem Desc.few {f : Path → List Int} {S : Int → Prop} {T : Int → Path} (h : Desc f S T) (hs : FewS S) : Few f := by
  obtain ⟨ns, a, b⟩ := hs
  exact ⟨ns, a, fun p x hx => b x ((h.iff p x).mp hx).1⟩
def spWithFilter (K : PySem.W.Frag) : Sp := fun vs H Q _ => ∃ (v u : V) (x : Int) (S : Int → Prop) (T : Int → Path) (N : Nat), vs = [v, .int x, u] ∧ TreeV K H v S T N ∧ PaV K H u (T x) ∧ PathOk (T x) ∧ ¬ S x ∧ N ≤ 1000 ∧
  ∀ y H', Same H H' → TreeV K H' y (fun z => S z ∨ z = x) T (N + 1) → Q y H'
def spWithout (K : PySem.W.Frag) : Sp := fun vs H Q _ => ∃ (v u : V) (x : Int) (S : Int → Prop) (T : Int → Path) (N : Nat), vs = [v, .int x, u] ∧ TreeV K H v S T N ∧ PaV K H u (T x) ∧ PathOk (T x) ∧ N ≤ 1000 ∧
  ∀ y H', Same H H' → TreeV K H' y (fun z => S z ∧ z ≠ x) T (N + 1) → Q y H'
def spFound (K : PySem.W.Frag) : Sp := fun vs H Q _ => ∃ (v u : V) (pk : List Nat) (S : Int → Prop) (T : Int → Path) (N : Nat), vs = [v, u] ∧ TreeV K H v S T N ∧ PkV K H u pk ∧ pk.length = 6 ∧ FewS S ∧
  ∀ y L H', Same H H' → H y = none → H' y = some (.lst (L.map V.int)) → Asc L → L.length ≤ 1000 → (∀ x, x ∈ L ↔ S x ∧ Met pk (T x)) → Q (.ref y) H'
def spMeets (K : PySem.W.Frag) : Sp := fun vs H Q _ => ∃ (v u : V) (p : Path) (pk : List Nat), vs = [v, u] ∧ PaV K H v p ∧ PkV K H u pk ∧ pk.length = 6 ∧ PathOk p ∧ ∀ H' (b : Bool), Same H H' → (b = true ↔ Met pk p) → Q (.bl b) H'
theorem intVi {i j : Int} : (!decide (V.int i = V.int j)) = decide (i ≠ j) := by
  by_cases h : i = j
  · subst h; simp
  · rw [decide_eq_false (fun z => h (by injection z))]; simp [h]
theorem asc_of {l : List Int} (h : l.Pairwise (· ≤ ·)) (n : l.Nodup) : Asc l := (List.pairwise_and_iff.mpr ⟨h, n⟩ : l.Pairwise fun a b => a ≤ b ∧ a ≠ b).imp fun {a b} z => by omega
/-- a comprehension over a tuple that may be the text's: ys are the elements -/
theorem lcTq {K : PySem.W.Frag} {g : TG} {te : TE} {vs : List Nat} {σ : L2.St} {H : Hp} {D : Addr} {Qd : Hp → Prop} {a : Addr} {xs : List V} (ys : List V) (hl : ys.length = xs.length) (hz : xs.length < 100000) (hx : StT K H a xs) (hD : H D = none)
    (step : ∀ (j : Nat) (x y : V) (H1 : Hp) (Q' : VK), xs[j]? = some x → ys[j]? = some y → Same H H1 → (∀ H2, Same H1 H2 → Q' y H2) → g x (wipe σ vs) H1 fun σ2 H2 => wipe σ2 vs = wipe σ vs ∧ te σ2 H2 Q')
    (k : ∀ H1, Same H H1 → H1 D = some (.lst ys) → Qd H1) :
    ∃ W : Nat → Nat → Hp → Prop, (∃ m, W 0 m (upd H D (.lst []))) ∧ ∀ i m H, W i m H →
      ((Itt K a).stop i H ∧ Qd H) ∨ ((Itt K a).go i H ∧ ∃ Nx : Hp → Prop, (∀ H', Nx H' → ∃ m', m' < m ∧ W (i + 1) m' H') ∧ ∀ x H', (Itt K a).yld i H x H' → g x (wipe σ vs) H' fun σ2 H2 => wipe σ2 vs = wipe σ vs ∧ tYes σ2 H2 fun b H3 =>
        if b = true then te σ2 H3 fun y H4 => ∃ acc, H4 D = some (.lst acc) ∧ acc.length < sizeLine ∧ Nx (upd H4 D (.lst (acc ++ [y]))) else Nx H3) := by
  refine lc_tup (K := K) (xs := xs) (fun i H1 => Same H H1 ∧ H1 D = some (.lst (ys.take i))) ⟨Same.new hD, upd_same⟩ (fun i H1 _ h => (hx.ts (Same.ts h.1)).sq) ?_ ?_
  · rintro i x H1 hi ⟨s1, d1⟩
    have hil : i < xs.length := (List.getElem?_eq_some_iff.mp hi).1
    have hy : ys[i]? = some ys[i] := List.getElem?_eq_getElem (by omega)
    refine step i x _ H1 _ hi hy s1 fun H2 s2 => ?_
    refine ⟨_, s2 _ _ d1, ?_, Same.mut (s1.trans s2) hD, ?_⟩
    · rw [List.length_take]
      exact Nat.lt_of_lt_of_le (Nat.lt_of_le_of_lt (Nat.min_le_right _ _) (by omega : ys.length < 100000)) (by decide)
    · rw [take_snoc hy]; exact upd_same
  · rintro H1 ⟨s1, d1⟩
    rw [List.take_of_length_le (by omega)] at d1
    exact k H1 s1 d1
section
variable {P : Program} {w : World} {K : PySem.W.Frag} {mg : Str → Option Value} {base : Heap} {C_Net C_NotValid : Addr}{A_EMPTY : Addr}
abbrev s_with_filter : Stmt := topS 22
abbrev ns_with_filter : List Str := ["tree", "name", "tests", "names"]
theorem sc_with_filter : FnScope ns_with_filter ["tree", "name", "tests"] (defScope s_with_filter) := ⟨rfl, rfl, rfl, by decide +kernel, rfl, by decide +kernel, by decide +kernel⟩

theorem ok_with_filter {f : Addr} {fd : FuncData} (F : Fun K "with_filter" "with_filter" s_with_filter f fd) (T : Txt K mg C_Net C_NotValid A_EMPTY) (D_names_behind : Dfn P w K mg base CX0 2 "_names_behind" ["tree", "tests"] (spBehind K)) (D_with_names_behind : Dfn P w K mg base CX0 8 "_with_names_behind" ["tree", "tests", "names"] (spSet K 6)) : FnOk P w K mg base CX0 9 f fd ["tree", "name", "tests"] (spWithFilter K) := by
  refine F.ok sc_with_filter (fun vs H Q E h => ?_) (fun cdv A outer s H vs Q E hr h => ?_)
  · obtain ⟨v, u, x, S, Tt, N, rfl, _⟩ := h
    rfl
  · obtain ⟨v, u, x, S, Tt, N, rfl, ⟨d, g, hv, hrep, hd⟩, hu, hp, hS, hN, k⟩ := h
    refine ⟨_, (pss_cons (ps_set (i := 3) sc_with_filter.nd rfl (Or.inl rfl) (pe_dcall D_names_behind (hr.mono (by decide)) (by rfl) pass0 (pa_cons (pv 0) (pa_cons (pv 2) pa_nil))))
  (pss_one (ps_ret (pe_dcall D_with_names_behind (hr.mono (by decide)) (by rfl) pass0 (pa_cons (pv 0) (pa_cons (pv 2) (pa_cons (pe_callTy (kTupOf K) (by rfl) T.b_tuple (by decide +kernel) (pa_cons (pe_callB cr_sortedI (by rfl) T.b_sorted (by decide +kernel) (pa_cons (pe_lst (StX.pa_star (pv 3) (pa_cons (pv 1) pa_nil))) pa_nil)) pa_nil)) pa_nil))))))), ?_⟩
    refine ⟨_, rfl, _, rfl, v, u, d, Tt x, N, 6, g, rfl, hv, hu, hrep, fun vn H1 s1 hn => ?_⟩
    obtain ⟨na, nxs, rfl, hna, hnx⟩ := Tv.tupI hn
    have := hnx.ints_inv
    subst this
    refine ⟨_, rfl, _, rfl, ?_⟩
    refine ⟨_, rfl, _, _, rfl, .inl hna.sq, _, rfl, szn (by have := hrep.len (Tt x); simp; omega), fun D hD => ?_⟩
    refine ⟨D, g (Tt x) ++ [x], rfl, SqL.of (by rw [upd_same, List.map_append]; rfl), fun ns D2 hperm hs2 hD2 => ?_⟩
    refine ⟨_, _, rfl, .inl ⟨SqL.of upd_same, fun q hq => ?_⟩⟩
    have s2 := ((Same.new (o := .lst ((g (Tt x)).map V.int ++ [V.int x])) hD).trans (Same.new (o := .lst (ns.map V.int)) hD2)).trans (Same.new (o := .tup (ns.map V.int)) hq)
    have s3 := s1.trans s2
    refine ⟨v, u, .ref q, d, Tt x, ns, N, 6, g, rfl, hv.ts (Same.ts s3), hu.ts (Same.ts s3), .tup (.inl upd_same) (TvAll.ints ns), hrep, hp.len, hp.len, by decide, by rw [hperm.length_eq]; have := hrep.len (Tt x); simp; omega, hp.ix, hN, fun y H' d' s4 hy hr' => ?_⟩
    exact k y H' (s3.trans s4) ⟨d', _, hy, hr', hd.add hS hperm hs2⟩
abbrev s_without_filter : Stmt := topS 23
abbrev ns_without_filter : List Str := ["tree", "name", "tests", "names", "other"]
theorem sc_without_filter : FnScope ns_without_filter ["tree", "name", "tests"] (defScope s_without_filter) := ⟨rfl, rfl, rfl, by decide +kernel, rfl, by decide +kernel, by decide +kernel⟩

theorem ok_without_filter {f : Addr} {fd : FuncData} (F : Fun K "without_filter" "without_filter" s_without_filter f fd) (T : Txt K mg C_Net C_NotValid A_EMPTY) (D_names_behind : Dfn P w K mg base CX0 2 "_names_behind" ["tree", "tests"] (spBehind K)) (D_with_names_behind : Dfn P w K mg base CX0 8 "_with_names_behind" ["tree", "tests", "names"] (spSet K 6)) : FnOk P w K mg base CX0 9 f fd ["tree", "name", "tests"] (spWithout K) := by
  refine F.ok sc_without_filter (fun vs H Q E h => ?_) (fun cdv A outer s H vs Q E hr h => ?_)
  · obtain ⟨v, u, x, S, Tt, N, rfl, _⟩ := h
    rfl
  · obtain ⟨v, u, x, S, Tt, N, rfl, ⟨d, g, hv, hrep, hd⟩, hu, hp, hN, k⟩ := h
    refine ⟨_, (pss_cons (ps_set (i := 3) sc_without_filter.nd rfl (Or.inl rfl) (pe_dcall D_names_behind (hr.mono (by decide)) (by rfl) pass0 (pa_cons (pv 0) (pa_cons (pv 2) pa_nil))))
  (pss_one (ps_ret (pe_dcall D_with_names_behind (hr.mono (by decide)) (by rfl) pass0 (pa_cons (pv 0) (pa_cons (pv 2) (pa_cons (pe_callTy (kTupOf K) (by rfl) T.b_tuple (by decide +kernel) (pa_cons (pe_lc (own := [("other", 4)]) (by rfl) sc_without_filter.nd (kpiT K (pv 3)) (blkOk_by (N := ns_without_filter) (sc := defScope s_without_filter) (by decide +kernel)) (fun _ _ _ _ _ => (pg_name (i := 4) sc_without_filter.nd rfl (Or.inl rfl))) (fun _ _ _ _ _ => (pts_one (pt_cmpR op_ne (pv 4) (pv 1) (nomark _)))) (fun _ _ _ _ _ => (pv 4))) pa_nil)) pa_nil))))))), ?_⟩
    refine ⟨_, rfl, _, rfl, v, u, d, Tt x, N, 6, g, rfl, hv, hu, hrep, fun vn H1 s1 hn => ?_⟩
    obtain ⟨na, nxs, rfl, hna, hnx⟩ := Tv.tupI hn
    have := hnx.ints_inv
    subst this
    have hlen := hrep.len (Tt x)
    refine ⟨_, rfl, _, rfl, ?_⟩
    refine ⟨_, rfl, _, rfl, ⟨_, hna.sq⟩, fun D hD => lc_tup (xs := (g (Tt x)).map V.int) (fun j H2 => Same H1 H2 ∧ H2 D = some (.lst ((((g (Tt x)).take j).filter (fun y => decide (y ≠ x))).map V.int))) ?_ ?_ ?_ ?_⟩
    · exact ⟨Same.new hD, upd_same⟩
    · rintro j H2 _ ⟨s2, _⟩
      exact (hna.ts (Same.ts s2)).sq
    · rintro j y H2 hj ⟨s2, hys⟩
      obtain ⟨n, hn1, rfl⟩ := map_get hj
      refine ⟨rfl, _, rfl, _, rfl, rfl, _, rfl, ?_⟩
      rw [intVi]
      have ylen : (((g (Tt x)).take j).filter (fun y => decide (y ≠ x))).length ≤ N := by
        have l2 := List.length_filter_le (fun y => decide (y ≠ x)) ((g (Tt x)).take j)
        have l3 := List.length_take_le' j (g (Tt x))
        omega
      refine iteD (fun e => ?_) (fun e => ?_)
      · refine ⟨_, rfl, _, hys, szt (by rw [List.length_map]; omega), Same.mut s2 hD, ?_⟩
        rw [upd_same, ← take_snoc hn1, filter_snoc, if_pos (by simpa using e), List.map_append]; rfl
      · refine ⟨s2, ?_⟩
        rw [← take_snoc hn1, filter_snoc, if_neg (by simpa using e), List.append_nil]
        exact hys
    · rintro H2 ⟨s2, hys⟩
      rw [List.length_map, List.take_length] at hys
      refine ⟨_, _, rfl, .inl ⟨SqL.of hys, fun q hq => ?_⟩⟩
      have s3 := (s1.trans s2).trans (Same.new (o := .tup (((g (Tt x)).filter (fun y => decide (y ≠ x))).map V.int)) hq)
      refine ⟨v, u, .ref q, d, Tt x, _, N, 6, g, rfl, hv.ts (Same.ts s3), hu.ts (Same.ts s3), .tup (.inl upd_same) (TvAll.ints _), hrep, hp.len, hp.len, by decide, ?_, hp.ix, hN, fun y H' d' s4 hy hr' => ?_⟩
      · have l2 := List.length_filter_le (fun y => decide (y ≠ x)) (g (Tt x))
        omega
      · exact k y H' (s3.trans s4) ⟨d', _, hy, hr', hd.del⟩
abbrev s_found : Stmt := topS 24
abbrev ns_found : List Str := ["tree", "packet"]
theorem sc_found : FnScope ns_found ["tree", "packet"] (defScope s_found) := ⟨rfl, rfl, rfl, by decide +kernel, rfl, by decide +kernel, by decide +kernel⟩

theorem ok_found {f : Addr} {fd : FuncData} (F : Fun K "found" "found" s_found f fd) (T : Txt K mg C_Net C_NotValid A_EMPTY) (D_names_met : Dfn P w K mg base CX0 8 "_names_met" ["tree", "packet"] (spMet K 6)) : FnOk P w K mg base CX0 9 f fd ["tree", "packet"] (spFound K) := by
  refine F.ok sc_found (fun vs H Q E h => ?_) (fun cdv A outer s H vs Q E hr h => ?_)
  · obtain ⟨v, u, pk, S, Tt, N, rfl, _⟩ := h
    rfl
  · obtain ⟨v, u, pk, S, Tt, N, rfl, ⟨d, g, hv, hrep, hd⟩, hu, hpk, hS, k⟩ := h
    refine ⟨_, (pss_one (ps_ret (pe_callB cr_sortedI (by rfl) T.b_sorted (by decide +kernel) (pa_cons (pe_dcall D_names_met (hr.mono (by decide)) (by rfl) pass0 (pa_cons (pv 0) (pa_cons (pv 1) pa_nil))) pa_nil)))), ?_⟩
    refine ⟨_, rfl, _, rfl, v, u, d, pk, N, g, rfl, hv, hu, hpk, hrep, hd.sep, hd.few hS, fun y L H1 s1 hy hL hm => ?_⟩
    refine ⟨y, L, rfl, SqL.of hL, fun ns p hperm hs hp => ?_⟩
    refine k p ns _ (s1.trans (Same.new hp)) (s1.free hp) upd_same (asc_of hs (hperm.nodup_iff.mpr hm.nd)) (by rw [hperm.length_eq]; exact hm.few (hd.few hS)) fun x => ?_
    rw [hperm.mem_iff, hd.met hm]
end
end My

namespace My
open PySem L2
local macro_rules | `(tactic| walk_at "ne") => `(tactic| first | assumption | exact Ne.symm (by assumption) | exact ne_of_none (by assumption) (by assumption) | exact Ne.symm (ne_of_none (by assumption) (by assumption)))
local macro_rules | `(tactic| walk_at "hp") => `(tactic| first | assumption | with_reducible exact upd_same | (with_reducible refine Eq.trans (upd_ne ?_) ?_; rotate_left; walk_at "hp"; walk_at "ne"))
local macro_rules | `(tactic| walk_at "cnd") => `(tactic| first | omega | (show (0 : Int) < _; omega) | exact ⟨by omega, by omega⟩ | exact Or.inl ⟨by omega, by omega⟩ | exact Or.inr ⟨by omega, by omega⟩ | exact ⟨by omega, by omega, by decide⟩ | exact ⟨by omega, by omega, by omega⟩)
local macro_rules | `(tactic| walk_at "at") => `(tactic| first | exact atC 0 rfl rfl | exact atC 1 rfl rfl | exact atC 2 rfl rfl | exact atC 3 rfl rfl | exact atC 4 rfl rfl | exact atC 5 rfl rfl | exact atC 6 rfl rfl | exact atC 7 rfl rfl)
local macro_rules | `(tactic| walk_at "ix") => `(tactic| first | exact ixC 0 rfl (Nat.le_of_ble_eq_true rfl) | exact ixC 1 rfl (Nat.le_of_ble_eq_true rfl) | exact ixC 2 rfl (Nat.le_of_ble_eq_true rfl) | exact ixC 3 rfl (Nat.le_of_ble_eq_true rfl) | exact ixC 4 rfl (Nat.le_of_ble_eq_true rfl) | exact ixC 5 rfl (Nat.le_of_ble_eq_true rfl))
local macro_rules | `(tactic| walk_at "st") => `(tactic| first
  | refine ⟨_, rfl, ?_⟩
  | refine ⟨_, _, rfl, rfl, (by walk_at "cnd" : (_ : Prop)), ?_⟩
  | refine ⟨_, _, rfl, rfl, ?_⟩
  | refine ⟨rfl, ?_⟩
  | refine Or.inl ⟨_, rfl, ?_⟩
  | refine ⟨_, _, _, _, rfl, rfl, by exact SqL.of (by walk_at "hp"), by walk_at "at", ?_⟩
  | refine ⟨_, _, _, _, rfl, rfl, by exact SqT.of (by walk_at "hp"), by walk_at "at", ?_⟩
  | refine ⟨_, _, _, _, rfl, rfl, by walk_at "hp", by walk_at "ix", ?_⟩
  | refine ⟨_, _, rfl, Or.inl (by exact SqL.of (by walk_at "hp")), ?_⟩
  | refine ⟨_, _, rfl, Or.inr (by exact SqT.of (by walk_at "hp")), ?_⟩)
local macro_rules | `(tactic| walk_at "so") => `(tactic| first
  | refine ⟨_, _, _, _, _, rfl, by walk_at "hp", by assumption, by assumption, rfl, ?_⟩
  | refine ⟨_, _, _, _, rfl, by walk_at "hp", by assumption, by assumption, Nat.le_of_ble_eq_true rfl, ?_⟩
  | refine ⟨_, _, _, rfl, by walk_at "hp", rfl, ?_⟩
  | walk_at "st")
local macro_rules | `(tactic| walk_at "ro") => `(tactic| repeat walk_at "so")
local macro_rules | `(tactic| walk_at "run") => `(tactic| repeat walk_at "st")

/-! ### the net -/
theorem Dt.tvI {K : PySem.W.Frag} {H : Hp} : ∀ {rs : List Row3} {v : V}, Dt H v (fD rs) → PaV K H v rs := fun {rs v} h => by
  obtain ⟨a, xs, rfl, ha, hl, hx⟩ := fD_open h
  refine .tup (.inl ha) ?_
  have : ∀ {rs : List Row3} {xs : List V}, xs.length = rs.length → (∀ (i : Nat) (x : V), xs[i]? = some x → ∃ (r : Row3) (t : Addr), rs[i]? = some r ∧ x = .ref t ∧ H t = some (.tup (rowV r))) → TvAll K H xs (rs.map rowD) := fun {rs} => by
    induction rs with
    | nil => intro xs hl _; cases xs with
      | nil => exact .nil
      | cons _ _ => simp at hl
    | cons r rs ih => intro xs hl hx; cases xs with
      | nil => simp at hl
      | cons x xs =>
        obtain ⟨r', t, e, rfl, ht⟩ := hx 0 x rfl
        cases e
        exact .cons (.tup (.inl ht) (.cons (.int _) (.cons (.int _) (.cons (.int _) .nil)))) (ih (by simpa using hl) fun i y e => hx (i + 1) y (by simpa using e))
  exact this hl hx
theorem Dt.tvP {K : PySem.W.Frag} {H : Hp} {ws : List Nat} {v : V} (h : Dt H v (pD ws)) : PkV K H v ws := by
  obtain ⟨a, rfl, ha⟩ := pD_open h
  refine .tup (.inl ha) ?_
  have e1 : ws.map vNat = (ws.map (fun w : Nat => (w : Int))).map PyData.int := by rw [List.map_map]; rfl
  have e2 : ws.map vN = (ws.map (fun w : Nat => (w : Int))).map V.int := by rw [List.map_map]; rfl
  rw [e1, e2]
  exact TvAll.ints _
theorem Good.path {p : List Row3} (g : Good p) : PathOk p := ⟨g.2.2, fun r hr => (g.2.1 r hr).1⟩
theorem met_iff {p : List Row3} {ws : List Nat} : meetsM p ws = true ↔ Met ws p := by
  unfold meetsM Met
  rw [List.all_eq_true]
  exact ⟨fun h r hr => of_decide_eq_true (h r hr), fun h r hr => decide_eq_true (h r hr)⟩
structure Ent where
  nm : Int
  ev : Nat
  ts : List Row3
  rg : List (List Nat)
abbrev Regs := List (Option (List Row3))
def prs (R : Regs) (E : List Ent) : List (Nat × List Row3) := R.zipIdx.filterMap (fun q => q.1.map fun p => (q.2, p)) ++ E.map fun e => (e.ev, e.ts)
def sharedM (R : Regs) (E : List Ent) (ev : Nat) (ts : List Row3) : Option (List Nat) := (prs R E).findSome? fun q => if q.1 = ev then none else commonM q.2 ts
structure RegsV (H : Hp) (vs : List V) (R : Regs) : Prop where
  len : vs.length = R.length
  at_ : ∀ (j : Nat) (r : Option (List Row3)), R[j]? = some r → ∃ v, vs[j]? = some v ∧ ((r = none ∧ v = .non) ∨ ∃ p, r = some p ∧ Dt H v (fD p))
theorem RegsV.ts {H H' : Hp} {vs : List V} {R : Regs} (h : RegsV H vs R) (s : TS H H') : RegsV H' vs R := ⟨h.len, fun j r e => by
  obtain ⟨v, a, b⟩ := h.at_ j r e
  refine ⟨v, a, ?_⟩
  rcases b with b | ⟨p, b, c⟩
  · exact .inl b
  · exact .inr ⟨p, b, c.ts s (fD_tonly p)⟩⟩
def RegOk (R : Regs) : Prop := ∀ r ∈ R, ∀ p, r = some p → Good p
structure NA where
  (x dx Lr De Dr Ls : Addr)
def netL (k : Nat) : Prop := k = 1 ∨ k = 2 ∨ k = 3 ∨ k = 4 ∨ (10 ≤ k ∧ k % 2 = 0)
def rgL (n : Int) : Nat := 10 + 2 * n.toNat
def flds (A : NA) (y : V) (last lost : Int) : List (Str × V) := [("_regions", .ref A.Lr), ("_enrolled", .ref A.De), ("_rings", .ref A.Dr), ("_tree", y), ("_last_name", .int last), ("_sent", .ref A.Ls), ("_lost", .int lost)]
def entD (e : Ent) : PyData := .tuple [.int e.ev, fD e.ts]
theorem entD_tonly (e : Ent) : tonly (entD e) = true := by
  show tonlyAll [.int e.ev, fD e.ts] = true
  unfold tonlyAll
  rw [show tonly (.int e.ev) = true from rfl]
  unfold tonlyAll
  rw [fD_tonly]; rfl
/-- a dict by names beside the entries -/
inductive Al (Rl : Ent → V → Prop) : List (L2.Key × V) → List Ent → Prop
  | nil : Al Rl [] []
  | cons {e : Ent} {v : V} {kvs : List (L2.Key × V)} {E : List Ent} : Rl e v → Al Rl kvs E → Al Rl ((Sum.inl e.nm, v) :: kvs) (e :: E)
def findE (E : List Ent) (n : Int) : Option Ent := E.find? fun e => decide (e.nm = n)
section
variable {Rl Rl' : Ent → V → Prop}
theorem Al.imp (h : ∀ e v, Rl e v → Rl' e v) : ∀ {kvs : List (L2.Key × V)} {E : List Ent}, Al Rl kvs E → Al Rl' kvs E
  | _, _, .nil => .nil
  | _, _, .cons a b => .cons (h _ _ a) (b.imp h)
theorem Al.map {g : Ent → Ent} (hn : ∀ e, (g e).nm = e.nm) {kvs : List (L2.Key × V)} {E : List Ent} (h : ∀ e ∈ E, ∀ v, Rl e v → Rl' (g e) v) (x : Al Rl kvs E) : Al Rl' kvs (E.map g) := by
  induction x with
  | nil => exact .nil
  | @cons e v kvs E a b ih =>
    have := Al.cons (Rl := Rl') (h e List.mem_cons_self _ a) (ih fun e he => h e (List.mem_cons_of_mem _ he))
    rw [hn] at this
    exact this
theorem Al.len : ∀ {kvs : List (L2.Key × V)} {E : List Ent}, Al Rl kvs E → kvs.length = E.length
  | _, _, .nil => rfl
  | _, _, .cons _ b => by rw [List.length_cons, List.length_cons, b.len]
theorem Al.keys : ∀ {kvs : List (L2.Key × V)} {E : List Ent}, Al Rl kvs E → kvs.map (·.1) = (E.map (·.nm)).map Sum.inl
  | _, _, .nil => rfl
  | _, _, .cons _ b => by rw [List.map_cons, List.map_cons, List.map_cons, b.keys]
theorem Al.snoc {e : Ent} {v : V} (hv : Rl e v) : ∀ {kvs : List (L2.Key × V)} {E : List Ent}, Al Rl kvs E → Al Rl (kvs ++ [(Sum.inl e.nm, v)]) (E ++ [e])
  | _, _, .nil => .cons hv .nil
  | _, _, .cons a b => .cons a (b.snoc hv)
theorem Al.none (n : Int) : ∀ {kvs : List (L2.Key × V)} {E : List Ent}, Al Rl kvs E → findE E n = Option.none → valV kvs (Sum.inl n : L2.Key) = Option.none
  | _, _, .nil, _ => rfl
  | _, _, .cons (e := e) a b, h => by
    unfold findE at h
    by_cases q : e.nm = n
    · rw [List.find?_cons_of_pos (by simpa using q)] at h; cases h
    · rw [List.find?_cons_of_neg (by simpa using q)] at h
      rw [valV_neg (fun z => q (Sum.inl.inj z))]
      exact b.none n h
theorem Al.some (n : Int) {e : Ent} : ∀ {kvs : List (L2.Key × V)} {E : List Ent}, Al Rl kvs E → findE E n = Option.some e → ∃ v, valV kvs (Sum.inl n : L2.Key) = Option.some v ∧ Rl e v
  | _, _, .nil, h => by cases h
  | _, _, .cons (e := e') (v := v) a b, h => by
    unfold findE at h
    by_cases q : e'.nm = n
    · rw [List.find?_cons_of_pos (by simpa using q)] at h
      cases h
      exact ⟨v, valV_pos (by rw [← q]), a⟩
    · rw [List.find?_cons_of_neg (by simpa using q)] at h
      rw [valV_neg (fun z => q (Sum.inl.inj z))]
      exact b.some n h
theorem Al.drop (n : Int) : ∀ {kvs : List (L2.Key × V)} {E : List Ent}, Al Rl kvs E → Al Rl (dropK kvs (Sum.inl n : L2.Key)) (E.filter fun e => decide (e.nm ≠ n))
  | _, _, .nil => .nil
  | _, _, .cons (e := e) a b => by
    by_cases q : e.nm = n
    · rw [dropK_pos (by rw [q]), List.filter_cons_of_neg (by simp [q])]
      exact b.drop n
    · rw [dropK_neg (fun z => q (Sum.inl.inj z)), List.filter_cons_of_pos (by simp [q])]
      exact .cons a (b.drop n)
theorem Al.at : ∀ {kvs : List (L2.Key × V)} {E : List Ent} {j : Nat} {e : Ent}, Al Rl kvs E → E[j]? = Option.some e → ∃ v, kvs[j]? = Option.some (Sum.inl e.nm, v) ∧ Rl e v
  | _, _, j, _, .nil, h => by simp at h
  | _, _, 0, _, .cons a _, h => by cases h; exact ⟨_, rfl, a⟩
  | _, _, j + 1, _, .cons _ b, h => by
    obtain ⟨v, q, r⟩ := b.at (j := j) (by simpa using h)
    exact ⟨v, by simpa using q, r⟩
end
theorem findE_mem {E : List Ent} {n : Int} {e : Ent} (h : findE E n = some e) : e ∈ E ∧ e.nm = n := ⟨List.mem_of_find?_eq_some h, by have := List.find?_some h; simpa using this⟩
theorem findE_none {E : List Ent} {n : Int} (h : findE E n = none) : ∀ e ∈ E, e.nm ≠ n := fun e he q => List.find?_eq_none.mp h e he (by simpa using q)
theorem findE_of {E : List Ent} {e : Ent} (h : Asc (E.map (·.nm))) (he : e ∈ E) : findE E e.nm = some e := by
  induction E with
  | nil => cases he
  | cons x E ih =>
    obtain ⟨h1, h2⟩ := List.pairwise_cons.mp (show ((x.nm) :: E.map (·.nm)).Pairwise (· < ·) from h)
    unfold findE
    rcases List.mem_cons.mp he with q | q
    · subst q; rw [List.find?_cons_of_pos (by simp)]
    · have := h1 e.nm (List.mem_map.mpr ⟨e, q, rfl⟩)
      rw [List.find?_cons_of_neg (by simp; omega)]
      exact ih h2 q
abbrev enR (H : Hp) (e : Ent) (v : V) : Prop := Dt H v (entD e)
def riR (H : Hp) (ρ : Addr → Nat) (e : Ent) (v : V) : Prop := ∃ a ps, v = .ref a ∧ ρ a = rgL e.nm ∧ H a = some (.lst ps) ∧ DtAll H ps (e.rg.map pD)
structure NtOk (K : PySem.W.Frag) (C : Addr) (H : Hp) (ρ : Addr → Nat) (A : NA) (R : Regs) (E : List Ent) (last lost : Int) (sent : List (List Nat)) (N : Nat) (y : V) : Prop where
  ins : H A.x = some (.ins C A.dx (flds A y last lost))
  rg : ∃ vs, H A.Lr = some (.lst vs) ∧ RegsV H vs R
  en : ∃ kvs, H A.De = some (.dK kvs) ∧ Al (enR H) kvs E
  ri : ∃ kvs, H A.Dr = some (.dK kvs) ∧ Al (riR H ρ) kvs E
  tree : ∃ Tt, TreeV K H y (fun z => z ∈ E.map (·.nm)) Tt N ∧ ∀ e ∈ E, Tt e.nm = e.ts
  se : ∃ ps, H A.Ls = some (.lst ps) ∧ DtAll H ps (sent.map pD)
  asc : Asc (E.map (·.nm))
  ent : ∀ e ∈ E, 1 ≤ e.nm ∧ e.nm ≤ last ∧ Good e.ts ∧ e.ev < 4 ∧ e.rg.length ≤ 8
  rok : RegOk R
  rlen : R.length = 4
  l0 : 0 ≤ last
  bd : last ≤ 500 ∧ N ≤ 500 ∧ sent.length ≤ 500 ∧ E.length ≤ 500
  lx : ρ A.x = 1
  lDe : ρ A.De = 2
  lDr : ρ A.Dr = 3
  lLs : ρ A.Ls = 4
  lLr : ρ A.Lr = 5
theorem tonlyPs : ∀ (l : List (List Nat)), tonlyAll (l.map pD) = true
  | [] => rfl
  | p :: l => by
    rw [List.map_cons]
    unfold tonlyAll
    rw [pD_tonly, tonlyPs l]; rfl
theorem riR.keep {H H' : Hp} {ρ ρ' : Addr → Nat} {e : Ent} {v : V} (h : riR H ρ e v) (k : ∀ b o, H b = some o → ρ b = rgL e.nm → H' b = some o) (s : TS H H') (r : ∀ b o, H b = some o → ρ' b = ρ b) : riR H' ρ' e v := by
  obtain ⟨a, ps, h1, h2, h3, h4⟩ := h
  exact ⟨a, ps, h1, (r _ _ h3).trans h2, k _ _ h3 h2, h4.ts s (tonlyPs _)⟩
section
variable {K : PySem.W.Frag} {C : Addr} {H H' : Hp} {ρ ρ' : Addr → Nat} {A : NA} {R : Regs} {E : List Ent} {last lost : Int} {sent : List (List Nat)} {N : Nat} {y : V}
theorem NtOk.keep (h : NtOk K C H ρ A R E last lost sent N y) (k : ∀ b o, H b = some o → netL (ρ b) ∨ ρ b = 5 → H' b = some o) (s : TS H H') (r : ∀ b o, H b = some o → ρ' b = ρ b) : NtOk K C H' ρ' A R E last lost sent N y := by
  obtain ⟨rv, r1, r2⟩ := h.rg
  obtain ⟨ek, e1, e2⟩ := h.en
  obtain ⟨ik, i1, i2⟩ := h.ri
  obtain ⟨Tt, t1, t2⟩ := h.tree
  obtain ⟨sp, s1, s2⟩ := h.se
  exact ⟨k _ _ h.ins (.inl (.inl h.lx)), ⟨rv, k _ _ r1 (.inr h.lLr), r2.ts s⟩, ⟨ek, k _ _ e1 (.inl (.inr (.inl h.lDe))), e2.imp fun e v q => q.ts s (entD_tonly e)⟩,
    ⟨ik, k _ _ i1 (.inl (.inr (.inr (.inl h.lDr)))), i2.imp fun e v q => q.keep (fun b o e' l => k b o e' (.inl (.inr (.inr (.inr (.inr (by rw [l]; unfold rgL; omega))))))) s r⟩, ⟨Tt, t1.ts s, t2⟩,
    ⟨sp, k _ _ s1 (.inl (.inr (.inr (.inr (.inl h.lLs))))), s2.ts s (tonlyPs _)⟩, h.asc, h.ent, h.rok, h.rlen, h.l0, h.bd, (r _ _ h.ins).trans h.lx, (r _ _ e1).trans h.lDe, (r _ _ i1).trans h.lDr, (r _ _ s1).trans h.lLs, (r _ _ r1).trans h.lLr⟩
theorem NtOk.same (h : NtOk K C H ρ A R E last lost sent N y) (s : Same H H') : NtOk K C H' ρ A R E last lost sent N y := h.keep (fun b o e _ => s b o e) (Same.ts s) fun _ _ _ => rfl
/-- what a method of the net may change -/
def NetChg (ρ : Addr → Nat) (H H' : Hp) : Prop := ∀ b o, H b = some o → ¬ netL (ρ b) → H' b = some o
end
end My

namespace My
open PySem L2
local macro_rules | `(tactic| walk_at "ne") => `(tactic| first | assumption | exact Ne.symm (by assumption) | exact ne_of_none (by assumption) (by assumption) | exact Ne.symm (ne_of_none (by assumption) (by assumption)))
local macro_rules | `(tactic| walk_at "hp") => `(tactic| first | assumption | with_reducible exact upd_same | (with_reducible refine Eq.trans (upd_ne ?_) ?_; rotate_left; walk_at "hp"; walk_at "ne"))
local macro_rules | `(tactic| walk_at "cnd") => `(tactic| first | omega | (show (0 : Int) < _; omega) | exact ⟨by omega, by omega⟩ | exact Or.inl ⟨by omega, by omega⟩ | exact Or.inr ⟨by omega, by omega⟩ | exact ⟨by omega, by omega, by decide⟩ | exact ⟨by omega, by omega, by omega⟩)
local macro_rules | `(tactic| walk_at "at") => `(tactic| first | exact atC 0 rfl rfl | exact atC 1 rfl rfl | exact atC 2 rfl rfl | exact atC 3 rfl rfl | exact atC 4 rfl rfl | exact atC 5 rfl rfl | exact atC 6 rfl rfl | exact atC 7 rfl rfl)
local macro_rules | `(tactic| walk_at "ix") => `(tactic| first | exact ixC 0 rfl (Nat.le_of_ble_eq_true rfl) | exact ixC 1 rfl (Nat.le_of_ble_eq_true rfl) | exact ixC 2 rfl (Nat.le_of_ble_eq_true rfl) | exact ixC 3 rfl (Nat.le_of_ble_eq_true rfl) | exact ixC 4 rfl (Nat.le_of_ble_eq_true rfl) | exact ixC 5 rfl (Nat.le_of_ble_eq_true rfl))
local macro_rules | `(tactic| walk_at "st") => `(tactic| first
  | refine ⟨_, rfl, ?_⟩
  | refine ⟨_, _, rfl, rfl, (by walk_at "cnd" : (_ : Prop)), ?_⟩
  | refine ⟨_, _, rfl, rfl, ?_⟩
  | refine ⟨rfl, ?_⟩
  | refine Or.inl ⟨_, rfl, ?_⟩
  | refine ⟨_, _, _, _, rfl, rfl, by exact SqL.of (by walk_at "hp"), by walk_at "at", ?_⟩
  | refine ⟨_, _, _, _, rfl, rfl, by exact SqT.of (by walk_at "hp"), by walk_at "at", ?_⟩
  | refine ⟨_, _, _, _, rfl, rfl, by walk_at "hp", by walk_at "ix", ?_⟩
  | refine ⟨_, _, rfl, Or.inl (by exact SqL.of (by walk_at "hp")), ?_⟩
  | refine ⟨_, _, rfl, Or.inr (by exact SqT.of (by walk_at "hp")), ?_⟩)
local macro_rules | `(tactic| walk_at "so") => `(tactic| first
  | refine ⟨_, _, _, _, _, rfl, by walk_at "hp", by assumption, by assumption, rfl, ?_⟩
  | refine ⟨_, _, _, _, rfl, by walk_at "hp", by assumption, by assumption, Nat.le_of_ble_eq_true rfl, ?_⟩
  | refine ⟨_, _, _, rfl, by walk_at "hp", rfl, ?_⟩
  | walk_at "st")
local macro_rules | `(tactic| walk_at "ro") => `(tactic| repeat walk_at "so")
local macro_rules | `(tactic| walk_at "run") => `(tactic| repeat walk_at "st")

def spEnv : Sp := fun vs H Q _ => ∃ (e : Nat), vs = [.int e] ∧ e < 4 ∧ Q (.bl true) H
section
variable {P : Program} {w : World} {K : PySem.W.Frag} {mg : Str → Option Value} {base : Heap} {C_Net C_NotValid : Addr}{A_EMPTY : Addr}
/-- a net at its place -/
structure NtX (K : PySem.W.Frag) (C : Addr) (H : Hp) (ρ : Addr → Nat) (A : NA) (R : Regs) (E : List Ent) (last lost : Int) (sent : List (List Nat)) : Prop where
  ex : ∃ y, NtOk K C H ρ A R E last lost sent 500 y
def spIsName (K : PySem.W.Frag) (C : Addr) : Sp := fun vs H Q _ => ∃ (ρ : Addr → Nat) (A : NA) (R : Regs) (E : List Ent) (last lost : Int) (sent : List (List Nat)) (N : Nat) (y : V) (n : Int), vs = [.ref A.x, .int n] ∧ NtOk K C H ρ A R E last lost sent N y ∧ Q (.bl (findE E n).isSome) H
def isMine (E : List Ent) (ev : Nat) (n : Int) : Bool := match findE E n with
  | some e => decide (e.ev = ev)
  | none => false
def spIsEn (K : PySem.W.Frag) (C : Addr) : Sp := fun vs H Q _ => ∃ (ρ : Addr → Nat) (A : NA) (R : Regs) (E : List Ent) (last lost : Int) (sent : List (List Nat)) (N : Nat) (y : V) (n : Int) (ev : Nat), vs = [.ref A.x, .int ev, .int n] ∧ ev < 4 ∧ NtOk K C H ρ A R E last lost sent N y ∧ Q (.bl (isMine E ev n)) H
def ringE (E : List Ent) (n : Int) : List (List Nat) := match findE E n with
  | some e => e.rg
  | none => []
def spRing (K : PySem.W.Frag) (C : Addr) : Sp := fun vs H Q _ => ∃ (ρ : Addr → Nat) (A : NA) (R : Regs) (E : List Ent) (last lost : Int) (sent : List (List Nat)) (N : Nat) (y : V) (n : Int), vs = [.ref A.x, .int n] ∧ NtOk K C H ρ A R E last lost sent N y ∧ ∀ v H', Same H H' → Dt H' v (.list ((ringE E n).map pD)) → Q v H'
def spLost (K : PySem.W.Frag) (C : Addr) : Sp := fun vs H Q _ => ∃ (ρ : Addr → Nat) (A : NA) (R : Regs) (E : List Ent) (last lost : Int) (sent : List (List Nat)) (N : Nat) (y : V), vs = [.ref A.x] ∧ NtOk K C H ρ A R E last lost sent N y ∧ Q (.int lost) H
def spSent (K : PySem.W.Frag) (C : Addr) : Sp := fun vs H Q _ => ∃ (ρ : Addr → Nat) (A : NA) (R : Regs) (E : List Ent) (last lost : Int) (sent : List (List Nat)) (N : Nat) (y : V), vs = [.ref A.x] ∧ NtOk K C H ρ A R E last lost sent N y ∧ ∀ v H', Same H H' → Dt H' v (.list (sent.map pD)) → Q v H'
theorem dgetE {H : Hp} {d : Addr} {kvs : List (L2.Key × V)} {n : Int} {v : V} (hd : H d = some (.dK kvs)) (hv : valV kvs (Sum.inl n : L2.Key) = some v) : DGet H d (.int n) (some v) := by
  have := DGet.k (k := (Sum.inl n : L2.Key)) hd
  rw [hv] at this
  exact this
abbrev s_is_environment : Stmt := topS 10
abbrev ns_is_environment : List Str := ["value"]
theorem sc_is_environment : FnScope ns_is_environment ["value"] (defScope s_is_environment) := ⟨rfl, rfl, rfl, by decide +kernel, rfl, by decide +kernel, by decide +kernel⟩

theorem ok_is_environment {f : Addr} {fd : FuncData} (F : Fun K "is_environment" "is_environment" s_is_environment f fd) (T : Txt K mg C_Net C_NotValid A_EMPTY) (D_is_index : Dfn P w K mg base CX0 3 "is_index" ["value", "many"] spIdx) : FnOk P w K mg base CX0 4 f fd ["value"] spEnv := by
  refine F.ok sc_is_environment (fun vs H Q E h => ?_) (fun cdv A outer s H vs Q E hr h => ?_)
  · obtain ⟨e, rfl, _⟩ := h
    rfl
  · obtain ⟨e, rfl, e4, k⟩ := h
    refine ⟨_, (pss_one (ps_ret (pe_dcall D_is_index (hr.mono (by decide)) (by rfl) pass0 (pa_cons (pv 0) (pa_cons (pe_gint (by rfl) T.c_ENVIRONMENTS) pa_nil))))), ?_⟩
    walk_at "ro"
    refine ⟨_, .int (e : Int), _, rfl, .int _, ?_⟩
    have : isI (.int (e : Int)) 0 (4 - 1) = true := isI_nat (by omega)
    rw [this]
    exact k
abbrev s_Net_is_name : Stmt := inClass (topS 35) 11
abbrev ns_Net_is_name : List Str := ["self", "value"]
theorem sc_Net_is_name : FnScope ns_Net_is_name ["self", "value"] (defScope s_Net_is_name) := ⟨rfl, rfl, rfl, by decide +kernel, rfl, by decide +kernel, by decide +kernel⟩

theorem ok_Net_is_name {f : Addr} {fd : FuncData} (F : Fun K "_is_name" "Net._is_name" s_Net_is_name f fd) (T : Txt K mg C_Net C_NotValid A_EMPTY) (D_is_at_least : Dfn P w K mg base CX0 1 "is_at_least" ["value", "least"] spGe) : FnOk P w K mg base CX0 2 f fd ["self", "value"] (spIsName K C_Net) := by
  have ho_Net := T.o_Net; have hn_Net__regions := T.n_Net__regions; have hn_Net__enrolled := T.n_Net__enrolled; have hn_Net__rings := T.n_Net__rings; have hn_Net__tree := T.n_Net__tree; have hn_Net__last_name := T.n_Net__last_name; have hn_Net__sent := T.n_Net__sent; have hn_Net__lost := T.n_Net__lost
  refine F.ok sc_Net_is_name (fun vs H Q E h => ?_) (fun cdv A outer s H vs Q E hr h => ?_)
  · obtain ⟨ρ, A, R, E', last, lost, sent, N, y, n, rfl, _⟩ := h
    rfl
  · obtain ⟨ρ, A', R, E', last, lost, sent, N, y, n, rfl, nt, k⟩ := h
    have hx := nt.ins
    obtain ⟨kvs, hd, al⟩ := nt.en
    refine ⟨_, (pss_one (ps_ret (pe_and (pe_dcall D_is_at_least (hr.mono (by decide)) (by rfl) pass0 (pa_cons (pv 1) (pa_cons pe_int pa_nil))) (pe_one (pe_cmp (pc_din (units1 hr) (pv 1) (kFld K (pv 0) rfl))))))), ?_⟩
    walk_at "ro"
    refine ⟨_, _, _, rfl, .int n, ?_⟩
    cases e : findE E' n with
    | none =>
      rw [e] at k
      cases e1 : geI (.int n) 1 with
      | false => exact ⟨_, rfl, iteF k⟩
      | true =>
        refine ⟨_, rfl, iteT ?_⟩
        walk_at "ro"
        have := DGet.k (k := (Sum.inl n : L2.Key)) hd
        rw [al.none n e] at this
        exact ⟨_, _, rfl, this, k⟩
    | some e' =>
      rw [e] at k
      obtain ⟨m1, m2⟩ := findE_mem e
      have n1 := (nt.ent e' m1).1
      have e1 : geI (.int n) 1 = true := by show decide ((1 : Int) ≤ n) = true; exact decide_eq_true (by omega)
      rw [e1]
      refine ⟨_, rfl, iteT ?_⟩
      walk_at "ro"
      obtain ⟨v, hv, _⟩ := al.some n e
      exact ⟨_, _, rfl, dgetE hd hv, k⟩
abbrev s_Net_is_enrolled : Stmt := inClass (topS 35) 10
abbrev ns_Net_is_enrolled : List Str := ["self", "environment", "name"]
theorem sc_Net_is_enrolled : FnScope ns_Net_is_enrolled ["self", "environment", "name"] (defScope s_Net_is_enrolled) := ⟨rfl, rfl, rfl, by decide +kernel, rfl, by decide +kernel, by decide +kernel⟩

theorem ok_Net_is_enrolled {f : Addr} {fd : FuncData} (F : Fun K "is_enrolled" "Net.is_enrolled" s_Net_is_enrolled f fd) (T : Txt K mg C_Net C_NotValid A_EMPTY) (D_is_environment : Dfn P w K mg base CX0 4 "is_environment" ["value"] spEnv) (D_Net_is_name : Mth P w K mg base CX0 2 C_Net "_is_name" ["self", "value"] (spIsName K C_Net)) : FnOk P w K mg base CX0 5 f fd ["self", "environment", "name"] (spIsEn K C_Net) := by
  have ho_Net := T.o_Net; have hn_Net__regions := T.n_Net__regions; have hn_Net__enrolled := T.n_Net__enrolled; have hn_Net__rings := T.n_Net__rings; have hn_Net__tree := T.n_Net__tree; have hn_Net__last_name := T.n_Net__last_name; have hn_Net__sent := T.n_Net__sent; have hn_Net__lost := T.n_Net__lost
  refine F.ok sc_Net_is_enrolled (fun vs H Q E h => ?_) (fun cdv A outer s H vs Q E hr h => ?_)
  · obtain ⟨ρ, A, R, E', last, lost, sent, N, y, n, ev, rfl, _⟩ := h
    rfl
  · obtain ⟨ρ, A', R, E', last, lost, sent, N, y, n, ev, rfl, e4, nt, k⟩ := h
    have hx := nt.ins
    obtain ⟨kvs, hd, al⟩ := nt.en
    refine ⟨_, (pss_one (ps_ret (pe_and (pe_dcall D_is_environment (hr.mono (by decide)) (by rfl) pass0 (pa_cons (pv 1) pa_nil)) (pe_and (pe_dmeth (pv 0) D_Net_is_name (hr.mono (by decide)) pass0 (pa_cons (pv 2) pa_nil)) (pe_one (pe_cmpR op_eq (pe_ix (kIxT K) (pe_dget (units1 hr) (kFld K (pv 0) rfl) (pv 2) (fun _ _ => rfl)) pe_int (fun _ _ => rfl)) (pv 1) (nomark _))))))), ?_⟩
    walk_at "ro"
    refine ⟨e4, _, rfl, iteT ?_⟩
    walk_at "ro"
    refine ⟨ρ, A', R, E', last, lost, sent, N, y, n, rfl, nt, _, rfl, ?_⟩
    unfold isMine at k
    cases e : findE E' n with
    | none =>
      rw [e] at k
      exact iteF k
    | some e' =>
      rw [e] at k
      refine iteT ?_
      walk_at "ro"
      obtain ⟨v, hv, hr⟩ := al.some n e
      cases hr with
      | @tup a xs ds ha hs =>
        cases hs with
        | cons h1 hs =>
          cases h1
          walk_at "ro"
          refine ⟨_, _, rfl, dgetE hd hv, ?_⟩
          refine ⟨_, _, _, _, rfl, rfl, SqT.of ha, atC 0 rfl rfl, _, rfl, rfl, ?_⟩
          rw [intV]
          exact k
abbrev s_Net_ring : Stmt := inClass (topS 35) 6
abbrev ns_Net_ring : List Str := ["self", "name"]
theorem sc_Net_ring : FnScope ns_Net_ring ["self", "name"] (defScope s_Net_ring) := ⟨rfl, rfl, rfl, by decide +kernel, rfl, by decide +kernel, by decide +kernel⟩

theorem ok_Net_ring {f : Addr} {fd : FuncData} (F : Fun K "ring" "Net.ring" s_Net_ring f fd) (T : Txt K mg C_Net C_NotValid A_EMPTY) (D_Net_is_name : Mth P w K mg base CX0 2 C_Net "_is_name" ["self", "value"] (spIsName K C_Net)) : FnOk P w K mg base CX0 3 f fd ["self", "name"] (spRing K C_Net) := by
  have ho_Net := T.o_Net; have hn_Net__regions := T.n_Net__regions; have hn_Net__enrolled := T.n_Net__enrolled; have hn_Net__rings := T.n_Net__rings; have hn_Net__tree := T.n_Net__tree; have hn_Net__last_name := T.n_Net__last_name; have hn_Net__sent := T.n_Net__sent; have hn_Net__lost := T.n_Net__lost
  refine F.ok sc_Net_ring (fun vs H Q E h => ?_) (fun cdv A outer s H vs Q E hr h => ?_)
  · obtain ⟨ρ, A, R, E', last, lost, sent, N, y, n, rfl, _⟩ := h
    rfl
  · obtain ⟨ρ, A', R, E', last, lost, sent, N, y, n, rfl, nt, k⟩ := h
    have hx := nt.ins
    obtain ⟨kvs, hd, al⟩ := nt.ri
    refine ⟨_, (pss_cons (ps_if (pt_not (pt_val (pe_dmeth (pv 0) D_Net_is_name (hr.mono (by decide)) pass0 (pa_cons (pv 1) pa_nil)))) (pss_one (ps_ret (pe_lst pa_nil))) pss_nil)
  (pss_one (ps_ret (pe_callTy (kListOf K) (by rfl) T.b_list (by decide +kernel) (pa_cons (pe_dget (units1 hr) (kFld K (pv 0) rfl) (pv 1) (fun _ _ => rfl)) pa_nil))))), ?_⟩
    walk_at "ro"
    refine ⟨ρ, A', R, E', last, lost, sent, N, y, n, rfl, nt, _, rfl, ?_⟩
    unfold ringE at k
    cases e : findE E' n with
    | none =>
      rw [e] at k
      refine iteT ⟨szl rfl, fun q hq => ?_⟩
      exact k _ _ (Same.new hq) (.lst upd_same .nil)
    | some e' =>
      rw [e] at k
      refine iteF ?_
      walk_at "ro"
      obtain ⟨v, hv, a, ps, rfl, _, ha, hps⟩ := al.some n e
      refine ⟨_, _, rfl, dgetE hd hv, ?_⟩
      refine ⟨_, _, rfl, .inl (SqL.of ha), fun q hq => ?_⟩
      exact k _ _ (Same.new hq) (.lst upd_same (hps.same (Same.new hq)))
abbrev s_Net_lost : Stmt := inClass (topS 35) 9
abbrev ns_Net_lost : List Str := ["self"]
theorem sc_Net_lost : FnScope ns_Net_lost ["self"] (defScope s_Net_lost) := ⟨rfl, rfl, rfl, by decide +kernel, rfl, by decide +kernel, by decide +kernel⟩

theorem ok_Net_lost {f : Addr} {fd : FuncData} (F : Fun K "lost" "Net.lost" s_Net_lost f fd) (T : Txt K mg C_Net C_NotValid A_EMPTY) : FnOk P w K mg base CX0 1 f fd ["self"] (spLost K C_Net) := by
  have ho_Net := T.o_Net; have hn_Net__regions := T.n_Net__regions; have hn_Net__enrolled := T.n_Net__enrolled; have hn_Net__rings := T.n_Net__rings; have hn_Net__tree := T.n_Net__tree; have hn_Net__last_name := T.n_Net__last_name; have hn_Net__sent := T.n_Net__sent; have hn_Net__lost := T.n_Net__lost
  refine F.ok sc_Net_lost (fun vs H Q E h => ?_) (fun cdv A outer s H vs Q E hr h => ?_)
  · obtain ⟨ρ, A, R, E', last, lost, sent, N, y, rfl, _⟩ := h
    rfl
  · obtain ⟨ρ, A', R, E', last, lost, sent, N, y, rfl, nt, k⟩ := h
    have hx := nt.ins
    refine ⟨_, (pss_one (ps_ret (kFld K (pv 0) rfl))), ?_⟩
    walk_at "ro"
    exact k
end
section
variable {P : Program} {w : World} {K : PySem.W.Frag} {mg : Str → Option Value} {base : Heap} {C_Net C_NotValid : Addr}{A_EMPTY : Addr}
end
end My

namespace My
open PySem L2
local macro_rules | `(tactic| walk_at "ne") => `(tactic| first | assumption | exact Ne.symm (by assumption) | exact ne_of_none (by assumption) (by assumption) | exact Ne.symm (ne_of_none (by assumption) (by assumption)))
local macro_rules | `(tactic| walk_at "hp") => `(tactic| first | assumption | with_reducible exact upd_same | (with_reducible refine Eq.trans (upd_ne ?_) ?_; rotate_left; walk_at "hp"; walk_at "ne"))
local macro_rules | `(tactic| walk_at "cnd") => `(tactic| first | omega | (show (0 : Int) < _; omega) | exact ⟨by omega, by omega⟩ | exact Or.inl ⟨by omega, by omega⟩ | exact Or.inr ⟨by omega, by omega⟩ | exact ⟨by omega, by omega, by decide⟩ | exact ⟨by omega, by omega, by omega⟩)
local macro_rules | `(tactic| walk_at "at") => `(tactic| first | exact atC 0 rfl rfl | exact atC 1 rfl rfl | exact atC 2 rfl rfl | exact atC 3 rfl rfl | exact atC 4 rfl rfl | exact atC 5 rfl rfl | exact atC 6 rfl rfl | exact atC 7 rfl rfl)
local macro_rules | `(tactic| walk_at "ix") => `(tactic| first | exact ixC 0 rfl (Nat.le_of_ble_eq_true rfl) | exact ixC 1 rfl (Nat.le_of_ble_eq_true rfl) | exact ixC 2 rfl (Nat.le_of_ble_eq_true rfl) | exact ixC 3 rfl (Nat.le_of_ble_eq_true rfl) | exact ixC 4 rfl (Nat.le_of_ble_eq_true rfl) | exact ixC 5 rfl (Nat.le_of_ble_eq_true rfl))
local macro_rules | `(tactic| walk_at "st") => `(tactic| first
  | refine ⟨_, rfl, ?_⟩
  | refine ⟨_, _, rfl, rfl, (by walk_at "cnd" : (_ : Prop)), ?_⟩
  | refine ⟨_, _, rfl, rfl, ?_⟩
  | refine ⟨rfl, ?_⟩
  | refine Or.inl ⟨_, rfl, ?_⟩
  | refine ⟨_, _, _, _, rfl, rfl, by exact SqL.of (by walk_at "hp"), by walk_at "at", ?_⟩
  | refine ⟨_, _, _, _, rfl, rfl, by exact SqT.of (by walk_at "hp"), by walk_at "at", ?_⟩
  | refine ⟨_, _, _, _, rfl, rfl, by walk_at "hp", by walk_at "ix", ?_⟩
  | refine ⟨_, _, rfl, Or.inl (by exact SqL.of (by walk_at "hp")), ?_⟩
  | refine ⟨_, _, rfl, Or.inr (by exact SqT.of (by walk_at "hp")), ?_⟩)
local macro_rules | `(tactic| walk_at "so") => `(tactic| first
  | refine ⟨_, _, _, _, _, rfl, by walk_at "hp", by assumption, by assumption, rfl, ?_⟩
  | refine ⟨_, _, _, _, rfl, by walk_at "hp", by assumption, by assumption, Nat.le_of_ble_eq_true rfl, ?_⟩
  | refine ⟨_, _, _, rfl, by walk_at "hp", rfl, ?_⟩
  | walk_at "st")
local macro_rules | `(tactic| walk_at "ro") => `(tactic| repeat walk_at "so")
local macro_rules | `(tactic| walk_at "run") => `(tactic| repeat walk_at "st")

def setRg (E : List Ent) (n : Int) (rg : List (List Nat)) : List Ent := E.map fun e => if e.nm = n then { e with rg := rg } else e
theorem setRg_nm (E : List Ent) (n : Int) (rg : List (List Nat)) : (setRg E n rg).map (·.nm) = E.map (·.nm) := by
  unfold setRg
  rw [List.map_map]
  refine List.map_congr_left fun e _ => ?_
  show (if e.nm = n then { e with rg := rg } else e).nm = e.nm
  split <;> rfl
def withoutE (E : List Ent) (n : Int) : List Ent := E.filter fun e => decide (e.nm ≠ n)
theorem withoutE_nm (E : List Ent) (n : Int) : (withoutE E n).map (·.nm) = (E.map (·.nm)).filter fun z => decide (z ≠ n) := by
  unfold withoutE; rw [List.filter_map]; rfl
theorem rgL_inj {a b : Int} (ha : 1 ≤ a) (hb : 1 ≤ b) (h : rgL a = rgL b) : a = b := by unfold rgL at h; omega
theorem rgL_net (n : Int) : netL (rgL n) := by unfold netL rgL; omega
section
variable {K : PySem.W.Frag} {C : Addr} {H H' : Hp} {ρ ρ' : Addr → Nat} {A : NA} {R : Regs} {E : List Ent} {last lost : Int} {sent : List (List Nat)} {N : Nat} {y : V}
theorem NtOk.setRing (nt : NtOk K C H ρ A R E last lost sent N y) {n : Int} {e : Ent} {a : Addr} {ps ps' : List V} {rg : List (List Nat)} (he : findE E n = some e) (ra : ρ a = rgL n) (ha : H a = some (.lst ps)) (hr : DtAll H ps' (rg.map pD)) (hl : rg.length ≤ 8)
    {kvs : List (L2.Key × V)} (hd : H A.Dr = some (.dK kvs)) (al : Al (riR H ρ) kvs E) (hv : valV kvs (Sum.inl n : L2.Key) = some (.ref a)) :
    NtOk K C (upd H a (.lst ps')) ρ A R (setRg E n rg) last lost sent N y ∧ NetChg ρ H (upd H a (.lst ps')) ∧ TS H (upd H a (.lst ps')) := by
  obtain ⟨m1, m2⟩ := findE_mem he
  have n1 := (nt.ent e m1).1
  have oth : ∀ b o, H b = some o → ρ b ≠ rgL n → (upd H a (.lst ps')) b = some o := fun b o e h => by
    rw [upd_ne (fun z => h (by rw [z]; exact ra))]; exact e
  have low : ∀ b o k, H b = some o → ρ b = k → k < 10 → (upd H a (.lst ps')) b = some o := fun b o k e h l => oth b o e (by rw [h]; unfold rgL; omega)
  have ts : TS H (upd H a (.lst ps')) := Chg.ts Chg.upd ha
  obtain ⟨rv, r1, r2⟩ := nt.rg
  obtain ⟨ek, e1, e2⟩ := nt.en
  obtain ⟨Tt, t1, t2⟩ := nt.tree
  obtain ⟨sp, s1, s2⟩ := nt.se
  have nms := setRg_nm E n rg
  have mem : ∀ x ∈ setRg E n rg, ∃ x0 ∈ E, x.nm = x0.nm ∧ x.ev = x0.ev ∧ x.ts = x0.ts ∧ x.rg.length ≤ 8 := fun x hx => by
    obtain ⟨x0, h0, rfl⟩ := List.mem_map.mp hx
    refine ⟨x0, h0, ?_⟩
    by_cases q : x0.nm = n
    · rw [if_pos q]; exact ⟨rfl, rfl, rfl, hl⟩
    · rw [if_neg q]; exact ⟨rfl, rfl, rfl, (nt.ent x0 h0).2.2.2.2⟩
  refine ⟨⟨low _ _ _ nt.ins nt.lx (by decide), ⟨rv, low _ _ _ r1 nt.lLr (by decide), r2.ts ts⟩, ⟨ek, low _ _ _ e1 nt.lDe (by decide), ?_⟩, ⟨kvs, low _ _ _ hd nt.lDr (by decide), ?_⟩, ⟨Tt, ?_, fun x hx => ?_⟩, ⟨sp, low _ _ _ s1 nt.lLs (by decide), s2.ts ts (tonlyPs _)⟩, by rw [nms]; exact nt.asc, fun x hx => ?_, nt.rok, nt.rlen, nt.l0, ⟨nt.bd.1, nt.bd.2.1, nt.bd.2.2.1, ?_⟩, nt.lx, nt.lDe, nt.lDr, nt.lLs, nt.lLr⟩, fun b o e h => oth b o e (fun z => h (by rw [z]; exact rgL_net n)), ts⟩
  · refine e2.map (fun x => by show (if _ then _ else _ : Ent).nm = _; split <;> rfl) fun x hx v q => ?_
    have q' := q.ts ts (entD_tonly x)
    show Dt _ v (entD (if x.nm = n then _ else x))
    by_cases z : x.nm = n
    · rw [if_pos z]; exact q'
    · rw [if_neg z]; exact q'
  · have alm : ∀ {kvs : List (L2.Key × V)} {E : List Ent}, (∀ x ∈ E, 1 ≤ x.nm) → Asc (E.map (·.nm)) → Al (riR H ρ) kvs E → (∀ v, valV kvs (Sum.inl n : L2.Key) = some v → v = .ref a) → Al (riR (upd H a (.lst ps')) ρ) kvs (setRg E n rg) := fun {kvs E} h1 hasc al => by
      induction al with
      | nil => intro _; exact .nil
      | @cons x v kvs E hx al ih =>
        intro hv
        obtain ⟨a1, a2⟩ := List.pairwise_cons.mp (show (x.nm :: E.map (·.nm)).Pairwise (· < ·) from hasc)
        have x1 := h1 x List.mem_cons_self
        by_cases z : x.nm = n
        · have ev : v = .ref a := hv v (valV_pos (by rw [z]))
          subst ev
          have rest : Al (riR (upd H a (.lst ps')) ρ) kvs (setRg E n rg) := by
            refine Al.map (fun x => by show (if _ then _ else _ : Ent).nm = _; split <;> rfl) (fun x' hx' v' q => ?_) al
            have := a1 x'.nm (List.mem_map.mpr ⟨x', hx', rfl⟩)
            rw [if_neg (by omega)]
            exact q.keep (fun b o e l => oth b o e (by rw [l]; intro w; have := rgL_inj (h1 x' (List.mem_cons_of_mem _ hx')) (m2 ▸ n1) w; omega)) ts fun _ _ _ => rfl
          have := Al.cons (e := { x with rg := rg }) (v := .ref a) (Rl := riR (upd H a (.lst ps')) ρ) ⟨a, ps', rfl, by rw [ra, ← z], upd_same, hr.ts ts (tonlyPs _)⟩ rest
          show Al _ ((Sum.inl x.nm, V.ref a) :: kvs) ((if x.nm = n then { x with rg := rg } else x) :: setRg E n rg)
          rw [if_pos z]
          exact this
        · show Al _ ((Sum.inl x.nm, v) :: kvs) ((if x.nm = n then { x with rg := rg } else x) :: setRg E n rg)
          rw [if_neg z]
          exact .cons (hx.keep (fun b o e l => oth b o e (by rw [l]; intro w; exact z (rgL_inj x1 (m2 ▸ n1) w))) ts fun _ _ _ => rfl) (ih (fun x' hx' => h1 x' (List.mem_cons_of_mem _ hx')) a2 fun v' hv' => hv v' (by rw [valV_neg (fun w => z (Sum.inl.inj w))]; exact hv'))
    exact alm (fun x hx => (nt.ent x hx).1) nt.asc al fun v q => by rw [hv] at q; exact (Option.some.inj q).symm
  · rw [nms]; exact t1.ts ts
  · obtain ⟨x0, h0, q1, _, q3, _⟩ := mem x hx
    rw [q1, q3]; exact t2 x0 h0
  · obtain ⟨x0, h0, q1, q2, q3, q4⟩ := mem x hx
    obtain ⟨b1, b2, b3, b4, _⟩ := nt.ent x0 h0
    exact ⟨by rw [q1]; exact b1, by rw [q1]; exact b2, by rw [q3]; exact b3, by rw [q2]; exact b4, q4⟩
  · unfold setRg; rw [List.length_map]; exact nt.bd.2.2.2
end
end My

namespace My
open PySem L2
local macro_rules | `(tactic| walk_at "ne") => `(tactic| first | assumption | exact Ne.symm (by assumption) | exact ne_of_none (by assumption) (by assumption) | exact Ne.symm (ne_of_none (by assumption) (by assumption)))
local macro_rules | `(tactic| walk_at "hp") => `(tactic| first | assumption | with_reducible exact upd_same | (with_reducible refine Eq.trans (upd_ne ?_) ?_; rotate_left; walk_at "hp"; walk_at "ne"))
local macro_rules | `(tactic| walk_at "cnd") => `(tactic| first | omega | (show (0 : Int) < _; omega) | exact ⟨by omega, by omega⟩ | exact Or.inl ⟨by omega, by omega⟩ | exact Or.inr ⟨by omega, by omega⟩ | exact ⟨by omega, by omega, by decide⟩ | exact ⟨by omega, by omega, by omega⟩)
local macro_rules | `(tactic| walk_at "at") => `(tactic| first | exact atC 0 rfl rfl | exact atC 1 rfl rfl | exact atC 2 rfl rfl | exact atC 3 rfl rfl | exact atC 4 rfl rfl | exact atC 5 rfl rfl | exact atC 6 rfl rfl | exact atC 7 rfl rfl)
local macro_rules | `(tactic| walk_at "ix") => `(tactic| first | exact ixC 0 rfl (Nat.le_of_ble_eq_true rfl) | exact ixC 1 rfl (Nat.le_of_ble_eq_true rfl) | exact ixC 2 rfl (Nat.le_of_ble_eq_true rfl) | exact ixC 3 rfl (Nat.le_of_ble_eq_true rfl) | exact ixC 4 rfl (Nat.le_of_ble_eq_true rfl) | exact ixC 5 rfl (Nat.le_of_ble_eq_true rfl))
local macro_rules | `(tactic| walk_at "st") => `(tactic| first
  | refine ⟨_, rfl, ?_⟩
  | refine ⟨_, _, rfl, rfl, (by walk_at "cnd" : (_ : Prop)), ?_⟩
  | refine ⟨_, _, rfl, rfl, ?_⟩
  | refine ⟨rfl, ?_⟩
  | refine Or.inl ⟨_, rfl, ?_⟩
  | refine ⟨_, _, _, _, rfl, rfl, by exact SqL.of (by walk_at "hp"), by walk_at "at", ?_⟩
  | refine ⟨_, _, _, _, rfl, rfl, by exact SqT.of (by walk_at "hp"), by walk_at "at", ?_⟩
  | refine ⟨_, _, _, _, rfl, rfl, by walk_at "hp", by walk_at "ix", ?_⟩
  | refine ⟨_, _, rfl, Or.inl (by exact SqL.of (by walk_at "hp")), ?_⟩
  | refine ⟨_, _, rfl, Or.inr (by exact SqT.of (by walk_at "hp")), ?_⟩)
local macro_rules | `(tactic| walk_at "so") => `(tactic| first
  | refine ⟨_, _, _, _, _, rfl, by walk_at "hp", by assumption, by assumption, rfl, ?_⟩
  | refine ⟨_, _, _, _, rfl, by walk_at "hp", by assumption, by assumption, Nat.le_of_ble_eq_true rfl, ?_⟩
  | refine ⟨_, _, _, rfl, by walk_at "hp", rfl, ?_⟩
  | walk_at "st")
local macro_rules | `(tactic| walk_at "ro") => `(tactic| repeat walk_at "so")
local macro_rules | `(tactic| walk_at "run") => `(tactic| repeat walk_at "st")

def spNextP (K : PySem.W.Frag) (C : Addr) : Sp := fun vs H Q _ => ∃ (ρ : Addr → Nat) (A : NA) (R : Regs) (E : List Ent) (last lost : Int) (sent : List (List Nat)) (N : Nat) (y : V) (n : Int) (ev : Nat), vs = [.ref A.x, .int ev, .int n] ∧ ev < 4 ∧ NtOk K C H ρ A R E last lost sent N y ∧
  ((isMine E ev n = false ∨ ringE E n = []) → Q .non H) ∧
  (∀ ws rest v H', isMine E ev n = true → ringE E n = ws :: rest → NtOk K C H' ρ A R (setRg E n rest) last lost sent N y → NetChg ρ H H' → TS H H' → Dt H' v (pD ws) → Q v H')
def spFilters (K : PySem.W.Frag) (C : Addr) : Sp := fun vs H Q _ => ∃ (ρ : Addr → Nat) (A : NA) (R : Regs) (E : List Ent) (last lost : Int) (sent : List (List Nat)) (N : Nat) (y : V), vs = [.ref A.x] ∧ NtOk K C H ρ A R E last lost sent N y ∧
  ∀ v H', Same H H' → Dt H' v (.list (E.map fun e => .tuple [.int e.nm, .int e.ev, fD e.ts])) → Q v H'
def spSend (K : PySem.W.Frag) (C : Addr) : Sp := fun vs H Q _ => ∃ (ρ : Addr → Nat) (A : NA) (R : Regs) (E : List Ent) (last lost : Int) (sent : List (List Nat)) (N : Nat) (y : V) (u : V) (ws : List Nat), vs = [.ref A.x, u] ∧ NtOk K C H ρ A R E last lost sent N y ∧ Dt H u (pD ws) ∧ ws.length = 6 ∧ (∀ n ∈ ws, n < 2 ^ 32) ∧ sent.length < 500 ∧
  ∀ H', NtOk K C H' ρ A R E last lost (sent ++ [ws]) N y → NetChg ρ H H' → TS H H' → Q .non H'
theorem ringE_some {E : List Ent} {n : Int} {e : Ent} (h : findE E n = some e) : ringE E n = e.rg := by unfold ringE; rw [h]
theorem DtAll.snoc {H : Hp} {ds : List PyData} {vs : List V} {v : V} {d : PyData} (h : DtAll H vs ds) (h' : Dt H v d) : DtAll H (vs ++ [v]) (ds ++ [d]) := DtAll.append h (.cons h' .nil)
section
variable {P : Program} {w : World} {K : PySem.W.Frag} {mg : Str → Option Value} {base : Heap} {C_Net C_NotValid : Addr}{A_EMPTY : Addr}
abbrev s_Net_next : Stmt := inClass (topS 35) 3
abbrev ns_Net_next : List Str := ["self", "environment", "name"]
theorem sc_Net_next : FnScope ns_Net_next ["self", "environment", "name"] (defScope s_Net_next) := ⟨rfl, rfl, rfl, by decide +kernel, rfl, by decide +kernel, by decide +kernel⟩

theorem ok_Net_next {f : Addr} {fd : FuncData} (F : Fun K "next" "Net.next" s_Net_next f fd) (T : Txt K mg C_Net C_NotValid A_EMPTY) (D_Net_is_enrolled : Mth P w K mg base CX0 5 C_Net "is_enrolled" ["self", "environment", "name"] (spIsEn K C_Net)) : FnOk P w K mg base CX0 6 f fd ["self", "environment", "name"] (spNextP K C_Net) := by
  have ho_Net := T.o_Net; have hn_Net__regions := T.n_Net__regions; have hn_Net__enrolled := T.n_Net__enrolled; have hn_Net__rings := T.n_Net__rings; have hn_Net__tree := T.n_Net__tree; have hn_Net__last_name := T.n_Net__last_name; have hn_Net__sent := T.n_Net__sent; have hn_Net__lost := T.n_Net__lost
  refine F.ok sc_Net_next (fun vs H Q E h => ?_) (fun cdv A outer s H vs Q E hr h => ?_)
  · obtain ⟨ρ, A, R, E', last, lost, sent, N, y, n, ev, rfl, _⟩ := h
    rfl
  · obtain ⟨ρ, A', R, E', last, lost, sent, N, y, n, ev, rfl, e4, nt, kn, ks⟩ := h
    have hx := nt.ins
    obtain ⟨kvs, hd, al⟩ := nt.ri
    refine ⟨_, (pss_cons (ps_if (PW.pt (pw_or (pt_not (pt_val (pe_dmeth (pv 0) D_Net_is_enrolled (hr.mono (by decide)) pass0 (pa_cons (pv 1) (pa_cons (pv 2) pa_nil))))) (pw_or1 (pt_not (pt_truth (pe_dget (units1 hr) (kFld K (pv 0) rfl) (pv 2) (fun _ _ => rfl)) (by intro _; rfl)))))) (pss_one (ps_ret pe_non)) pss_nil)
  (pss_one (ps_ret (kBM K PySem.F.plainAttrs_list PySem.F.slot_list_pop PySem.F.type_list_pop mt_popAt (pe_dget (units1 hr) (kFld K (pv 0) rfl) (pv 2) (fun _ _ => rfl)) (pa_cons pe_int pa_nil))))), ?_⟩
    walk_at "ro"
    refine ⟨ρ, A', R, E', last, lost, sent, N, y, n, ev, rfl, e4, nt, _, rfl, ?_⟩
    cases em : isMine E' ev n with
    | false => exact iteT (kn (.inl em))
    | true =>
      refine iteF ?_
      obtain ⟨e, he⟩ : ∃ e, findE E' n = some e := by
        unfold isMine at em
        cases q : findE E' n with
        | none => rw [q] at em; cases em
        | some e => exact ⟨e, rfl⟩
      obtain ⟨m1, m2⟩ := findE_mem he
      obtain ⟨v, hv, a, ps, rfl, ra, ha, hps⟩ := al.some n he
      have er := ringE_some he
      walk_at "ro"
      refine ⟨_, _, rfl, dgetE hd hv, ?_⟩
      refine ⟨_, .inl ⟨ps, SqL.of ha, rfl⟩, ?_⟩
      cases erg : e.rg with
      | nil =>
        rw [erg] at hps
        cases hps
        exact iteT (kn (.inr (by rw [er, erg])))
      | cons ws rest =>
        rw [erg] at hps
        cases hps with
        | @cons p0 ps0 _ _ h0 hrest =>
          refine iteF ?_
          walk_at "ro"
          refine ⟨_, _, rfl, dgetE hd hv, ?_⟩
          refine ⟨.inl ⟨rfl, _, SqL.of ha⟩, ?_⟩
          refine ⟨a, _, 0, 0, p0, rfl, rfl, ha, by decide, by decide, PySem.seqIndex_of (by decide) (by simp), rfl, ?_⟩
          have hl : rest.length ≤ 8 := by have := (nt.ent e m1).2.2.2.2; rw [erg] at this; simp at this; omega
          obtain ⟨nt2, nc, ts⟩ := nt.setRing he (by rw [ra, m2]) ha (ps' := ps0) hrest hl hd al hv
          exact ks ws rest p0 _ em (by rw [er, erg]) nt2 nc ts (h0.ts ts (pD_tonly _))
abbrev s_Net_filters : Stmt := inClass (topS 35) 5
abbrev ns_Net_filters : List Str := ["self", "name", "row"]
theorem sc_Net_filters : FnScope ns_Net_filters ["self"] (defScope s_Net_filters) := ⟨rfl, rfl, rfl, by decide +kernel, rfl, by decide +kernel, by decide +kernel⟩

theorem ok_Net_filters {f : Addr} {fd : FuncData} (F : Fun K "filters" "Net.filters" s_Net_filters f fd) (T : Txt K mg C_Net C_NotValid A_EMPTY) : FnOk P w K mg base CX0 1 f fd ["self"] (spFilters K C_Net) := by
  have ho_Net := T.o_Net; have hn_Net__regions := T.n_Net__regions; have hn_Net__enrolled := T.n_Net__enrolled; have hn_Net__rings := T.n_Net__rings; have hn_Net__tree := T.n_Net__tree; have hn_Net__last_name := T.n_Net__last_name; have hn_Net__sent := T.n_Net__sent; have hn_Net__lost := T.n_Net__lost
  refine F.ok sc_Net_filters (fun vs H Q E h => ?_) (fun cdv A outer s H vs Q E hr h => ?_)
  · obtain ⟨ρ, A, R, E', last, lost, sent, N, y, rfl, _⟩ := h
    rfl
  · obtain ⟨ρ, A', R, E', last, lost, sent, N, y, rfl, nt, k⟩ := h
    have hx := nt.ins
    obtain ⟨kvs, hd, al⟩ := nt.en
    have elen := nt.bd.2.2.2
    refine ⟨_, (pss_one (ps_ret (pe_lock (pe_lc (own := [("name", 1), ("row", 2)]) (by rfl) sc_Net_filters.nd (pi_items (kFld K (pv 0) rfl)) (blkOk_by (N := ns_Net_filters) (sc := defScope s_Net_filters) (by decide +kernel)) (fun _ _ _ _ _ => (kpgT K (n := 2) (by rfl) (pgs_cons (pg_name (i := 1) sc_Net_filters.nd rfl (Or.inl rfl)) (pgs_cons (pg_name (i := 2) sc_Net_filters.nd rfl (Or.inl rfl)) pgs_nil)))) (fun _ _ _ _ _ => pts_nil) (fun _ _ _ _ _ => (pe_tup (pa_cons (pv 1) (pa_cons (pe_ix (kIxT K) (pv 2) pe_int (fun _ _ => rfl)) (pa_cons (pe_ix (kIxT K) (pv 2) pe_int (fun _ _ => rfl)) pa_nil))))))))), ?_⟩
    refine ⟨A'.De, _, hd, trivial, fun od => ?_⟩
    have xd : A'.x ≠ A'.De := ne_of hx hd (by intro z; cases z)
    have hx1 : (upd H A'.De (.frz od (.dK kvs))) A'.x = some (.ins C_Net A'.dx (flds A' y last lost)) := by rw [upd_ne xd]; exact hx
    have tsf : TS H (upd H A'.De (.frz od (.dK kvs))) := fun b xs e => by
      rw [upd_ne (ne_of e hd (by intro z; cases z))]; exact e
    walk_at "ro"
    refine ⟨_, _, _, rfl, upd_same, fun D hD => lc_it walk_items (fun i H' => Same (upd H A'.De (.frz od (.dK kvs))) H' ∧ ∃ ys, H' D = some (.lst ys) ∧ DtAll H' ys ((E'.take i).map fun e => .tuple [.int e.nm, .int e.ev, fD e.ts])) ?_ ?_ ?_ ?_⟩
    · exact ⟨Same.new hD, [], upd_same, .nil⟩
    · rintro i H' _ ⟨s1, _⟩
      exact s1 _ _ upd_same
    · rintro i x H1 H2 hi ⟨s1, ys, hys, hdt⟩ ⟨t, a, b, rfl, ht, rfl, ea, eb⟩
      have hi2 : i < E'.length := by rw [← al.len]; exact hi
      obtain ⟨v, hkv, hve⟩ := al.at (List.getElem?_eq_getElem hi2)
      dsimp only at ea eb
      rw [hkv] at ea eb
      cases ea
      cases eb
      have s2 := Same.new (o := .tup [kV (Sum.inl E'[i].nm), v]) ht
      have hve2 := ((hve.ts tsf (entD_tonly _)).same s1).same s2
      cases hve2 with
      | @tup a xs ds ha hs =>
        cases hs with
        | cons h1 hs =>
          cases hs with
          | @cons u us _ _ h2 hs =>
            cases h1
            cases hs
            refine ⟨t, _, rfl, SqT.of upd_same, rfl, _, _, rfl, _, _, rfl, rfl, rfl, ?_⟩
            refine ⟨_, rfl, _, rfl, _, _, _, _, rfl, rfl, SqT.of ha, atC 0 rfl rfl, _, rfl, _, _, _, _, rfl, rfl, SqT.of ha, atC 1 rfl rfl, szl rfl, fun q hq => ?_⟩
            have s3 := Same.new (o := .tup [kV (Sum.inl E'[i].nm), .int (E'[i].ev : Int), u]) hq
            have s123 := (s1.trans s2).trans s3
            have hys3 := s3 _ _ (s2 _ _ hys)
            have s4 : TS H1 (upd (upd (upd H1 t (.tup [kV (Sum.inl E'[i].nm), .ref a])) q (.tup [kV (Sum.inl E'[i].nm), .int (E'[i].ev : Int), u])) D (.lst (ys ++ [.ref q]))) := (Same.ts (s2.trans s3)).trans (Chg.ts Chg.upd hys3)
            have yl : ys.length = i := by rw [hdt.len]; simp; omega
            refine ⟨_, hys3, szt (by omega), Same.mut s123 hD, _, upd_same, ?_⟩
            rw [← take_snoc (List.getElem?_eq_getElem hi2), List.map_append]
            have tl : tonlyAll ((E'.take i).map fun e => PyData.tuple [.int e.nm, .int e.ev, fD e.ts]) = true := by
              have : ∀ l : List Ent, tonlyAll (l.map fun e => PyData.tuple [.int e.nm, .int e.ev, fD e.ts]) = true := fun l => by
                induction l with
                | nil => rfl
                | cons e l ih =>
                  rw [List.map_cons]
                  unfold tonlyAll
                  rw [ih, Bool.and_true]
                  show tonlyAll [.int e.nm, .int e.ev, fD e.ts] = true
                  unfold tonlyAll
                  rw [show tonly (.int e.nm) = true from rfl]
                  unfold tonlyAll
                  rw [show tonly (.int (e.ev : Int)) = true from rfl]
                  unfold tonlyAll
                  rw [fD_tonly]; rfl
              exact this _
            refine DtAll.snoc (hdt.ts s4 tl) (.tup (xs := [kV (Sum.inl E'[i].nm), .int (E'[i].ev : Int), u]) ?_ (.cons (.int _) (.cons (.int _) (.cons (((h2.same s3).ts (Chg.ts Chg.upd hys3) (fD_tonly _))) .nil))))
            rw [upd_ne (ne_of_none (s2 _ _ hys) hq).symm]
            exact upd_same
    · rintro H1 ⟨s1, ys, hys, hdt⟩
      rw [al.len, List.take_length] at hdt
      have hde := s1 _ _ upd_same
      refine ⟨hde, ?_⟩
      have sf : Same H (upd H1 A'.De (.dK kvs)) := fun b o e => by
        by_cases hb : b = A'.De
        · subst hb; rw [hd] at e; rw [← Option.some.inj e]; exact upd_same
        · rw [upd_ne hb]; exact s1 _ _ (by rw [upd_ne hb]; exact e)
      have tsb : TS H1 (upd H1 A'.De (.dK kvs)) := fun b xs e => by
        rw [upd_ne (ne_of e hde (by intro z; cases z))]; exact e
      refine k _ _ sf (.lst (by rw [upd_ne (ne_of hys hde (by intro z; cases z))]; exact hys) (hdt.ts tsb ?_))
      have : ∀ l : List Ent, tonlyAll (l.map fun e => PyData.tuple [.int e.nm, .int e.ev, fD e.ts]) = true := fun l => by
        induction l with
        | nil => rfl
        | cons e l ih =>
          rw [List.map_cons]
          unfold tonlyAll
          rw [ih, Bool.and_true]
          show tonlyAll [.int e.nm, .int e.ev, fD e.ts] = true
          unfold tonlyAll
          rw [show tonly (.int e.nm) = true from rfl]
          unfold tonlyAll
          rw [show tonly (.int (e.ev : Int)) = true from rfl]
          unfold tonlyAll
          rw [fD_tonly]; rfl
      exact this _
abbrev s_Net_send : Stmt := inClass (topS 35) 7
abbrev ns_Net_send : List Str := ["self", "packet"]
theorem sc_Net_send : FnScope ns_Net_send ["self", "packet"] (defScope s_Net_send) := ⟨rfl, rfl, rfl, by decide +kernel, rfl, by decide +kernel, by decide +kernel⟩

theorem ok_Net_send {f : Addr} {fd : FuncData} (F : Fun K "send" "Net.send" s_Net_send f fd) (T : Txt K mg C_Net C_NotValid A_EMPTY) (D_is_packet : Dfn P w K mg base CX0 4 "is_packet" ["value"] spPk) : FnOk P w K mg base (L2.CX P w) 5 f fd ["self", "packet"] (spSend K C_Net) := by
  have ho_Net := T.o_Net; have hn_Net__regions := T.n_Net__regions; have hn_Net__enrolled := T.n_Net__enrolled; have hn_Net__rings := T.n_Net__rings; have hn_Net__tree := T.n_Net__tree; have hn_Net__last_name := T.n_Net__last_name; have hn_Net__sent := T.n_Net__sent; have hn_Net__lost := T.n_Net__lost
  refine F.okX sc_Net_send (fun vs H Q E h => ?_) (fun cdv A outer s H vs Q E hr h => ?_)
  · obtain ⟨ρ, A, R, E', last, lost, sent, N, y, u, ws, rfl, _⟩ := h
    rfl
  · obtain ⟨ρ, A', R, E', last, lost, sent, N, y, u, ws, rfl, nt, hu, hl, hw, hsl, k⟩ := h
    refine ⟨_, (pss_cons (ps_if (pt_not (pt_val (pe_dcall D_is_packet (hr.mono (by decide)) (by rfl) pass0 (pa_cons (pv 1) pa_nil)))) (pss_one (ps_raise (by rfl) (takes_of rfl rfl rfl rfl) (pmk_x T.x_NotValid (by rfl)))) pss_nil)
  (pss_one (ps_expr (kBM K PySem.F.plainAttrs_list PySem.F.slot_list_append PySem.F.type_list_append mt_append (kFld K (pv 0) rfl) (pa_cons (pv 1) pa_nil))))), ?_⟩
    refine ⟨_, rfl, u, pD ws, rfl, hu, fun ds e => (by cases e; rw [List.length_map]; omega), fun H1 s1 => ⟨_, rfl, ?_⟩⟩
    rw [isPk_good hl hw]
    refine iteF ?_
    have nt1 := nt.same s1
    have hx := nt1.ins
    obtain ⟨ps, hs, hps⟩ := nt1.se
    have hu1 := hu.same s1
    have plen : ps.length = sent.length := by rw [hps.len, List.length_map]
    walk_at "ro"
    refine ⟨.inl ⟨rfl, _, SqL.of hs⟩, ?_⟩
    walk_at "ro"
    refine ⟨_, _, _, rfl, rfl, hs, szt (by omega), ?_⟩
    have ts : TS H1 (upd H1 A'.Ls (.lst (ps ++ [u]))) := Chg.ts Chg.upd hs
    have oth : ∀ b o, H1 b = some o → ρ b ≠ 4 → (upd H1 A'.Ls (.lst (ps ++ [u]))) b = some o := fun b o e h => by
      rw [upd_ne (fun z => h (by rw [z]; exact nt.lLs))]; exact e
    obtain ⟨rv, r1, r2⟩ := nt1.rg
    obtain ⟨ek, e1, e2⟩ := nt1.en
    obtain ⟨ik, i1, i2⟩ := nt1.ri
    obtain ⟨Tt, t1, t2⟩ := nt1.tree
    refine k _ ⟨oth _ _ hx (by rw [nt.lx]; decide), ⟨rv, oth _ _ r1 (by rw [nt.lLr]; decide), r2.ts ts⟩, ⟨ek, oth _ _ e1 (by rw [nt.lDe]; decide), e2.imp fun e v q => q.ts ts (entD_tonly e)⟩,
      ⟨ik, oth _ _ i1 (by rw [nt.lDr]; decide), i2.imp fun e v q => q.keep (fun b o e' l => oth b o e' (by rw [l]; unfold rgL; omega)) ts fun _ _ _ => rfl⟩, ⟨Tt, t1.ts ts, t2⟩,
      ⟨ps ++ [u], upd_same, ?_⟩, nt.asc, nt.ent, nt.rok, nt.rlen, nt.l0, ⟨nt.bd.1, nt.bd.2.1, by simp; omega, nt.bd.2.2.2⟩, nt.lx, nt.lDe, nt.lDr, nt.lLs, nt.lLr⟩ (fun b o e h => oth b o (s1 _ _ e) (fun z => h (by rw [z]; unfold netL; omega))) ((Same.ts s1).trans ts)
    rw [List.map_append]
    exact DtAll.snoc (hps.ts ts (tonlyPs _)) (hu1.ts ts (pD_tonly _))
end
end My

namespace My
open PySem L2
local macro_rules | `(tactic| walk_at "ne") => `(tactic| first | assumption | exact Ne.symm (by assumption) | exact ne_of_none (by assumption) (by assumption) | exact Ne.symm (ne_of_none (by assumption) (by assumption)))
local macro_rules | `(tactic| walk_at "hp") => `(tactic| first | assumption | with_reducible exact upd_same | (with_reducible refine Eq.trans (upd_ne ?_) ?_; rotate_left; walk_at "hp"; walk_at "ne"))
local macro_rules | `(tactic| walk_at "cnd") => `(tactic| first | omega | (show (0 : Int) < _; omega) | exact ⟨by omega, by omega⟩ | exact Or.inl ⟨by omega, by omega⟩ | exact Or.inr ⟨by omega, by omega⟩ | exact ⟨by omega, by omega, by decide⟩ | exact ⟨by omega, by omega, by omega⟩)
local macro_rules | `(tactic| walk_at "at") => `(tactic| first | exact atC 0 rfl rfl | exact atC 1 rfl rfl | exact atC 2 rfl rfl | exact atC 3 rfl rfl | exact atC 4 rfl rfl | exact atC 5 rfl rfl | exact atC 6 rfl rfl | exact atC 7 rfl rfl)
local macro_rules | `(tactic| walk_at "ix") => `(tactic| first | exact ixC 0 rfl (Nat.le_of_ble_eq_true rfl) | exact ixC 1 rfl (Nat.le_of_ble_eq_true rfl) | exact ixC 2 rfl (Nat.le_of_ble_eq_true rfl) | exact ixC 3 rfl (Nat.le_of_ble_eq_true rfl) | exact ixC 4 rfl (Nat.le_of_ble_eq_true rfl) | exact ixC 5 rfl (Nat.le_of_ble_eq_true rfl))
local macro_rules | `(tactic| walk_at "st") => `(tactic| first
  | refine ⟨_, rfl, ?_⟩
  | refine ⟨_, _, rfl, rfl, (by walk_at "cnd" : (_ : Prop)), ?_⟩
  | refine ⟨_, _, rfl, rfl, ?_⟩
  | refine ⟨rfl, ?_⟩
  | refine Or.inl ⟨_, rfl, ?_⟩
  | refine ⟨_, _, _, _, rfl, rfl, by exact SqL.of (by walk_at "hp"), by walk_at "at", ?_⟩
  | refine ⟨_, _, _, _, rfl, rfl, by exact SqT.of (by walk_at "hp"), by walk_at "at", ?_⟩
  | refine ⟨_, _, _, _, rfl, rfl, by walk_at "hp", by walk_at "ix", ?_⟩
  | refine ⟨_, _, rfl, Or.inl (by exact SqL.of (by walk_at "hp")), ?_⟩
  | refine ⟨_, _, rfl, Or.inr (by exact SqT.of (by walk_at "hp")), ?_⟩)
local macro_rules | `(tactic| walk_at "so") => `(tactic| first
  | refine ⟨_, _, _, _, _, rfl, by walk_at "hp", by assumption, by assumption, rfl, ?_⟩
  | refine ⟨_, _, _, _, rfl, by walk_at "hp", by assumption, by assumption, Nat.le_of_ble_eq_true rfl, ?_⟩
  | refine ⟨_, _, _, rfl, by walk_at "hp", rfl, ?_⟩
  | walk_at "st")
local macro_rules | `(tactic| walk_at "ro") => `(tactic| repeat walk_at "so")
local macro_rules | `(tactic| walk_at "run") => `(tactic| repeat walk_at "st")

def spGive (K : PySem.W.Frag) (C : Addr) : Sp := fun vs H Q _ => ∃ (ρ : Addr → Nat) (A : NA) (R : Regs) (E : List Ent) (last lost : Int) (sent : List (List Nat)) (N : Nat) (y : V) (n : Int) (ev : Nat), vs = [.ref A.x, .int ev, .int n] ∧ ev < 4 ∧ NtOk K C H ρ A R E last lost sent N y ∧ N < 500 ∧
  (isMine E ev n = false → Q (.bl false) H) ∧ (isMine E ev n = true → ∀ y' H', NtOk K C H' ρ A R (withoutE E n) last lost sent (N + 1) y' → NetChg ρ H H' → TS H H' → Q (.bl true) H')
def regP (R : Regs) : List (Nat × List Row3) := R.zipIdx.filterMap fun q => q.1.map fun p => (q.2, p)
def prD (q : Nat × List Row3) : PyData := .tuple [.int q.1, fD q.2]
theorem prD_tonly (l : List (Nat × List Row3)) : tonlyAll (l.map prD) = true := by
  induction l with
  | nil => rfl
  | cons q l ih =>
    rw [List.map_cons]
    unfold tonlyAll
    rw [ih, Bool.and_true]
    show tonlyAll [.int q.1, fD q.2] = true
    unfold tonlyAll
    rw [show tonly (.int (q.1 : Int)) = true from rfl]
    unfold tonlyAll
    rw [fD_tonly]; rfl
theorem regP_snoc (R : Regs) (r : Option (List Row3)) : regP (R ++ [r]) = regP R ++ (match r with | none => [] | some p => [(R.length, p)]) := by
  unfold regP
  rw [List.zipIdx_append, List.filterMap_append]
  cases r with
  | none => simp
  | some p => simp
def spShared (K : PySem.W.Frag) (C : Addr) : Sp := fun vs H Q _ => ∃ (ρ : Addr → Nat) (A : NA) (R : Regs) (E : List Ent) (last lost : Int) (sent : List (List Nat)) (N : Nat) (y u : V) (ts : List Row3) (ev : Nat), vs = [.ref A.x, .int ev, u] ∧ NtOk K C H ρ A R E last lost sent N y ∧ Dt H u (fD ts) ∧ Good ts ∧
  ∀ v H', Same H H' → ((v = .non ∧ sharedM R E ev ts = none) ∨ ∃ ws p, v = .ref p ∧ sharedM R E ev ts = some ws ∧ Dt H' v (pD ws)) → Q v H'
theorem enVals {H : Hp} : ∀ {kvs : List (L2.Key × V)} {E : List Ent}, Al (enR H) kvs E → DtAll H (kvs.map fun kv => kv.2) ((E.map fun e => (e.ev, e.ts)).map prD)
  | _, _, .nil => .nil
  | _, _, .cons a b => .cons a (enVals b)
section
variable {P : Program} {w : World} {K : PySem.W.Frag} {mg : Str → Option Value} {base : Heap} {C_Net C_NotValid : Addr}{A_EMPTY : Addr}
abbrev s_Net_give_up : Stmt := inClass (topS 35) 4
abbrev ns_Net_give_up : List Str := ["self", "environment", "name"]
theorem sc_Net_give_up : FnScope ns_Net_give_up ["self", "environment", "name"] (defScope s_Net_give_up) := ⟨rfl, rfl, rfl, by decide +kernel, rfl, by decide +kernel, by decide +kernel⟩

theorem ok_Net_give_up {f : Addr} {fd : FuncData} (F : Fun K "give_up" "Net.give_up" s_Net_give_up f fd) (T : Txt K mg C_Net C_NotValid A_EMPTY) (D_Net_is_enrolled : Mth P w K mg base CX0 5 C_Net "is_enrolled" ["self", "environment", "name"] (spIsEn K C_Net)) (D_without_filter : Dfn P w K mg base CX0 9 "without_filter" ["tree", "name", "tests"] (spWithout K)) : FnOk P w K mg base CX0 10 f fd ["self", "environment", "name"] (spGive K C_Net) := by
  have ho_Net := T.o_Net; have hn_Net__regions := T.n_Net__regions; have hn_Net__enrolled := T.n_Net__enrolled; have hn_Net__rings := T.n_Net__rings; have hn_Net__tree := T.n_Net__tree; have hn_Net__last_name := T.n_Net__last_name; have hn_Net__sent := T.n_Net__sent; have hn_Net__lost := T.n_Net__lost
  refine F.ok sc_Net_give_up (fun vs H Q E h => ?_) (fun cdv A outer s H vs Q E hr h => ?_)
  · obtain ⟨ρ, A, R, E', last, lost, sent, N, y, n, ev, rfl, _⟩ := h
    rfl
  · obtain ⟨ρ, A', R, E', last, lost, sent, N, y, n, ev, rfl, e4, nt, hN, kn, ks⟩ := h
    have hx := nt.ins
    obtain ⟨ek, hen, ale⟩ := nt.en
    obtain ⟨ik, hri, ali⟩ := nt.ri
    obtain ⟨Tt, hT, hT2⟩ := nt.tree
    refine ⟨_, (pss_cons (ps_if (pt_not (pt_val (pe_dmeth (pv 0) D_Net_is_enrolled (hr.mono (by decide)) pass0 (pa_cons (pv 1) (pa_cons (pv 2) pa_nil))))) (pss_one (ps_ret pe_bl)) pss_nil)
  (pss_cons (kSFld K (pv 0) (pe_dcall D_without_filter (hr.mono (by decide)) (by rfl) pass0 (pa_cons (kFld K (pv 0) rfl) (pa_cons (pv 2) (pa_cons (pe_ix (kIxT K) (pe_dget (units1 hr) (kFld K (pv 0) rfl) (pv 2) (fun _ _ => rfl)) pe_int (fun _ _ => rfl)) pa_nil)))) rfl)
  (pss_cons (ps_ddel (kFld K (pv 0) rfl) (pv 2))
  (pss_cons (ps_ddel (kFld K (pv 0) rfl) (pv 2))
  (pss_one (ps_ret pe_bl)))))), ?_⟩
    walk_at "ro"
    refine ⟨ρ, A', R, E', last, lost, sent, N, y, n, ev, rfl, e4, nt, _, rfl, ?_⟩
    cases em : isMine E' ev n with
    | false => exact iteT (kn em)
    | true =>
      refine iteF ?_
      obtain ⟨e, he⟩ : ∃ e, findE E' n = some e := by
        unfold isMine at em
        cases q : findE E' n with
        | none => rw [q] at em; cases em
        | some e => exact ⟨e, rfl⟩
      obtain ⟨m1, m2⟩ := findE_mem he
      obtain ⟨v, hv, hve⟩ := ale.some n he
      obtain ⟨vi, hvi, _⟩ := ali.some n he
      have hTn : Tt n = e.ts := by rw [← m2]; exact hT2 e m1
      cases hve with
      | @tup a xs ds ha hs =>
        cases hs with
        | cons h1 hs =>
          cases hs with
          | @cons u us _ _ h2 hs =>
            cases h1
            cases hs
            walk_at "ro"
            refine ⟨_, _, rfl, dgetE hen hv, ?_⟩
            refine ⟨_, _, _, _, rfl, rfl, SqT.of ha, atC 1 rfl rfl, ?_⟩
            refine ⟨y, u, n, _, Tt, N, rfl, hT, by rw [hTn]; exact h2.tvI, by rw [hTn]; exact (nt.ent e m1).2.2.1.path, by omega, fun y' H1 s1 hy' => ?_⟩
            have nt1 := nt.same s1
            have hx1 := nt1.ins
            walk_at "ro"
            have xd : A'.x ≠ A'.De := fun z => by have := nt.lx; rw [z, nt.lDe] at this; cases this
            have xr : A'.x ≠ A'.Dr := fun z => by have := nt.lx; rw [z, nt.lDr] at this; cases this
            have dr : A'.De ≠ A'.Dr := fun z => by have := nt.lDe; rw [z, nt.lDr] at this; cases this
            have he1 := s1 _ _ hen
            have hi1 := s1 _ _ hri
            generalize eH2 : upd H1 A'.x (.ins C_Net A'.dx _) = H2
            have hx2 : H2 A'.x = some (.ins C_Net A'.dx (flds A' y' last lost)) := by rw [← eH2]; exact upd_same
            have o2 : ∀ b, b ≠ A'.x → H2 b = H1 b := fun b hb => by rw [← eH2, upd_ne hb]
            have he2 : H2 A'.De = some (.dK ek) := by rw [o2 _ xd.symm]; exact he1
            have hi2 : H2 A'.Dr = some (.dK ik) := by rw [o2 _ xr.symm]; exact hi1
            walk_at "ro"
            refine ⟨A'.De, ek, Sum.inl n, rfl, he2, rfl, by rw [hv]; rfl, ?_⟩
            have hx3 : (upd H2 A'.De (.dK (dropK ek (Sum.inl n)))) A'.x = some (.ins C_Net A'.dx (flds A' y' last lost)) := by rw [upd_ne xd]; exact hx2
            have hi3 : (upd H2 A'.De (.dK (dropK ek (Sum.inl n)))) A'.Dr = some (.dK ik) := by rw [upd_ne dr.symm]; exact hi2
            walk_at "ro"
            refine ⟨A'.Dr, ik, Sum.inl n, rfl, hi3, rfl, by rw [hvi]; rfl, ?_⟩
            have hx4 : (upd (upd H2 A'.De (.dK (dropK ek (Sum.inl n)))) A'.Dr (.dK (dropK ik (Sum.inl n)))) A'.x = some (.ins C_Net A'.dx (flds A' y' last lost)) := by rw [upd_ne xr]; exact hx3
            have hd4 : (upd (upd H2 A'.De (.dK (dropK ek (Sum.inl n)))) A'.Dr (.dK (dropK ik (Sum.inl n)))) A'.De = some (.dK (dropK ek (Sum.inl n))) := by rw [upd_ne dr]; exact upd_same
            have hi4 : (upd (upd H2 A'.De (.dK (dropK ek (Sum.inl n)))) A'.Dr (.dK (dropK ik (Sum.inl n)))) A'.Dr = some (.dK (dropK ik (Sum.inl n))) := upd_same
            have oth : ∀ b o, H b = some o → ρ b ≠ 1 → ρ b ≠ 2 → ρ b ≠ 3 → (upd (upd H2 A'.De (.dK (dropK ek (Sum.inl n)))) A'.Dr (.dK (dropK ik (Sum.inl n)))) b = some o := fun b o e h1 h2 h3 => by
              rw [upd_ne (fun z => h3 (by rw [z]; exact nt.lDr)), upd_ne (fun z => h2 (by rw [z]; exact nt.lDe)), o2 b (fun z => h1 (by rw [z]; exact nt.lx))]
              exact s1 _ _ e
            have ts4 : TS H (upd (upd H2 A'.De (.dK (dropK ek (Sum.inl n)))) A'.Dr (.dK (dropK ik (Sum.inl n)))) := fun b xs e => by
              have e1 := s1 _ _ e
              rw [upd_ne (ne_of e1 hi1 (by intro z; cases z)), upd_ne (ne_of e1 he1 (by intro z; cases z)), o2 b (ne_of e1 hx1 (by intro z; cases z))]
              exact e1
            have ts1 : TS H1 (upd (upd H2 A'.De (.dK (dropK ek (Sum.inl n)))) A'.Dr (.dK (dropK ik (Sum.inl n)))) := fun b xs e1 => by
              rw [upd_ne (ne_of e1 hi1 (by intro z; cases z)), upd_ne (ne_of e1 he1 (by intro z; cases z)), o2 b (ne_of e1 hx1 (by intro z; cases z))]
              exact e1
            generalize upd (upd H2 A'.De (.dK (dropK ek (Sum.inl n)))) A'.Dr (.dK (dropK ik (Sum.inl n))) = H4 at hx4 hd4 hi4 oth ts4 ts1
            obtain ⟨rv, r1, r2⟩ := nt.rg
            obtain ⟨sp, p1, p2⟩ := nt.se
            refine ks em y' H4 ⟨hx4, ⟨rv, oth _ _ r1 (by rw [nt.lLr]; decide) (by rw [nt.lLr]; decide) (by rw [nt.lLr]; decide), r2.ts ts4⟩, ⟨_, hd4, (ale.imp fun e v q => q.ts ts4 (entD_tonly e)).drop n⟩,
              ⟨_, hi4, (ali.imp fun e v q => q.keep (fun b o e' l => oth b o e' (by rw [l]; unfold rgL; omega) (by rw [l]; unfold rgL; omega) (by rw [l]; unfold rgL; omega)) ts4 fun _ _ _ => rfl).drop n⟩, ⟨Tt, ?_, fun x hx => hT2 x (List.mem_filter.mp hx).1⟩,
              ⟨sp, oth _ _ p1 (by rw [nt.lLs]; decide) (by rw [nt.lLs]; decide) (by rw [nt.lLs]; decide), p2.ts ts4 (tonlyPs _)⟩, ?_, fun x hx => nt.ent x (List.mem_filter.mp hx).1, nt.rok, nt.rlen, nt.l0, ⟨nt.bd.1, by omega, nt.bd.2.2.1, ?_⟩, nt.lx, nt.lDe, nt.lDr, nt.lLs, nt.lLr⟩ (fun b o e h => oth b o e (fun z => h (by rw [z]; unfold netL; omega)) (fun z => h (by rw [z]; unfold netL; omega)) (fun z => h (by rw [z]; unfold netL; omega))) ts4
            · refine (hy'.ts ts1).congr fun z => ?_
              rw [withoutE_nm, List.mem_filter, decide_eq_true_eq]
            · rw [withoutE_nm]; exact nt.asc.filter _
            · have := List.length_filter_le (fun e : Ent => decide (e.nm ≠ n)) E'
              have h2 := nt.bd.2.2.2
              unfold withoutE
              omega
abbrev s_Net_shared_packet : Stmt := inClass (topS 35) 12
abbrev ns_Net_shared_packet : List Str := ["self", "environment", "tests", "regions", "owner", "region", "other", "packet"]
theorem sc_Net_shared_packet : FnScope ns_Net_shared_packet ["self", "environment", "tests"] (defScope s_Net_shared_packet) := ⟨rfl, rfl, rfl, by decide +kernel, rfl, by decide +kernel, by decide +kernel⟩

theorem ok_Net_shared_packet {f : Addr} {fd : FuncData} (F : Fun K "_shared_packet" "Net._shared_packet" s_Net_shared_packet f fd) (T : Txt K mg C_Net C_NotValid A_EMPTY) (D_common : Dfn P w K mg base CX0 1 "common" ["one", "other"] spCommon) : FnOk P w K mg base CX0 2 f fd ["self", "environment", "tests"] (spShared K C_Net) := by
  have ho_Net := T.o_Net; have hn_Net__regions := T.n_Net__regions; have hn_Net__enrolled := T.n_Net__enrolled; have hn_Net__rings := T.n_Net__rings; have hn_Net__tree := T.n_Net__tree; have hn_Net__last_name := T.n_Net__last_name; have hn_Net__sent := T.n_Net__sent; have hn_Net__lost := T.n_Net__lost
  refine F.ok sc_Net_shared_packet (fun vs H Q E h => ?_) (fun cdv A outer s H vs Q E hr h => ?_)
  · obtain ⟨ρ, A, R, E', last, lost, sent, N, y, u, ts, ev, rfl, _⟩ := h
    rfl
  · obtain ⟨ρ, A', R, E', last, lost, sent, N, y, u, ts, ev, rfl, nt, hu, gt, k⟩ := h
    have hx := nt.ins
    obtain ⟨ek, hen, ale⟩ := nt.en
    obtain ⟨rv, hrg, hrv⟩ := nt.rg
    have rl := nt.rlen
    refine ⟨_, (pss_cons (ps_setLc (i := 3) (own := [("owner", 4), ("region", 5)]) (by rfl) sc_Net_shared_packet.nd rfl rfl (sw_true rfl rfl rfl (by decide +kernel)) (pi_enum (by rfl) T.b_enumerate (pa_cons (kFld K (pv 0) rfl) pa_nil)) (blkOk_by (N := ns_Net_shared_packet) (sc := defScope s_Net_shared_packet) (by decide +kernel)) (fun _ _ _ _ _ => (kpgT K (n := 2) (by rfl) (pgs_cons (pg_name (i := 4) sc_Net_shared_packet.nd rfl (Or.inl rfl)) (pgs_cons (pg_name (i := 5) sc_Net_shared_packet.nd rfl (Or.inl rfl)) pgs_nil)))) (fun _ _ _ _ _ => (pts_one (pt_cmpR op_notN (pv 5) pe_non (nomark _)))) (fun _ _ _ _ _ => (pe_tup (pa_cons (pv 4) (pa_cons (pv 5) pa_nil)))))
  (pss_cons (ps_for PassesOwn.never (by rfl) (kpiL K (pe_op op_cat (pv 3) (pe_callTy (call_list_vals (by rfl)) (by rfl) T.b_list (by decide +kernel) (pa_cons (kBM0 K PySem.F.plainAttrs_dict PySem.F.slot_dict_values PySem.F.type_dict_values mt_values (kFld K (pv 0) rfl)) pa_nil)))) (kpgT K (n := 2) (by rfl) (pgs_cons (pg_name (i := 4) sc_Net_shared_packet.nd rfl (Or.inl rfl)) (pgs_cons (pg_name (i := 6) sc_Net_shared_packet.nd rfl (Or.inl rfl)) pgs_nil))) (pss_cons (ps_set (i := 7) sc_Net_shared_packet.nd rfl (Or.inl rfl) (pe_ifExp (pt_cmpR op_eq (pv 4) (pv 1) (nomark _)) pe_non (pe_dcall D_common (hr.mono (by decide)) (by rfl) pass0 (pa_cons (pv 6) (pa_cons (pv 2) pa_nil)))))
  (pss_one (ps_if (pt_cmpR op_notN (pv 7) pe_non (nomark _)) (pss_one (ps_ret (pv 7))) pss_nil))))
  (pss_one (ps_ret pe_non)))), ?_⟩
    walk_at "ro"
    refine ⟨A'.Lr, _, rfl, SqL.of hrg, fun D hD => ?_⟩
    refine lc_it (walk_enum (K := K) (a := A'.Lr) (xs := rv)) (fun i H' => Same H H' ∧ ∃ ys, H' D = some (.lst ys) ∧ DtAll H' ys ((regP (R.take i)).map prD) ∧ ys.length ≤ i) ?_ ?_ ?_ ?_
    · exact ⟨Same.new hD, [], upd_same, .nil, Nat.le_refl _⟩
    · rintro i H' _ ⟨s1, _⟩
      exact SqL.of (s1 _ _ hrg)
    · rintro i x H1 H2 hi ⟨s1, ys, hys, hdt, yl⟩ ⟨t, a, b, rfl, ht, rfl, ea, eb⟩
      have hi2 : i < R.length := by rw [← hrv.len]; exact hi
      obtain ⟨v, hv1, hv2⟩ := hrv.at_ i R[i] (List.getElem?_eq_getElem hi2)
      dsimp only at ea eb
      rw [hv1] at eb
      cases ea
      injection eb with eb
      subst eb
      have s2 := Same.new (o := .tup [.int (i : Int), v]) ht
      have etake : R.take (i + 1) = R.take i ++ [R[i]] := (take_snoc (List.getElem?_eq_getElem hi2)).symm
      refine ⟨t, _, rfl, SqT.of upd_same, rfl, _, _, rfl, _, _, rfl, rfl, rfl, ?_⟩
      rcases hv2 with ⟨er, rfl⟩ | ⟨p, er, hp⟩
      · refine ⟨_, rfl, rfl, _, rfl, ?_⟩
        refine iteF ⟨s1.trans s2, ys, s2 _ _ hys, ?_, by omega⟩
        rw [etake, regP_snoc, er]
        rw [List.append_nil]
        exact hdt.same s2
      · have hp2 := hp.same (s1.trans s2)
        obtain ⟨pa, pxs, rfl, _⟩ := fD_open hp2
        refine ⟨_, rfl, rfl, _, rfl, ?_⟩
        refine iteT ⟨_, rfl, _, rfl, szl rfl, fun q hq => ?_⟩
        have s3 := Same.new (o := .tup [.int (i : Int), .ref pa]) hq
        have hys3 := s3 _ _ (s2 _ _ hys)
        have s4 : TS H1 (upd (upd (upd H1 t (.tup [.int (i : Int), .ref pa])) q (.tup [.int (i : Int), .ref pa])) D (.lst (ys ++ [.ref q]))) := (Same.ts (s2.trans s3)).trans (Chg.ts Chg.upd hys3)
        refine ⟨_, hys3, szt (by omega), Same.mut ((s1.trans s2).trans s3) hD, _, upd_same, ?_, by simp; omega⟩
        rw [etake, regP_snoc, er, List.map_append]
        refine DtAll.snoc (hdt.ts s4 (prD_tonly _)) ?_
        have el : (R.take i).length = i := by rw [List.length_take]; omega
        show Dt _ _ (prD ((R.take i).length, p))
        rw [el]
        refine .tup (xs := [.int (i : Int), .ref pa]) ?_ (.cons (.int _) (.cons ((hp2.same s3).ts (Chg.ts Chg.upd hys3) (fD_tonly _)) .nil))
        rw [upd_ne (ne_of_none (s2 _ _ hys) hq).symm]
        exact upd_same
    · rintro H1 ⟨s1, ys, hys, hdt, yl⟩
      have e4 : rv.length = 4 := by rw [hrv.len, rl]
      rw [show R.take rv.length = R by rw [hrv.len, List.take_length]] at hdt
      have hx1 := s1 _ _ hx
      have hen1 := s1 _ _ hen
      have elen := nt.bd.2.2.2
      have ylen : ys.length ≤ 4 := by omega
      refine ⟨_, rfl, _, rfl, _, _, _, _, _, rfl, hx1, ho_Net, hn_Net__enrolled, rfl, .inr (.inr (.inl ⟨rfl, .inl ⟨_, hen1⟩⟩)), A'.De, ek, rfl, rfl, hen1, fun vw hvw => ?_⟩
      have s2 := Same.new (o := valsO vw A'.De) hvw
      have vd : vw ≠ A'.De := (ne_of_none hen1 hvw).symm
      refine ⟨vw, A'.De, ek, rfl, upd_same, by rw [upd_ne vd.symm]; exact hen1, fun q hq => ?_⟩
      have s3 := Same.new (o := .lst (ek.map fun kv => kv.2)) hq
      have s23 := s2.trans s3
      have hys3 := s23 _ _ hys
      refine ⟨D, q, ys, _, rfl, rfl, hys3, upd_same, szn (by rw [List.length_map, ale.len]; omega), fun l hl => ?_⟩
      have s4 := Same.new (o := .lst (ys ++ ek.map fun kv => kv.2)) hl
      have s14 := (s1.trans s23).trans s4
      have hll : (upd (upd (upd H1 vw (valsO vw A'.De)) q (.lst (ek.map fun kv => kv.2))) l (.lst (ys ++ ek.map fun kv => kv.2))) l = some (.lst (ys ++ ek.map fun kv => kv.2)) := upd_same
      have dta : DtAll (upd (upd (upd H1 vw (valsO vw A'.De)) q (.lst (ek.map fun kv => kv.2))) l (.lst (ys ++ ek.map fun kv => kv.2))) (ys ++ ek.map fun kv => kv.2) ((prs R E').map prD) := by
        unfold prs
        rw [List.map_append]
        exact DtAll.append (hdt.same (s23.trans s4)) ((enVals ale).same s14)
      generalize upd (upd (upd H1 vw (valsO vw A'.De)) q (.lst (ek.map fun kv => kv.2))) l (.lst (ys ++ ek.map fun kv => kv.2)) = H2 at s14 hll dta
      generalize (ys ++ ek.map fun kv => kv.2) = zs at hll dta
      clear s2 s3 s23 s4 hvw vd hq hl hys3 hys hdt
      have zlen : zs.length = (prs R E').length := by rw [dta.len, List.length_map]
      refine ⟨l, rfl, ⟨_, SqL.of hll⟩, for_list (xs := zs) (fun i σ H' => ∃ (v4 v5 v6 v7 : Option V), σ = [some (.ref A'.x), some (.int ev), some u, some (.ref D), v4, v5, v6, v7] ∧ Same H2 H' ∧ ((prs R E').take i).findSome? (fun q => if q.1 = ev then none else commonM q.2 ts) = none) ?_ ?_ ?_ ?_⟩
      · exact ⟨_, _, _, _, rfl, Same.refl _, rfl⟩
      · rintro i σ H' _ ⟨_, _, _, _, _, s, _⟩
        exact SqL.of (s _ _ hll)
      · rintro i x σ H3 hi ⟨v4, v5, v6, v7, rfl, s, hno⟩
        obtain ⟨d, hd1, hd2⟩ := dta.getV hi
        obtain ⟨pr, hpr, rfl⟩ := map_get hd1
        have hd3 := hd2.same s
        cases hd3 with
        | @tup a xs ds ha hs =>
          cases hs with
          | cons h1 hs =>
            cases hs with
            | @cons o us _ _ h2 hs =>
              cases h1
              cases hs
              refine ⟨a, _, rfl, SqT.of ha, rfl, _, _, rfl, _, _, rfl, rfl, ?_⟩
              have hgood : Good pr.2 := by
                have hm := List.mem_of_getElem? hpr
                unfold prs at hm
                rcases List.mem_append.mp hm with q | q
                · obtain ⟨z, hz, ez⟩ := List.mem_filterMap.mp q
                  obtain ⟨r0, i0⟩ := z
                  have hr0 : r0 ∈ R := List.fst_mem_of_mem_zipIdx hz
                  cases r0 with
                  | none => cases ez
                  | some p =>
                    cases ez
                    exact nt.rok _ hr0 p rfl
                · obtain ⟨e, he, rfl⟩ := List.mem_map.mp q
                  exact (nt.ent e he).2.2.1
              have fin : (if pr.1 = ev then none else commonM pr.2 ts) = none → ((prs R E').take (i + 1)).findSome? (fun q => if q.1 = ev then none else commonM q.2 ts) = none := fun h => by
                rw [← take_snoc hpr, List.findSome?_append, hno]
                rw [Option.none_or, List.findSome?_cons, h]; rfl
              have hit : ∀ ws, pr.1 ≠ ev → commonM pr.2 ts = some ws → sharedM R E' ev ts = some ws := fun ws n h => by
                unfold sharedM
                rw [← List.take_append_drop i (prs R E'), drop_get hpr, List.findSome?_append, hno]
                rw [Option.none_or, List.findSome?_cons, if_neg n, h]
              refine ⟨_, rfl, _, rfl, rfl, _, rfl, ?_⟩
              rw [intV]
              refine iteD (fun e => ?_) (fun e => ?_)
              · refine ⟨_, rfl, rfl, _, rfl, iteF ⟨_, _, _, _, rfl, s, fin (if_pos e)⟩⟩
              · refine ⟨_, rfl, _, rfl, o, u, pr.2, ts, rfl, h2, (hu.same s14).same s, fun r hr => (hgood.2.1 r hr).1, fun r hr => (gt.2.1 r hr).1, by have := hgood.2.2; omega, by have := gt.2.2; omega, fun en H4 s4 => ?_, fun ws es p H4 hp hp2 s4 => ?_⟩
                · refine ⟨_, rfl, rfl, _, rfl, iteF ⟨_, _, _, _, rfl, s.trans s4, fin (by rw [if_neg e]; exact en)⟩⟩
                · refine ⟨_, rfl, rfl, _, rfl, iteT ⟨_, rfl, ?_⟩⟩
                  exact k _ _ (s14.trans (s.trans s4)) (.inr ⟨ws, p, rfl, hit ws e es, pD_mk hp2⟩)
      · rintro σ H3 ⟨v4, v5, v6, v7, rfl, s, hno⟩
        rw [zlen, List.take_length] at hno
        exact k _ _ (s14.trans s) (.inl ⟨rfl, hno⟩)
end
end My

namespace My
open PySem L2
local macro_rules | `(tactic| walk_at "ne") => `(tactic| first | assumption | exact Ne.symm (by assumption) | exact ne_of_none (by assumption) (by assumption) | exact Ne.symm (ne_of_none (by assumption) (by assumption)))
local macro_rules | `(tactic| walk_at "hp") => `(tactic| first | assumption | with_reducible exact upd_same | (with_reducible refine Eq.trans (upd_ne ?_) ?_; rotate_left; walk_at "hp"; walk_at "ne"))
local macro_rules | `(tactic| walk_at "cnd") => `(tactic| first | omega | (show (0 : Int) < _; omega) | exact ⟨by omega, by omega⟩ | exact Or.inl ⟨by omega, by omega⟩ | exact Or.inr ⟨by omega, by omega⟩ | exact ⟨by omega, by omega, by decide⟩ | exact ⟨by omega, by omega, by omega⟩)
local macro_rules | `(tactic| walk_at "at") => `(tactic| first | exact atC 0 rfl rfl | exact atC 1 rfl rfl | exact atC 2 rfl rfl | exact atC 3 rfl rfl | exact atC 4 rfl rfl | exact atC 5 rfl rfl | exact atC 6 rfl rfl | exact atC 7 rfl rfl)
local macro_rules | `(tactic| walk_at "ix") => `(tactic| first | exact ixC 0 rfl (Nat.le_of_ble_eq_true rfl) | exact ixC 1 rfl (Nat.le_of_ble_eq_true rfl) | exact ixC 2 rfl (Nat.le_of_ble_eq_true rfl) | exact ixC 3 rfl (Nat.le_of_ble_eq_true rfl) | exact ixC 4 rfl (Nat.le_of_ble_eq_true rfl) | exact ixC 5 rfl (Nat.le_of_ble_eq_true rfl))
local macro_rules | `(tactic| walk_at "st") => `(tactic| first
  | refine ⟨_, rfl, ?_⟩
  | refine ⟨_, _, rfl, rfl, (by walk_at "cnd" : (_ : Prop)), ?_⟩
  | refine ⟨_, _, rfl, rfl, ?_⟩
  | refine ⟨rfl, ?_⟩
  | refine Or.inl ⟨_, rfl, ?_⟩
  | refine ⟨_, _, _, _, rfl, rfl, by exact SqL.of (by walk_at "hp"), by walk_at "at", ?_⟩
  | refine ⟨_, _, _, _, rfl, rfl, by exact SqT.of (by walk_at "hp"), by walk_at "at", ?_⟩
  | refine ⟨_, _, _, _, rfl, rfl, by walk_at "hp", by walk_at "ix", ?_⟩
  | refine ⟨_, _, rfl, Or.inl (by exact SqL.of (by walk_at "hp")), ?_⟩
  | refine ⟨_, _, rfl, Or.inr (by exact SqT.of (by walk_at "hp")), ?_⟩)
local macro_rules | `(tactic| walk_at "so") => `(tactic| first
  | refine ⟨_, _, _, _, _, rfl, by walk_at "hp", by assumption, by assumption, rfl, ?_⟩
  | refine ⟨_, _, _, _, rfl, by walk_at "hp", by assumption, by assumption, Nat.le_of_ble_eq_true rfl, ?_⟩
  | refine ⟨_, _, _, rfl, by walk_at "hp", rfl, ?_⟩
  | walk_at "st")
local macro_rules | `(tactic| walk_at "ro") => `(tactic| repeat walk_at "so")
local macro_rules | `(tactic| walk_at "run") => `(tactic| repeat walk_at "st")

def spEnroll (K : PySem.W.Frag) (C : Addr) : Sp := fun vs H Q _ => ∃ (ρ : Addr → Nat) (A : NA) (R : Regs) (E : List Ent) (last lost : Int) (sent : List (List Nat)) (N : Nat) (y u : V) (ts : List Row3) (ev : Nat), vs = [.ref A.x, .int ev, u] ∧ ev < 4 ∧ NtOk K C H ρ A R E last lost sent N y ∧ Dt H u (fD ts) ∧ Good ts ∧ last < 500 ∧ N < 500 ∧ E.length < 500 ∧
  (∀ ws p H', sharedM R E ev ts = some ws → Same H H' → Dt H' (.ref p) (pD ws) → Q (.ref p) H') ∧
  (sharedM R E ev ts = none → ∀ ρ' y' H', (∀ b o, H b = some o → ρ' b = ρ b) → NtOk K C H' ρ' A R (E ++ [⟨last + 1, ev, ts, []⟩]) (last + 1) lost sent (N + 1) y' → NetChg ρ H H' → TS H H' → Q (.int (last + 1)) H')
def firstE (E : List Ent) (ws : List Nat) : Option Ent := E.find? fun e => meetsM e.ts ws
def comeE (E : List Ent) (ws : List Nat) : Option Ent := match firstE E ws with
  | some e => if e.rg.length = 8 then none else some e
  | none => none
def spCome (K : PySem.W.Frag) (C : Addr) : Sp := fun vs H Q _ => ∃ (ρ : Addr → Nat) (A : NA) (R : Regs) (E : List Ent) (last lost : Int) (sent : List (List Nat)) (N : Nat) (y u : V) (ws : List Nat), vs = [.ref A.x, u] ∧ NtOk K C H ρ A R E last lost sent N y ∧ Dt H u (pD ws) ∧ ws.length = 6 ∧ (∀ n ∈ ws, n < 2 ^ 32) ∧
  (comeE E ws = none → ∀ H', NtOk K C H' ρ A R E last (lost + 1) sent N y → NetChg ρ H H' → TS H H' → Q .non H') ∧
  (∀ e, comeE E ws = some e → ∀ H', NtOk K C H' ρ A R (setRg E e.nm (e.rg ++ [ws])) last lost sent N y → NetChg ρ H H' → TS H H' → Q (.int e.nm) H')
theorem find_filter {α : Type} (p : α → Bool) : ∀ (l : List α), (l.find? p = none ∧ l.filter p = []) ∨ ∃ e r, l.find? p = some e ∧ l.filter p = e :: r
  | [] => .inl ⟨rfl, rfl⟩
  | x :: l => by
    by_cases h : p x = true
    · exact .inr ⟨x, l.filter p, List.find?_cons_of_pos h, List.filter_cons_of_pos h⟩
    · rw [List.find?_cons_of_neg h, List.filter_cons_of_neg h]
      exact find_filter p l
theorem Desc.congrT {f : Path → List Int} {S : Int → Prop} {T T' : Int → Path} (h : Desc f S T) (e : ∀ x, S x → T x = T' x) : Desc f S T' := ⟨h.asc, fun p x => by
  rw [h.iff]
  constructor
  · rintro ⟨a, b⟩; exact ⟨a, by rw [← e x a]; exact b⟩
  · rintro ⟨a, b⟩; exact ⟨a, by rw [e x a]; exact b⟩⟩
theorem TreeV.congrT {K : PySem.W.Frag} {H : Hp} {v : V} {S : Int → Prop} {T T' : Int → Path} {N : Nat} (h : TreeV K H v S T N) (e : ∀ x, S x → T x = T' x) : TreeV K H v S T' N := by
  obtain ⟨d, f, a, b, c⟩ := h
  exact ⟨d, f, a, b, c.congrT e⟩
section
variable {P : Program} {w : World} {K : PySem.W.Frag} {mg : Str → Option Value} {base : Heap} {C_Net C_NotValid : Addr}{A_EMPTY : Addr}
abbrev s_Net_enroll : Stmt := inClass (topS 35) 1
abbrev ns_Net_enroll : List Str := ["self", "environment", "tests", "packet"]
theorem sc_Net_enroll : FnScope ns_Net_enroll ["self", "environment", "tests"] (defScope s_Net_enroll) := ⟨rfl, rfl, rfl, by decide +kernel, rfl, by decide +kernel, by decide +kernel⟩

theorem ok_Net_enroll {f : Addr} {fd : FuncData} (F : Fun K "enroll" "Net.enroll" s_Net_enroll f fd) (T : Txt K mg C_Net C_NotValid A_EMPTY) (D_is_environment : Dfn P w K mg base CX0 4 "is_environment" ["value"] spEnv) (D_is_filter : Dfn P w K mg base CX0 5 "is_filter" ["value"] spFl) (D_Net_shared_packet : Mth P w K mg base CX0 2 C_Net "_shared_packet" ["self", "environment", "tests"] (spShared K C_Net)) (D_with_filter : Dfn P w K mg base CX0 9 "with_filter" ["tree", "name", "tests"] (spWithFilter K)) : FnOk P w K mg base (L2.CX P w) 10 f fd ["self", "environment", "tests"] (spEnroll K C_Net) := by
  have ho_Net := T.o_Net; have hn_Net__regions := T.n_Net__regions; have hn_Net__enrolled := T.n_Net__enrolled; have hn_Net__rings := T.n_Net__rings; have hn_Net__tree := T.n_Net__tree; have hn_Net__last_name := T.n_Net__last_name; have hn_Net__sent := T.n_Net__sent; have hn_Net__lost := T.n_Net__lost
  refine F.okX sc_Net_enroll (fun vs H Q E h => ?_) (fun cdv A outer s H vs Q E hr h => ?_)
  · obtain ⟨ρ, A, R, E', last, lost, sent, N, y, u, ts, ev, rfl, _⟩ := h
    rfl
  · obtain ⟨ρ, A', R, E', last, lost, sent, N, y, u, ts, ev, rfl, e4, nt, hu, gt, hlast, hN, hE, ks, kn⟩ := h
    refine ⟨_, (pss_cons (ps_if (PW.pt (pw_or (pt_not (pt_val (pe_dcall D_is_environment (hr.mono (by decide)) (by rfl) pass0 (pa_cons (pv 1) pa_nil)))) (pw_or1 (pt_not (pt_val (pe_dcall D_is_filter (hr.mono (by decide)) (by rfl) pass0 (pa_cons (pv 2) pa_nil))))))) (pss_one (ps_raise (by rfl) (takes_of rfl rfl rfl rfl) (pmk_x T.x_NotValid (by rfl)))) pss_nil)
  (pss_cons (ps_set (i := 3) sc_Net_enroll.nd rfl (Or.inl rfl) (pe_dmeth (pv 0) D_Net_shared_packet (hr.mono (by decide)) pass0 (pa_cons (pv 1) (pa_cons (pv 2) pa_nil))))
  (pss_cons (ps_if (pt_cmpR op_notN (pv 3) pe_non (nomark _)) (pss_one (ps_ret (pv 3))) pss_nil)
  (pss_cons (kSFldA K (pv 0) pe_int in_add)
  (pss_cons (ps_dput (units1 hr) (kFld K (pv 0) rfl) (kFld K (pv 0) rfl) (pe_tup (pa_cons (pv 1) (pa_cons (pv 2) pa_nil))) rfl)
  (pss_cons (ps_dput (units1 hr) (kFld K (pv 0) rfl) (kFld K (pv 0) rfl) (pe_lst pa_nil) rfl)
  (pss_cons (kSFld K (pv 0) (pe_dcall D_with_filter (hr.mono (by decide)) (by rfl) pass0 (pa_cons (kFld K (pv 0) rfl) (pa_cons (kFld K (pv 0) rfl) (pa_cons (pv 2) pa_nil)))) rfl)
  (pss_one (ps_ret (kFld K (pv 0) rfl)))))))))), ?_⟩
    refine ⟨_, rfl, ev, rfl, e4, _, rfl, ?_⟩
    refine iteF ?_
    refine ⟨_, rfl, u, fD ts, rfl, hu, fun ds e => (by cases e; rw [List.length_map]; have := gt.2.2; omega), fun H1 s1 => ⟨_, rfl, ?_⟩⟩
    rw [isFl_good gt]
    refine iteF ?_
    have nt1 := nt.same s1
    have hu1 := hu.same s1
    refine ⟨_, rfl, A'.x, A'.dx, _, rfl, nt1.ins, rfl, _, rfl, _, rfl, ρ, A', R, E', last, lost, sent, N, y, u, ts, ev, rfl, nt1, hu1, gt, fun v H2 s2 hv => ?_⟩
    have s12 := s1.trans s2
    rcases hv with ⟨rfl, hno⟩ | ⟨ws, p, rfl, hso, hws⟩
    · refine ⟨_, rfl, rfl, _, rfl, ?_⟩
      refine iteF ?_
      have nt2 := nt.same s12
      have hx := nt2.ins
      obtain ⟨ek, hen, ale⟩ := nt2.en
      obtain ⟨ik, hri, ali⟩ := nt2.ri
      obtain ⟨Tt, hT, hT2⟩ := nt2.tree
      walk_at "ro"
      have fno : findE E' (last + 1) = none := List.find?_eq_none.mpr fun e he => by
        have := (nt.ent e he).2.1
        simp
        omega
      have xd : A'.x ≠ A'.De := fun z => by have := nt.lx; rw [z, nt.lDe] at this; cases this
      have xr : A'.x ≠ A'.Dr := fun z => by have := nt.lx; rw [z, nt.lDr] at this; cases this
      have dr : A'.De ≠ A'.Dr := fun z => by have := nt.lDe; rw [z, nt.lDr] at this; cases this
      have hu2 := hu.same s12
      have T2 := hT
      refine ⟨_, _, hx, Nat.le_of_ble_eq_true rfl, ?_⟩
      generalize eH3 : upd H2 A'.x (.ins C_Net A'.dx _) = H3
      have hx3 : H3 A'.x = some (.ins C_Net A'.dx (flds A' y (last + 1) lost)) := by rw [← eH3]; exact upd_same
      have o3 : ∀ b, b ≠ A'.x → H3 b = H2 b := fun b hb => by rw [← eH3, upd_ne hb]
      have tu3 : ∀ b xs, H2 b = some (.tup xs) → H3 b = some (.tup xs) := fun b xs e => by rw [o3 b (ne_of e hx (by intro z; cases z))]; exact e
      have he3 : H3 A'.De = some (.dK ek) := by rw [o3 _ xd.symm]; exact hen
      have hi3 : H3 A'.Dr = some (.dK ik) := by rw [o3 _ xr.symm]; exact hri
      have al3 : ∀ b o, H2 b = some o → ∃ o', H3 b = some o' := fun b o e => by
        by_cases q : b = A'.x
        · rw [q]; exact ⟨_, hx3⟩
        · exact ⟨o, by rw [o3 b q]; exact e⟩
      walk_at "ro"
      refine ⟨szl rfl, fun t ht => ?_⟩
      have s4 := Same.new (o := .tup [.int (ev : Int), u]) ht
      have ht4 : (upd H3 t (.tup [.int (ev : Int), u])) t = some (.tup [.int (ev : Int), u]) := upd_same
      generalize upd H3 t (.tup [.int (ev : Int), u]) = H4 at s4 ht4 ⊢
      have hx4 := s4 _ _ hx3
      have he4 := s4 _ _ he3
      have hi4 := s4 _ _ hi3
      walk_at "ro"
      have dp := DPut.k (k := (Sum.inl (last + 1) : L2.Key)) (v := .ref t) he4 (szt (by rw [ale.len]; omega))
      rw [putK_new _ (ale.none _ fno)] at dp
      refine ⟨A'.De, _, rfl, dp, ?_⟩
      generalize eH5 : upd H4 A'.De (.dK (ek ++ [(Sum.inl (last + 1), .ref t)])) = H5
      have he5 : H5 A'.De = some (.dK (ek ++ [(Sum.inl (last + 1), .ref t)])) := by rw [← eH5]; exact upd_same
      have o5 : ∀ b, b ≠ A'.De → H5 b = H4 b := fun b hb => by rw [← eH5, upd_ne hb]
      have hx5 : H5 A'.x = some (.ins C_Net A'.dx (flds A' y (last + 1) lost)) := by rw [o5 _ xd]; exact hx4
      have hi5 : H5 A'.Dr = some (.dK ik) := by rw [o5 _ dr.symm]; exact hi4
      refine ⟨szl rfl, fun L hL => ?_⟩
      have s6 := Same.new (o := .lst []) hL
      have hL6 : (upd H5 L (.lst [])) L = some (.lst []) := upd_same
      generalize upd H5 L (.lst []) = H6 at s6 hL6 ⊢
      have hx6 := s6 _ _ hx5
      have hi6 := s6 _ _ hi5
      have he6 := s6 _ _ he5
      walk_at "ro"
      have dp2 := DPut.k (k := (Sum.inl (last + 1) : L2.Key)) (v := .ref L) hi6 (szt (by rw [ali.len]; omega))
      rw [putK_new _ (ali.none _ fno)] at dp2
      refine ⟨A'.Dr, _, rfl, dp2, ?_⟩
      generalize eH7 : upd H6 A'.Dr (.dK (ik ++ [(Sum.inl (last + 1), .ref L)])) = H7
      have hi7 : H7 A'.Dr = some (.dK (ik ++ [(Sum.inl (last + 1), .ref L)])) := by rw [← eH7]; exact upd_same
      have o7 : ∀ b, b ≠ A'.Dr → H7 b = H6 b := fun b hb => by rw [← eH7, upd_ne hb]
      have hx7 : H7 A'.x = some (.ins C_Net A'.dx (flds A' y (last + 1) lost)) := by rw [o7 _ xr]; exact hx6
      have he7 : H7 A'.De = some (.dK (ek ++ [(Sum.inl (last + 1), .ref t)])) := by rw [o7 _ dr]; exact he6
      have nLr : L ≠ A'.Dr := (ne_of_none hi5 hL).symm
      have hL7 : H7 L = some (.lst []) := by rw [o7 _ nLr]; exact hL6
      -- what was there stays, but for the three
      have old : ∀ b o, H2 b = some o → b ≠ A'.x → b ≠ A'.De → b ≠ A'.Dr → H7 b = some o := fun b o e h1 h2 h3 => by
        rw [o7 b h3]
        refine s6 b o ?_
        rw [o5 b h2]
        refine s4 b o ?_
        rw [o3 b h1]; exact e
      have tus : TS H2 H7 := fun b xs e => old b _ e (ne_of e hx (by intro z; cases z)) (ne_of e hen (by intro z; cases z)) (ne_of e hri (by intro z; cases z))
      have newL : ∀ b o, H2 b = some o → b ≠ L := fun b o e z => by
        subst z
        obtain ⟨o', e'⟩ := al3 b o e
        have e4 := s4 _ _ e'
        by_cases q : b = A'.De
        · rw [q] at hL; rw [hL] at he5; cases he5
        · rw [o5 b q, e4] at hL; cases hL
      have ht7 : H7 t = some (.tup [.int (ev : Int), u]) := by
        rw [o7 t (ne_of_none hi3 ht).symm]
        refine s6 t _ ?_
        rw [o5 t (ne_of_none he3 ht).symm]
        exact ht4
      have hT7 : TreeV K H7 y (fun z => z ∈ E'.map (·.nm)) (fun z => if z = last + 1 then ts else Tt z) N := (hT.ts tus).congrT fun z hz => by
        obtain ⟨e, he, rfl⟩ := List.mem_map.mp hz
        have := (nt.ent e he).2.1
        rw [if_neg (by omega)]
      walk_at "ro"
      refine ⟨y, u, last + 1, _, _, N, rfl, hT7, ?_, ?_, fun z => ?_, by omega, fun y' H8 s8 hy8 => ?_⟩
      · rw [if_pos rfl]; exact (hu2.ts tus (fD_tonly _)).tvI
      · rw [if_pos rfl]; exact gt.path
      · obtain ⟨e, he, q⟩ := List.mem_map.mp z
        have := (nt.ent e he).2.1
        omega
      have hx8 := s8 _ _ hx7
      walk_at "ro"
      generalize eH9 : upd H8 A'.x (.ins C_Net A'.dx _) = H9
      have hx9 : H9 A'.x = some (.ins C_Net A'.dx (flds A' y' (last + 1) lost)) := by rw [← eH9]; exact upd_same
      have o9 : ∀ b, b ≠ A'.x → H9 b = H8 b := fun b hb => by rw [← eH9, upd_ne hb]
      have ts9 : TS H8 H9 := fun b xs e => by rw [o9 b (ne_of e hx8 (by intro z; cases z))]; exact e
      have keep9 : ∀ b o, H7 b = some o → b ≠ A'.x → H9 b = some o := fun b o e h => by rw [o9 b h]; exact s8 _ _ e
      have ts29 : TS H2 H9 := (tus.trans (Same.ts s8)).trans ts9
      have oth : ∀ b o, H2 b = some o → ρ b ≠ 1 → ρ b ≠ 2 → ρ b ≠ 3 → H9 b = some o := fun b o e h1 h2 h3 => by
        have n1 : b ≠ A'.x := fun z => h1 (by rw [z]; exact nt.lx)
        exact keep9 b o (old b o e n1 (fun z => h2 (by rw [z]; exact nt.lDe)) (fun z => h3 (by rw [z]; exact nt.lDr))) n1
      obtain ⟨rv, r1, r2⟩ := nt2.rg
      obtain ⟨sp, p1, p2⟩ := nt2.se
      have lab : ∀ b o, H2 b = some o → (if b = L then rgL (last + 1) else ρ b) = ρ b := fun b o e => if_neg (newL b o e)
      walk_at "ro"
      refine kn hno (fun b => if b = L then rgL (last + 1) else ρ b) y' H9 (fun b o e => lab b o (s12 b o e)) ⟨hx9, ⟨rv, oth _ _ r1 (by rw [nt.lLr]; decide) (by rw [nt.lLr]; decide) (by rw [nt.lLr]; decide), r2.ts ts29⟩,
        ⟨_, keep9 _ _ he7 xd.symm, Al.snoc (e := ⟨last + 1, ev, ts, []⟩) ?_ (ale.imp fun e v q => q.ts ts29 (entD_tonly e))⟩,
        ⟨_, keep9 _ _ hi7 xr.symm, Al.snoc (e := ⟨last + 1, ev, ts, []⟩) ?_ (ali.imp fun e v q => q.keep (fun b o e' l => oth b o e' (by rw [l]; unfold rgL; omega) (by rw [l]; unfold rgL; omega) (by rw [l]; unfold rgL; omega)) ts29 lab)⟩,
        ⟨_, (hy8.ts ts9).congr fun z => ?_, fun x hx => ?_⟩, ⟨sp, oth _ _ p1 (by rw [nt.lLs]; decide) (by rw [nt.lLs]; decide) (by rw [nt.lLs]; decide), p2.ts ts29 (tonlyPs _)⟩, ?_, fun x hx => ?_, nt.rok, nt.rlen, by have := nt.l0; omega, ⟨by omega, by omega, nt.bd.2.2.1, by simp; omega⟩,
        (lab _ _ hx).trans nt.lx, (lab _ _ hen).trans nt.lDe, (lab _ _ hri).trans nt.lDr, (lab _ _ p1).trans nt.lLs, (lab _ _ r1).trans nt.lLr⟩ (fun b o e h => oth b o (s12 b o e) (fun z => h (by rw [z]; unfold netL; omega)) (fun z => h (by rw [z]; unfold netL; omega)) (fun z => h (by rw [z]; unfold netL; omega))) ((Same.ts s12).trans ts29)
      · exact .tup (ts9 _ _ (s8 _ _ ht7)) (.cons (.int _) (.cons (hu2.ts ts29 (fD_tonly _)) .nil))
      · exact ⟨L, [], rfl, if_pos rfl, keep9 _ _ hL7 (fun z => by rw [z] at hL7; rw [hx7] at hL7; cases hL7), .nil⟩
      · rw [List.map_append, List.mem_append]
        show _ ↔ _ ∨ z ∈ [last + 1]
        rw [List.mem_singleton]
      · rcases List.mem_append.mp hx with q | q
        · have := (nt.ent x q).2.1
          rw [if_neg (by omega)]
          exact hT2 x q
        · rw [List.mem_singleton.mp q]; exact if_pos rfl
      · rw [List.map_append]
        refine List.pairwise_append.mpr ⟨nt.asc, List.pairwise_singleton _ _, fun a ha b hb => ?_⟩
        obtain ⟨e, he, rfl⟩ := List.mem_map.mp ha
        have := (nt.ent e he).2.1
        have hb' : b = last + 1 := List.mem_singleton.mp hb
        omega
      · rcases List.mem_append.mp hx with q | q
        · obtain ⟨b1, b2, b3⟩ := nt.ent x q
          exact ⟨b1, by omega, b3⟩
        · rw [List.mem_singleton.mp q]
          have := nt.l0
          exact ⟨by show 1 ≤ last + 1; omega, Int.le_refl _, gt, e4, Nat.zero_le _⟩
    · refine ⟨_, rfl, rfl, _, rfl, ?_⟩
      refine iteT ⟨_, rfl, ks ws p H2 hso s12 hws⟩
end
end My

namespace My
open PySem L2
local macro_rules | `(tactic| walk_at "ne") => `(tactic| first | assumption | exact Ne.symm (by assumption) | exact ne_of_none (by assumption) (by assumption) | exact Ne.symm (ne_of_none (by assumption) (by assumption)))
local macro_rules | `(tactic| walk_at "hp") => `(tactic| first | assumption | with_reducible exact upd_same | (with_reducible refine Eq.trans (upd_ne ?_) ?_; rotate_left; walk_at "hp"; walk_at "ne"))
local macro_rules | `(tactic| walk_at "cnd") => `(tactic| first | omega | (show (0 : Int) < _; omega) | exact ⟨by omega, by omega⟩ | exact Or.inl ⟨by omega, by omega⟩ | exact Or.inr ⟨by omega, by omega⟩ | exact ⟨by omega, by omega, by decide⟩ | exact ⟨by omega, by omega, by omega⟩)
local macro_rules | `(tactic| walk_at "at") => `(tactic| first | exact atC 0 rfl rfl | exact atC 1 rfl rfl | exact atC 2 rfl rfl | exact atC 3 rfl rfl | exact atC 4 rfl rfl | exact atC 5 rfl rfl | exact atC 6 rfl rfl | exact atC 7 rfl rfl)
local macro_rules | `(tactic| walk_at "ix") => `(tactic| first | exact ixC 0 rfl (Nat.le_of_ble_eq_true rfl) | exact ixC 1 rfl (Nat.le_of_ble_eq_true rfl) | exact ixC 2 rfl (Nat.le_of_ble_eq_true rfl) | exact ixC 3 rfl (Nat.le_of_ble_eq_true rfl) | exact ixC 4 rfl (Nat.le_of_ble_eq_true rfl) | exact ixC 5 rfl (Nat.le_of_ble_eq_true rfl))
local macro_rules | `(tactic| walk_at "st") => `(tactic| first
  | refine ⟨_, rfl, ?_⟩
  | refine ⟨_, _, rfl, rfl, (by walk_at "cnd" : (_ : Prop)), ?_⟩
  | refine ⟨_, _, rfl, rfl, ?_⟩
  | refine ⟨rfl, ?_⟩
  | refine Or.inl ⟨_, rfl, ?_⟩
  | refine ⟨_, _, _, _, rfl, rfl, by exact SqL.of (by walk_at "hp"), by walk_at "at", ?_⟩
  | refine ⟨_, _, _, _, rfl, rfl, by exact SqT.of (by walk_at "hp"), by walk_at "at", ?_⟩
  | refine ⟨_, _, _, _, rfl, rfl, by walk_at "hp", by walk_at "ix", ?_⟩
  | refine ⟨_, _, rfl, Or.inl (by exact SqL.of (by walk_at "hp")), ?_⟩
  | refine ⟨_, _, rfl, Or.inr (by exact SqT.of (by walk_at "hp")), ?_⟩)
local macro_rules | `(tactic| walk_at "so") => `(tactic| first
  | refine ⟨_, _, _, _, _, rfl, by walk_at "hp", by assumption, by assumption, rfl, ?_⟩
  | refine ⟨_, _, _, _, rfl, by walk_at "hp", by assumption, by assumption, Nat.le_of_ble_eq_true rfl, ?_⟩
  | refine ⟨_, _, _, rfl, by walk_at "hp", rfl, ?_⟩
  | walk_at "st")
local macro_rules | `(tactic| walk_at "ro") => `(tactic| repeat walk_at "so")
local macro_rules | `(tactic| walk_at "run") => `(tactic| repeat walk_at "st")

def areR (R : Regs) : Bool := decide (R.length = 4) && ((List.range (regP R).length).all fun i => (((regP R).map (·.2)).drop (i + 1)).all fun p => (commonM ((((regP R).map (·.2)).getD i [])) p).isNone)
def spAreReg (K : PySem.W.Frag) : Sp := fun vs H Q _ => ∃ (l : Addr) (rv : List V) (R : Regs), vs = [.ref l] ∧ H l = some (.lst rv) ∧ RegsV H rv R ∧ RegOk R ∧ R.length ≤ 100 ∧ ∀ H', Same H H' → Q (.bl (areR R)) H'
section
variable {P : Program} {w : World} {K : PySem.W.Frag} {mg : Str → Option Value} {base : Heap} {C_Net C_NotValid : Addr}{A_EMPTY : Addr}
abbrev s_Net_come : Stmt := inClass (topS 35) 2
abbrev ns_Net_come : List Str := ["self", "packet", "names"]
theorem sc_Net_come : FnScope ns_Net_come ["self", "packet"] (defScope s_Net_come) := ⟨rfl, rfl, rfl, by decide +kernel, rfl, by decide +kernel, by decide +kernel⟩

theorem ok_Net_come {f : Addr} {fd : FuncData} (F : Fun K "come" "Net.come" s_Net_come f fd) (T : Txt K mg C_Net C_NotValid A_EMPTY) (D_is_packet : Dfn P w K mg base CX0 4 "is_packet" ["value"] spPk) (D_found : Dfn P w K mg base CX0 9 "found" ["tree", "packet"] (spFound K)) : FnOk P w K mg base (L2.CX P w) 10 f fd ["self", "packet"] (spCome K C_Net) := by
  have ho_Net := T.o_Net; have hn_Net__regions := T.n_Net__regions; have hn_Net__enrolled := T.n_Net__enrolled; have hn_Net__rings := T.n_Net__rings; have hn_Net__tree := T.n_Net__tree; have hn_Net__last_name := T.n_Net__last_name; have hn_Net__sent := T.n_Net__sent; have hn_Net__lost := T.n_Net__lost
  refine F.okX sc_Net_come (fun vs H Q E h => ?_) (fun cdv A outer s H vs Q E hr h => ?_)
  · obtain ⟨ρ, A, R, E', last, lost, sent, N, y, u, ws, rfl, _⟩ := h
    rfl
  · obtain ⟨ρ, A', R, E', last, lost, sent, N, y, u, ws, rfl, nt, hu, hl, hw, kn, ks⟩ := h
    refine ⟨_, (pss_cons (ps_if (pt_not (pt_val (pe_dcall D_is_packet (hr.mono (by decide)) (by rfl) pass0 (pa_cons (pv 1) pa_nil)))) (pss_one (ps_raise (by rfl) (takes_of rfl rfl rfl rfl) (pmk_x T.x_NotValid (by rfl)))) pss_nil)
  (pss_cons (ps_set (i := 2) sc_Net_come.nd rfl (Or.inl rfl) (pe_dcall D_found (hr.mono (by decide)) (by rfl) pass0 (pa_cons (kFld K (pv 0) rfl) (pa_cons (pv 1) pa_nil))))
  (pss_cons (ps_if (PW.pt (pw_or (pt_not (pt_truth (pv 2) (by intro _; rfl))) (pw_or1 (pt_cmpR op_eq (pe_callB (kLen K) (by rfl) T.b_len (by decide +kernel) (pa_cons (pe_dget (units1 hr) (kFld K (pv 0) rfl) (pe_ix (kIxL K) (pv 2) pe_int (fun _ _ => rfl)) (fun _ _ => rfl)) pa_nil)) (pe_gint (by rfl) T.c_RING) (nomark _))))) (pss_cons (kSFldA K (pv 0) pe_int in_add)
  (pss_one (ps_ret pe_non))) pss_nil)
  (pss_cons (ps_expr (kBM K PySem.F.plainAttrs_list PySem.F.slot_list_append PySem.F.type_list_append mt_append (pe_dget (units1 hr) (kFld K (pv 0) rfl) (pe_ix (kIxL K) (pv 2) pe_int (fun _ _ => rfl)) (fun _ _ => rfl)) (pa_cons (pv 1) pa_nil)))
  (pss_one (ps_ret (pe_ix (kIxL K) (pv 2) pe_int (fun _ _ => rfl)))))))), ?_⟩
    refine ⟨_, rfl, u, pD ws, rfl, hu, fun ds e => (by cases e; rw [List.length_map]; omega), fun H1 s1 => ⟨_, rfl, ?_⟩⟩
    rw [isPk_good hl hw]
    refine iteF ?_
    have nt1 := nt.same s1
    have hu1 := hu.same s1
    have hx1 := nt1.ins
    obtain ⟨Tt, hT, hT2⟩ := nt1.tree
    walk_at "ro"
    refine ⟨y, u, ws, _, Tt, N, rfl, hT, hu1.tvP, hl, ⟨E'.map (·.nm), by rw [List.length_map]; have := nt.bd.2.2.2; omega, fun x hx => hx⟩, fun yl L H2 s2 hnew hyl hasc hll hmem => ?_⟩
    have s12 := s1.trans s2
    have nt2 := nt.same s12
    have hu2 := hu.same s12
    have hx := nt2.ins
    obtain ⟨ik, hri1, ali1⟩ := nt1.ri
    have hri := s2 _ _ hri1
    have ali : Al (riR H2 ρ) ik E' := ali1.imp fun e v q => q.keep (fun b o e' _ => s2 b o e') (Same.ts s2) fun _ _ _ => rfl
    have eL : L = (E'.filter fun e => meetsM e.ts ws).map (·.nm) := Asc.ext hasc (by
        have : ((E'.filter fun e => meetsM e.ts ws).map (·.nm)).Sublist (E'.map (·.nm)) := List.filter_sublist.map _
        exact nt.asc.sublist this) fun x => by
      rw [hmem, List.mem_map, List.mem_map]
      constructor
      · rintro ⟨⟨e, he, rfl⟩, hm⟩
        rw [hT2 e he] at hm
        exact ⟨e, List.mem_filter.mpr ⟨he, met_iff.mpr hm⟩, rfl⟩
      · rintro ⟨e, he, rfl⟩
        obtain ⟨h1, h2⟩ := List.mem_filter.mp he
        exact ⟨⟨e, h1, rfl⟩, by rw [hT2 e h1]; exact met_iff.mp h2⟩
    have lostStep : comeE E' ws = none → ∀ (σ : L2.St), tSeq (sFldAug K (tVar 0) (tC (.int 1)) rAdd "_lost") (tRet (tC .non)) { nx := fun x H' => Q V.non H', rt := Q } ([some (.ref A'.x), some u, some (.ref yl)]) H2 := fun hc σ => by
      walk_at "ro"
      refine ⟨_, _, hx, Nat.le_of_ble_eq_true rfl, ?_⟩
      generalize eH3 : upd H2 A'.x (.ins C_Net A'.dx _) = H3
      have hx3 : H3 A'.x = some (.ins C_Net A'.dx (flds A' y last (lost + 1))) := by rw [← eH3]; exact upd_same
      have o3 : ∀ b, b ≠ A'.x → H3 b = H2 b := fun b hb => by rw [← eH3, upd_ne hb]
      have ts3 : TS H2 H3 := fun b xs e => by rw [o3 b (ne_of e hx (by intro z; cases z))]; exact e
      have oth : ∀ b o, H2 b = some o → ρ b ≠ 1 → H3 b = some o := fun b o e h1 => by rw [o3 b (fun z => h1 (by rw [z]; exact nt.lx))]; exact e
      obtain ⟨rv, r1, r2⟩ := nt2.rg
      obtain ⟨ek, e1, e2⟩ := nt2.en
      obtain ⟨sp, p1, p2⟩ := nt2.se
      obtain ⟨Tt', t1, t2⟩ := nt2.tree
      exact kn hc H3 ⟨hx3, ⟨rv, oth _ _ r1 (by rw [nt.lLr]; decide), r2.ts ts3⟩, ⟨ek, oth _ _ e1 (by rw [nt.lDe]; decide), e2.imp fun e v q => q.ts ts3 (entD_tonly e)⟩,
        ⟨ik, oth _ _ hri (by rw [nt.lDr]; decide), ali.imp fun e v q => q.keep (fun b o e' l => oth b o e' (by rw [l]; unfold rgL; omega)) ts3 fun _ _ _ => rfl⟩, ⟨Tt', t1.ts ts3, t2⟩, ⟨sp, oth _ _ p1 (by rw [nt.lLs]; decide), p2.ts ts3 (tonlyPs _)⟩,
        nt.asc, nt.ent, nt.rok, nt.rlen, nt.l0, nt.bd, nt.lx, nt.lDe, nt.lDr, nt.lLs, nt.lLr⟩ (fun b o e h => oth b o (s12 b o e) (fun z => h (by rw [z]; unfold netL; omega))) ((Same.ts s12).trans ts3)
    rcases find_filter (fun e : Ent => meetsM e.ts ws) E' with ⟨f1, f2⟩ | ⟨e, r, f1, f2⟩
    · have hc : comeE E' ws = none := by unfold comeE firstE; rw [f1]
      rw [f2] at eL
      subst eL
      refine ⟨_, rfl, false, .inl ⟨_, SqL.of hyl, rfl⟩, ?_⟩
      refine iteT ?_
      exact lostStep hc []
    · rw [f2] at eL
      subst eL
      have hm : e ∈ E' := List.mem_of_find?_eq_some f1
      have he := findE_of nt.asc hm
      obtain ⟨v, hv, a, ps, rfl, ra, ha1, hps1⟩ := ali1.some e.nm he
      have ha := s2 _ _ ha1
      have hps := hps1.same s2
      have nay : yl ≠ a := (ne_of_none ha1 hnew).symm
      have plen : ps.length = e.rg.length := by rw [hps.len, List.length_map]
      refine ⟨_, rfl, true, .inl ⟨_, SqL.of hyl, rfl⟩, ?_⟩
      refine iteF ?_
      walk_at "ro"
      refine ⟨_, _, rfl, dgetE hri hv, ?_⟩
      refine ⟨a, ps, rfl, .inl (SqL.of ha), rfl, _, rfl, ?_⟩
      have e8 : decide (V.int (ps.length : Int) = V.int 8) = decide (e.rg.length = 8) := by
        rw [show (8 : Int) = ((8 : Nat) : Int) from rfl, intV, plen]
      rw [e8]
      refine iteD (fun h8 => ?_) (fun h8 => ?_)
      · have hc : comeE E' ws = none := by unfold comeE firstE; rw [f1]; exact if_pos h8
        exact lostStep hc []
      · have hc : comeE E' ws = some e := by unfold comeE firstE; rw [f1]; exact if_neg h8
        have hle := (nt.ent e hm).2.2.2.2
        walk_at "ro"
        refine ⟨_, _, rfl, dgetE hri hv, ?_⟩
        refine ⟨.inl ⟨rfl, _, SqL.of ha⟩, ?_⟩
        walk_at "ro"
        refine ⟨a, ps, u, rfl, rfl, ha, szt (by omega), ?_⟩
        obtain ⟨nt3, nc, ts⟩ := nt2.setRing he ra ha (ps' := ps ++ [u]) (rg := e.rg ++ [ws]) (by rw [List.map_append]; exact DtAll.snoc hps hu2) (by simp; omega) hri ali hv
        have hyl3 : (upd H2 a (.lst (ps ++ [u]))) yl = some (.lst (V.int e.nm :: (r.map (·.nm)).map V.int)) := by rw [upd_ne nay]; exact hyl
        refine ⟨_, rfl, ?_⟩
        refine ⟨_, _, _, _, rfl, rfl, SqL.of hyl3, atC 0 rfl rfl, ?_⟩
        · exact ks e hc _ nt3 (fun b o e h => nc b o (s12 b o e) h) ((Same.ts s12).trans ts)
end
end My

namespace My
open PySem L2
local macro_rules | `(tactic| walk_at "ne") => `(tactic| first | assumption | exact Ne.symm (by assumption) | exact ne_of_none (by assumption) (by assumption) | exact Ne.symm (ne_of_none (by assumption) (by assumption)))
local macro_rules | `(tactic| walk_at "hp") => `(tactic| first | assumption | with_reducible exact upd_same | (with_reducible refine Eq.trans (upd_ne ?_) ?_; rotate_left; walk_at "hp"; walk_at "ne"))
local macro_rules | `(tactic| walk_at "cnd") => `(tactic| first | omega | (show (0 : Int) < _; omega) | exact ⟨by omega, by omega⟩ | exact Or.inl ⟨by omega, by omega⟩ | exact Or.inr ⟨by omega, by omega⟩ | exact ⟨by omega, by omega, by decide⟩ | exact ⟨by omega, by omega, by omega⟩)
local macro_rules | `(tactic| walk_at "at") => `(tactic| first | exact atC 0 rfl rfl | exact atC 1 rfl rfl | exact atC 2 rfl rfl | exact atC 3 rfl rfl | exact atC 4 rfl rfl | exact atC 5 rfl rfl | exact atC 6 rfl rfl | exact atC 7 rfl rfl)
local macro_rules | `(tactic| walk_at "ix") => `(tactic| first | exact ixC 0 rfl (Nat.le_of_ble_eq_true rfl) | exact ixC 1 rfl (Nat.le_of_ble_eq_true rfl) | exact ixC 2 rfl (Nat.le_of_ble_eq_true rfl) | exact ixC 3 rfl (Nat.le_of_ble_eq_true rfl) | exact ixC 4 rfl (Nat.le_of_ble_eq_true rfl) | exact ixC 5 rfl (Nat.le_of_ble_eq_true rfl))
local macro_rules | `(tactic| walk_at "st") => `(tactic| first
  | refine ⟨_, rfl, ?_⟩
  | refine ⟨_, _, rfl, rfl, (by walk_at "cnd" : (_ : Prop)), ?_⟩
  | refine ⟨_, _, rfl, rfl, ?_⟩
  | refine ⟨rfl, ?_⟩
  | refine Or.inl ⟨_, rfl, ?_⟩
  | refine ⟨_, _, _, _, rfl, rfl, by exact SqL.of (by walk_at "hp"), by walk_at "at", ?_⟩
  | refine ⟨_, _, _, _, rfl, rfl, by exact SqT.of (by walk_at "hp"), by walk_at "at", ?_⟩
  | refine ⟨_, _, _, _, rfl, rfl, by walk_at "hp", by walk_at "ix", ?_⟩
  | refine ⟨_, _, rfl, Or.inl (by exact SqL.of (by walk_at "hp")), ?_⟩
  | refine ⟨_, _, rfl, Or.inr (by exact SqT.of (by walk_at "hp")), ?_⟩)
local macro_rules | `(tactic| walk_at "so") => `(tactic| first
  | refine ⟨_, _, _, _, _, rfl, by walk_at "hp", by assumption, by assumption, rfl, ?_⟩
  | refine ⟨_, _, _, _, rfl, by walk_at "hp", by assumption, by assumption, Nat.le_of_ble_eq_true rfl, ?_⟩
  | refine ⟨_, _, _, rfl, by walk_at "hp", rfl, ?_⟩
  | walk_at "st")
local macro_rules | `(tactic| walk_at "ro") => `(tactic| repeat walk_at "so")
local macro_rules | `(tactic| walk_at "run") => `(tactic| repeat walk_at "st")

theorem cut_drop (xs : List V) (k : Nat) : cutV xs (some (k : Int)) none = xs.drop k := by
  unfold cutV
  rw [HT.sIx_none, HT.sIx_nat]
  rcases Nat.le_total k xs.length with h | h
  · rw [Nat.min_eq_left h]
    exact List.take_of_length_le (by rw [List.length_drop]; exact Nat.le_refl _)
  · rw [Nat.min_eq_right h, List.drop_length, List.drop_eq_nil_of_le h]; simp
def rowR (L : List (List Row3)) (i : Nat) : List Bool := (L.drop (i + 1)).map fun p => (commonM (L.getD i []) p).isNone
def flatR (L : List (List Row3)) (i : Nat) : List Bool := ((List.range i).map (rowR L)).flatten
theorem flatR_succ (L : List (List Row3)) (i : Nat) : flatR L (i + 1) = flatR L i ++ rowR L i := by
  unfold flatR; rw [List.range_succ, List.map_append, List.flatten_append]; simp
theorem flatR_all (L : List (List Row3)) : (flatR L L.length).all id = ((List.range L.length).all fun i => (L.drop (i + 1)).all fun p => (commonM (L.getD i []) p).isNone) := by
  unfold flatR rowR
  rw [List.all_flatten, List.all_map]
  congr 1
  funext i
  show ((L.drop (i + 1)).map _).all id = _
  rw [List.all_map]; rfl
theorem rowR_len {L : List (List Row3)} {i : Nat} : (rowR L i).length = L.length - (i + 1) := by unfold rowR; simp
theorem flatR_len {L : List (List Row3)} : ∀ i, (flatR L i).length ≤ i * L.length
  | 0 => Nat.zero_le _
  | i + 1 => by
    rw [flatR_succ, List.length_append, rowR_len, Nat.add_mul]
    have := flatR_len (L := L) i
    omega
theorem fDs_tonly (l : List (List Row3)) : tonlyAll (l.map fD) = true := by
  induction l with
  | nil => rfl
  | cons q l ih =>
    rw [List.map_cons]
    unfold tonlyAll
    rw [ih, fD_tonly]; rfl
theorem regP_good {R : Regs} (h : RegOk R) : ∀ q ∈ regP R, Good q.2 := fun q hq => by
  obtain ⟨z, hz, ez⟩ := List.mem_filterMap.mp hq
  obtain ⟨r0, i0⟩ := z
  have hr0 : r0 ∈ R := List.fst_mem_of_mem_zipIdx hz
  cases r0 with
  | none => cases ez
  | some p => cases ez; exact h _ hr0 p rfl
theorem regP_len (R : Regs) : (regP R).length ≤ R.length := by
  unfold regP
  refine Nat.le_trans (List.length_filterMap_le _ _) ?_
  rw [List.length_zipIdx]; exact Nat.le_refl _
section
variable {P : Program} {w : World} {K : PySem.W.Frag} {mg : Str → Option Value} {base : Heap} {C_Net C_NotValid : Addr}{A_EMPTY : Addr}
abbrev s_are_regions : Stmt := topS 34
abbrev ns_are_regions : List Str := ["value", "told", "region", "at", "other"]
theorem sc_are_regions : FnScope ns_are_regions ["value"] (defScope s_are_regions) := ⟨rfl, rfl, rfl, by decide +kernel, rfl, by decide +kernel, by decide +kernel⟩

theorem ok_are_regions {f : Addr} {fd : FuncData} (F : Fun K "_are_regions" "_are_regions" s_are_regions f fd) (T : Txt K mg C_Net C_NotValid A_EMPTY) (D_is_filter : Dfn P w K mg base CX0 5 "is_filter" ["value"] spFl) (D_common : Dfn P w K mg base CX0 1 "common" ["one", "other"] spCommon) : FnOk P w K mg base CX0 6 f fd ["value"] (spAreReg K) := by
  refine F.ok sc_are_regions (fun vs H Q E h => ?_) (fun cdv A outer s H vs Q E hr h => ?_)
  · obtain ⟨l, rv, R, rfl, _⟩ := h
    rfl
  · obtain ⟨l, rv, R, rfl, hl, hrv, hok, hR, k⟩ := h
    refine ⟨_, (pss_cons (ps_if (PW.pt (pw_or (pt_not (pt_val (pe_callB (kIsi K) (by rfl) T.b_isinstance (by decide +kernel) (pa_cons (pv 0) (pa_cons (pe_bltn (v := .ty "list") (by rfl) T.b_list (by decide +kernel) rfl) pa_nil))))) (pw_or1 (pt_cmpR op_ne (pe_callB (kLen K) (by rfl) T.b_len (by decide +kernel) (pa_cons (pv 0) pa_nil)) (pe_gint (by rfl) T.c_ENVIRONMENTS) (nomark _))))) (pss_one (ps_ret pe_bl)) pss_nil)
  (pss_cons (ps_set (i := 1) sc_are_regions.nd rfl (Or.inr rfl) (pe_lc (own := [("region", 2)]) (by rfl) sc_are_regions.nd (kpiL K (pv 0)) (blkOk_by (N := ns_are_regions) (sc := defScope s_are_regions) (by decide +kernel)) (fun _ _ _ _ _ => (pg_name (i := 2) sc_are_regions.nd rfl (Or.inl rfl))) (fun _ _ _ _ _ => (pts_one (pt_cmpR op_notN (pv 2) pe_non (nomark _)))) (fun _ _ _ _ _ => (pv 2))))
  (pss_cons (ps_if (pt_not (pt_val (pe_callB (kAll K rfl) (by rfl) T.b_all (by decide +kernel) (pa_cons (pe_lc (own := [("region", 2)]) (by rfl) sc_are_regions.nd (kpiL K (pv 1)) (blkOk_by (N := ns_are_regions) (sc := defScope s_are_regions) (by decide +kernel)) (fun _ _ _ _ _ => (pg_name (i := 2) sc_are_regions.nd rfl (Or.inl rfl))) (fun _ _ _ _ _ => pts_nil) (fun _ _ _ _ _ => (pe_dcall D_is_filter (hr.mono (by decide)) (by rfl) pass0 (pa_cons (pv 2) pa_nil)))) pa_nil)))) (pss_one (ps_ret pe_bl)) pss_nil)
  (pss_one (ps_ret (pe_callB (kAll K rfl) (by rfl) T.b_all (by decide +kernel) (pa_cons (pe_lc2 (own := [("at", 3), ("other", 4)]) (vs1 := [4]) (by rfl) sc_are_regions.nd (pi_range1 (by rfl) T.b_range (pa_cons (pe_callB (kLen K) (by rfl) T.b_len (by decide +kernel) (pa_cons (pv 1) pa_nil)) pa_nil)) (blkOk_by (N := ns_are_regions) (sc := defScope s_are_regions) (by decide +kernel)) (by decide) (fun _ _ _ _ _ => (pg_name (i := 3) sc_are_regions.nd rfl (Or.inl rfl))) (fun _ _ _ _ _ => pts_nil) (fun _ _ _ _ _ => (kpiL K (pe_slice (kSlL K) (pv 1) (po_some (pe_op op_add (pv 3) pe_int)) po_none))) (fun _ _ _ _ _ => (pg_name (i := 4) sc_are_regions.nd rfl (Or.inl rfl))) (fun _ _ _ _ _ => pts_nil) (fun _ _ _ _ _ => (pe_cmpR op_isN (pe_dcall D_common (hr.mono (by decide)) (by rfl) pass0 (pa_cons (pe_ix (kIxL K) (pv 1) (pv 3) (fun _ _ => rfl)) (pa_cons (pv 4) pa_nil))) pe_non (nomark _)))) pa_nil))))))), ?_⟩
    refine ⟨_, rfl, _, _, _, _, _, rfl, .ty _, .base (.lst hl), kit_ty (by decide +kernel : kitB "list" "list" = some true), _, rfl, ?_⟩
    refine iteF ?_
    walk_at "run"
    rw [hrv.len]
    have e4 : (!decide (V.int (R.length : Int) = V.int 4)) = decide (R.length ≠ 4) := by
      rw [show (4 : Int) = ((4 : Nat) : Int) from rfl, intVn]
    rw [e4]
    refine iteD (fun h4 => ?_) (fun h4 => ?_)
    · have : areR R = false := by unfold areR; rw [decide_eq_false h4]; rfl
      rw [this] at k
      exact k H (Same.refl H)
    have h4' : R.length = 4 := by omega
    -- told
    refine ⟨_, rfl, _, rfl, ⟨_, SqL.of hl⟩, fun D hD => lc_list (xs := rv) (fun i H' => Same H H' ∧ ∃ ys, H' D = some (.lst ys) ∧ DtAll H' ys (((regP (R.take i)).map (·.2)).map fD) ∧ ys.length ≤ i) ?_ ?_ ?_ ?_⟩
    · exact ⟨Same.new hD, [], upd_same, .nil, Nat.le_refl _⟩
    · rintro i H' _ ⟨s1, _⟩
      exact SqL.of (s1 _ _ hl)
    · rintro i x H1 hi ⟨s1, ys, hys, hdt, yl⟩
      have hi2 : i < R.length := by rw [← hrv.len]; exact (List.getElem?_eq_some_iff.mp hi).1
      obtain ⟨v, hv1, hv2⟩ := hrv.at_ i R[i] (List.getElem?_eq_getElem hi2)
      rw [hv1] at hi
      injection hi with hi
      subst hi
      have etake : R.take (i + 1) = R.take i ++ [R[i]] := (take_snoc (List.getElem?_eq_getElem hi2)).symm
      refine ⟨rfl, _, rfl, rfl, _, rfl, ?_⟩
      rcases hv2 with ⟨er, rfl⟩ | ⟨p, er, hp⟩
      · refine iteF ⟨s1, ys, hys, ?_, by omega⟩
        rw [etake, regP_snoc, er, List.append_nil]
        exact hdt
      · have hp2 := hp.same s1
        obtain ⟨pa, pxs, rfl, _⟩ := fD_open hp2
        refine iteT ⟨_, rfl, _, hys, szt (by omega), Same.mut s1 hD, _, upd_same, ?_, by simp; omega⟩
        have s4 : TS H1 (upd H1 D (.lst (ys ++ [.ref pa]))) := Chg.ts Chg.upd hys
        rw [etake, regP_snoc, er, List.map_append, List.map_append]
        exact DtAll.snoc (hdt.ts s4 (fDs_tonly _)) (hp2.ts s4 (fD_tonly _))
    rintro H1 ⟨s1, zs, hzs, hdt, zl⟩
    rw [show R.take rv.length = R by rw [hrv.len, List.take_length]] at hdt
    have hgood : ∀ p ∈ (regP R).map (·.2), Good p := fun p hp => by
      obtain ⟨q, hq, rfl⟩ := List.mem_map.mp hp
      exact regP_good hok q hq
    have hLl : ((regP R).map (·.2)).length ≤ 4 := by rw [List.length_map]; have := regP_len R; omega
    have eall : areR R = (flatR ((regP R).map (·.2)) ((regP R).map (·.2)).length).all id := by
      rw [flatR_all]
      unfold areR
      rw [decide_eq_true h4', Bool.true_and, List.length_map]
    rw [eall] at k
    generalize (regP R).map (·.2) = L at hdt hgood hLl k
    have zlen : zs.length = L.length := by rw [hdt.len, List.length_map]
    -- all are filters
    refine ⟨_, rfl, _, rfl, ⟨_, SqL.of hzs⟩, fun D2 hD2 => lcL (xs := zs) ((List.replicate L.length true).map V.bl) (by simp [zlen]) (by omega) hzs hD2 ?_ ?_⟩
    · intro j x y H2 Q' hx hy s2 q
      obtain ⟨d, hd1, hd2⟩ := hdt.getV hx
      obtain ⟨p, hp, rfl⟩ := map_get hd1
      have ey : y = .bl true := by
        rw [List.getElem?_map, List.getElem?_replicate] at hy
        split at hy
        · exact (Option.some.inj hy).symm
        · cases hy
      subst ey
      have g := hgood p (List.mem_of_getElem? hp)
      refine ⟨rfl, _, rfl, x, fD p, rfl, hd2.same s2, fun ds e => (by cases e; rw [List.length_map]; have := g.2.2; omega), fun H3 s3 => ?_⟩
      rw [isFl_good g]
      exact q H3 s3
    intro H2 s2 d2
    refine ⟨_, _, rfl, SqL.of d2, _, rfl, ?_⟩
    have ea : (List.replicate L.length true).all id = true := by simp
    rw [ea]
    refine iteF ?_
    have hzs2 := s2 _ _ hzs
    have hdt2 := hdt.same s2
    have s12 := s1.trans s2
    -- none in common
    refine ⟨_, rfl, _, _, rfl, .inl (SqL.of hzs2), _, rfl, by omega, by omega, fun D3 hD3 => ?_⟩
    refine ⟨fun i m H' => m = L.length - i ∧ i ≤ L.length ∧ Same H2 H' ∧ H' D3 = some (.lst ((flatR L i).map V.bl)), ⟨_, rfl, Nat.zero_le _, Same.new hD3, upd_same⟩, ?_⟩
    rintro i m H3 ⟨rfl, hi, s3, hd3⟩
    have en : ((zs.length : Int)).toNat = L.length := by omega
    rcases Nat.lt_or_ge i L.length with hlt | hge
    · refine .inr ⟨by show i < ((zs.length : Int)).toNat; omega, fun H' => Same H2 H' ∧ H' D3 = some (.lst ((flatR L (i + 1)).map V.bl)), fun H' ⟨q1, q2⟩ => ⟨_, by omega, rfl, hlt, q1, q2⟩, ?_⟩
      rintro x H4 ⟨rfl, rfl⟩
      have hzs4 := s3 _ _ hzs2
      have flen := flatR_len (L := L) i
      refine ⟨rfl, ?_⟩
      refine ⟨_, rfl, _, rfl, _, _, rfl, rfl, _, rfl, D, zs, rfl, SqL.of hzs4, fun q hq => ?_⟩
      have ec : cutV zs (some (0 + (i : Int) + 1)) none = zs.drop (i + 1) := by
        rw [show (0 : Int) + (i : Int) + 1 = ((i + 1 : Nat) : Int) by omega]; exact cut_drop _ _
      rw [ec]
      have s5 := Same.new (o := .lst (zs.drop (i + 1))) hq
      have hq5 : (upd H4 q (.lst (zs.drop (i + 1)))) q = some (.lst (zs.drop (i + 1))) := upd_same
      have hd5 := s5 _ _ hd3
      have qD : q ≠ D3 := (ne_of_none hd3 hq).symm
      have s35 := s3.trans s5
      generalize upd H4 q (.lst (zs.drop (i + 1))) = H5 at s5 hq5 hd5 s35
      refine ⟨q, rfl, ⟨_, SqL.of hq5⟩, fun j m H' => m = (zs.drop (i + 1)).length - j ∧ j ≤ (zs.drop (i + 1)).length ∧ Same H2 H' ∧ H' q = some (.lst (zs.drop (i + 1))) ∧ H' D3 = some (.lst ((flatR L i ++ (rowR L i).take j).map V.bl)), ⟨_, rfl, Nat.zero_le _, s35, hq5, by rw [List.take_zero, List.append_nil]; exact hd5⟩, ?_⟩
      rintro j m H6 ⟨rfl, hj, s6, hq6, hd6⟩
      have el : (zs.drop (i + 1)).length = (rowR L i).length := by rw [rowR_len, List.length_drop, zlen]
      rcases Nat.lt_or_ge j (zs.drop (i + 1)).length with jlt | jge
      · refine .inr ⟨⟨_, _, SqL.of hq6, List.getElem?_eq_getElem jlt⟩, fun H' => Same H2 H' ∧ H' q = some (.lst (zs.drop (i + 1))) ∧ H' D3 = some (.lst ((flatR L i ++ (rowR L i).take (j + 1)).map V.bl)), fun H' ⟨q1, q2, q3⟩ => ⟨_, by omega, rfl, jlt, q1, q2, q3⟩, ?_⟩
        rintro x H7 ⟨rfl, hy⟩
        have hx := hy _ (SqL.of hq6)
        rw [List.getElem?_drop] at hx
        obtain ⟨d, hd1, hd2⟩ := hdt2.getV hx
        obtain ⟨p, hp, rfl⟩ := map_get hd1
        have hzi : zs[i]? = some zs[i] := List.getElem?_eq_getElem (by omega)
        obtain ⟨d', hd1', hd2'⟩ := hdt2.getV hzi
        obtain ⟨p', hp', rfl⟩ := map_get hd1'
        have g := hgood p (List.mem_of_getElem? hp)
        have g' := hgood p' (List.mem_of_getElem? hp')
        have erow : (rowR L i)[j]? = some ((commonM p' p).isNone) := by
          unfold rowR
          rw [List.getElem?_map, List.getElem?_drop, hp]
          show some ((commonM (L.getD i []) p).isNone) = _
          rw [List.getD_eq_getElem?_getD, hp']; rfl
        have hzs6 := s6 _ _ hzs2
        have rl : (rowR L i).length ≤ 4 := by rw [rowR_len]; omega
        have flen2 : (flatR L i).length ≤ 16 := Nat.le_trans flen (Nat.mul_le_mul (show i ≤ 4 by omega) hLl)
        refine ⟨rfl, ?_⟩
        refine ⟨_, rfl, _, rfl, _, _, _, _, rfl, rfl, SqL.of hzs6, atC i (by omega) hzi, _, rfl, zs[i], x, p', p, rfl, hd2'.same s6, hd2.same s6, fun r hr => (g'.2.1 r hr).1, fun r hr => (g.2.1 r hr).1, by have := g'.2.2; omega, by have := g.2.2; omega, fun en H8 s8 => ?_, fun ws es pp H8 hpp hp2 s8 => ?_⟩
        · refine ⟨rfl, _, s8 _ _ hd6, szt (by simp; omega), Same.mut (s6.trans s8) hD3, ?_, ?_⟩
          · rw [upd_ne qD]; exact s8 _ _ hq6
          · rw [upd_same, ← take_snoc erow, en]; simp
        · refine ⟨rfl, _, s8 _ _ hd6, szt (by simp; omega), Same.mut (s6.trans s8) hD3, ?_, ?_⟩
          · rw [upd_ne qD]; exact s8 _ _ hq6
          · rw [upd_same, ← take_snoc erow, es]; simp
      · refine .inl ⟨⟨_, SqL.of hq6, jge⟩, s6, ?_⟩
        have : (rowR L i).take j = rowR L i := List.take_of_length_le (by omega)
        rw [this] at hd6
        rw [flatR_succ]; exact hd6
    · refine .inl ⟨by show ((zs.length : Int)).toNat ≤ i; omega, ?_⟩
      have ei : i = L.length := by omega
      subst ei
      exact ⟨D3, _, rfl, SqL.of hd3, k H3 (s12.trans s3)⟩
end
end My

namespace My
open PySem L2
local macro_rules | `(tactic| walk_at "ne") => `(tactic| first | assumption | exact Ne.symm (by assumption) | exact ne_of_none (by assumption) (by assumption) | exact Ne.symm (ne_of_none (by assumption) (by assumption)))
local macro_rules | `(tactic| walk_at "hp") => `(tactic| first | assumption | with_reducible exact upd_same | (with_reducible refine Eq.trans (upd_ne ?_) ?_; rotate_left; walk_at "hp"; walk_at "ne"))
local macro_rules | `(tactic| walk_at "cnd") => `(tactic| first | omega | (show (0 : Int) < _; omega) | exact ⟨by omega, by omega⟩ | exact Or.inl ⟨by omega, by omega⟩ | exact Or.inr ⟨by omega, by omega⟩ | exact ⟨by omega, by omega, by decide⟩ | exact ⟨by omega, by omega, by omega⟩)
local macro_rules | `(tactic| walk_at "at") => `(tactic| first | exact atC 0 rfl rfl | exact atC 1 rfl rfl | exact atC 2 rfl rfl | exact atC 3 rfl rfl | exact atC 4 rfl rfl | exact atC 5 rfl rfl | exact atC 6 rfl rfl | exact atC 7 rfl rfl)
local macro_rules | `(tactic| walk_at "ix") => `(tactic| first | exact ixC 0 rfl (Nat.le_of_ble_eq_true rfl) | exact ixC 1 rfl (Nat.le_of_ble_eq_true rfl) | exact ixC 2 rfl (Nat.le_of_ble_eq_true rfl) | exact ixC 3 rfl (Nat.le_of_ble_eq_true rfl) | exact ixC 4 rfl (Nat.le_of_ble_eq_true rfl) | exact ixC 5 rfl (Nat.le_of_ble_eq_true rfl))
local macro_rules | `(tactic| walk_at "st") => `(tactic| first
  | refine ⟨_, rfl, ?_⟩
  | refine ⟨_, _, rfl, rfl, (by walk_at "cnd" : (_ : Prop)), ?_⟩
  | refine ⟨_, _, rfl, rfl, ?_⟩
  | refine ⟨rfl, ?_⟩
  | refine Or.inl ⟨_, rfl, ?_⟩
  | refine ⟨_, _, _, _, rfl, rfl, by exact SqL.of (by walk_at "hp"), by walk_at "at", ?_⟩
  | refine ⟨_, _, _, _, rfl, rfl, by exact SqT.of (by walk_at "hp"), by walk_at "at", ?_⟩
  | refine ⟨_, _, _, _, rfl, rfl, by walk_at "hp", by walk_at "ix", ?_⟩
  | refine ⟨_, _, rfl, Or.inl (by exact SqL.of (by walk_at "hp")), ?_⟩
  | refine ⟨_, _, rfl, Or.inr (by exact SqT.of (by walk_at "hp")), ?_⟩)
local macro_rules | `(tactic| walk_at "so") => `(tactic| first
  | refine ⟨_, _, _, _, _, rfl, by walk_at "hp", by assumption, by assumption, rfl, ?_⟩
  | refine ⟨_, _, _, _, rfl, by walk_at "hp", by assumption, by assumption, Nat.le_of_ble_eq_true rfl, ?_⟩
  | refine ⟨_, _, _, rfl, by walk_at "hp", rfl, ?_⟩
  | walk_at "st")
local macro_rules | `(tactic| walk_at "ro") => `(tactic| repeat walk_at "so")
local macro_rules | `(tactic| walk_at "run") => `(tactic| repeat walk_at "st")

def spInitN (K : PySem.W.Frag) (C X : Addr) : Sp := fun vs H Q E => ∃ (x dx l : Addr) (rv : List V) (R : Regs), vs = [.ref x, .ref l] ∧ H x = some (.ins C dx []) ∧ H l = some (.lst rv) ∧ RegsV H rv R ∧ RegOk R ∧ R.length ≤ 100 ∧
  (areR R = false → ∀ H', Same H H' → E (.ref X) none H') ∧
  (areR R = true → ∀ (A : NA) (y : V) H', A.x = x → A.dx = dx → [A.x, A.De, A.Dr, A.Ls, A.Lr].Nodup → (∀ b ∈ [A.De, A.Dr, A.Ls, A.Lr], H b = none) → (∀ ρ : Addr → Nat, ρ A.x = 1 → ρ A.De = 2 → ρ A.Dr = 3 → ρ A.Ls = 4 → ρ A.Lr = 5 → NtOk K C H' ρ A R [] 0 0 [] 0 y) → Chg x H H' → Q .non H')
theorem Chg.ts' {C dx x : Addr} {H H' : Hp} {fs : List (Str × V)} (c : Chg x H H') (h : H x = some (.ins C dx fs)) : TS H H' := fun b ys e => c b _ (ne_of e h (by intro z; cases z)) e
section
variable {P : Program} {w : World} {K : PySem.W.Frag} {mg : Str → Option Value} {base : Heap} {C_Net C_NotValid : Addr}{A_EMPTY : Addr}
theorem tree_em (T : Txt K mg C_Net C_NotValid A_EMPTY) (H : Hp) (Tt : Int → Path) : TreeV K H (.ref A_EMPTY) (fun _ => False) Tt 0 := ⟨emD, _, T.t_EMPTY H, Rep.em fun _ => rfl, Desc.nil Tt⟩
abbrev s_Net_init : Stmt := inClass (topS 35) 0
abbrev ns_Net_init : List Str := ["self", "regions"]
theorem sc_Net_init : FnScope ns_Net_init ["self", "regions"] (defScope s_Net_init) := ⟨rfl, rfl, rfl, by decide +kernel, rfl, by decide +kernel, by decide +kernel⟩

theorem ok_Net_init {f : Addr} {fd : FuncData} (F : Fun K "__init__" "Net.__init__" s_Net_init f fd) (T : Txt K mg C_Net C_NotValid A_EMPTY) (D_are_regions : Dfn P w K mg base CX0 6 "_are_regions" ["value"] (spAreReg K)) : FnOk P w K mg base (L2.CX P w) 7 f fd ["self", "regions"] (spInitN K C_Net C_NotValid) := by
  have ho_Net := T.o_Net; have hn_Net__regions := T.n_Net__regions; have hn_Net__enrolled := T.n_Net__enrolled; have hn_Net__rings := T.n_Net__rings; have hn_Net__tree := T.n_Net__tree; have hn_Net__last_name := T.n_Net__last_name; have hn_Net__sent := T.n_Net__sent; have hn_Net__lost := T.n_Net__lost
  refine F.okX sc_Net_init (fun vs H Q E h => ?_) (fun cdv A outer s H vs Q E hr h => ?_)
  · obtain ⟨x, dx, l, rv, R, rfl, _⟩ := h
    rfl
  · obtain ⟨x, dx, l, rv, R, rfl, hx, hl, hrv, hok, hR, kE, kS⟩ := h
    refine ⟨_, (pss_cons (ps_if (pt_not (pt_val (pe_dcall D_are_regions (hr.mono (by decide)) (by rfl) pass0 (pa_cons (pv 1) pa_nil)))) (pss_one (ps_raise (by rfl) (takes_of rfl rfl rfl rfl) (pmk_x T.x_NotValid (by rfl)))) pss_nil)
  (pss_cons (kSFld K (pv 0) (pe_callTy (kListOf K) (by rfl) T.b_list (by decide +kernel) (pa_cons (pv 1) pa_nil)) rfl)
  (pss_cons (kSFld K (pv 0) pe_dnewK rfl)
  (pss_cons (kSFld K (pv 0) pe_dnewK rfl)
  (pss_cons (kSFld K (pv 0) (pe_gref (by rfl) T.c_EMPTY) rfl)
  (pss_cons (kSFld K (pv 0) pe_int rfl)
  (pss_cons (kSFld K (pv 0) (pe_lst pa_nil) rfl)
  (pss_one (kSFld K (pv 0) pe_int rfl))))))))), ?_⟩
    refine ⟨_, rfl, l, rv, R, rfl, hl, hrv, hok, hR, fun H1 s1 => ⟨_, rfl, ?_⟩⟩
    cases ea : areR R with
    | false => exact iteT (kE ea H1 s1)
    | true =>
      refine iteF ?_
      have hx1 := s1 _ _ hx
      have hl1 := s1 _ _ hl
      have h4 : R.length = 4 := by
        unfold areR at ea
        rw [Bool.and_eq_true] at ea
        exact of_decide_eq_true ea.1
      walk_at "ro"
      refine fun Lr hLr => ?_
      have s2 := Same.new (o := .lst rv) hLr
      have hLr2 : (upd H1 Lr (.lst rv)) Lr = some (.lst rv) := upd_same
      generalize upd H1 Lr (.lst rv) = H2 at s2 hLr2 ⊢
      have hx2 := s2 _ _ hx1
      have s02 := s1.trans s2
      have fLr : H Lr = none := s1.free hLr
      walk_at "ro"
      generalize eH3 : upd H2 x (.ins C_Net dx _) = H3
      have hx3 : H3 x = some (.ins C_Net dx [("_regions", .ref Lr)]) := by rw [← eH3]; exact upd_same
      have c3 : Chg x H2 H3 := by rw [← eH3]; exact Chg.upd
      have nLr : Lr ≠ x := (ne_of_none hx fLr).symm
      have hLr3 := c3 _ _ nLr hLr2
      refine fun De hDe => ?_
      have s4 := Same.new (o := .dK []) hDe
      have hDe4 : (upd H3 De (.dK [])) De = some (.dK []) := upd_same
      generalize upd H3 De (.dK []) = H4 at s4 hDe4 ⊢
      have hx4 := s4 _ _ hx3
      have hLr4 := s4 _ _ hLr3
      have nDe : De ≠ x := (ne_of_none hx3 hDe).symm
      have back : ∀ b, b ≠ x → H3 b = none → H b = none := fun b n h => by
        cases e : H b with
        | none => rfl
        | some o => rw [c3 b o n (s02 _ _ e)] at h; cases h
      have fDe := back De nDe hDe
      walk_at "ro"
      generalize eH5 : upd H4 x (.ins C_Net dx _) = H5
      have hx5 : H5 x = some (.ins C_Net dx [("_regions", .ref Lr), ("_enrolled", .ref De)]) := by rw [← eH5]; exact upd_same
      have c5 : Chg x H4 H5 := by rw [← eH5]; exact Chg.upd
      have hLr5 := c5 _ _ nLr hLr4
      have hDe5 := c5 _ _ nDe hDe4
      have c35 : Chg x H3 H5 := (Same.chg s4).trans c5
      refine fun Dr hDr => ?_
      have s6 := Same.new (o := .dK []) hDr
      have hDr6 : (upd H5 Dr (.dK [])) Dr = some (.dK []) := upd_same
      generalize upd H5 Dr (.dK []) = H6 at s6 hDr6 ⊢
      have hx6 := s6 _ _ hx5
      have hLr6 := s6 _ _ hLr5
      have hDe6 := s6 _ _ hDe5
      have nDr : Dr ≠ x := (ne_of_none hx5 hDr).symm
      have nDrDe : De ≠ Dr := ne_of_none hDe5 hDr
      have nDrLr : Lr ≠ Dr := ne_of_none hLr5 hDr
      have fDr := back Dr nDr (by
        cases e : H3 Dr with
        | none => rfl
        | some o => rw [c35 Dr o nDr e] at hDr; cases hDr)
      walk_at "ro"
      generalize eH7 : upd H6 x (.ins C_Net dx _) = H7
      have hx7 : H7 x = some (.ins C_Net dx [("_regions", .ref Lr), ("_enrolled", .ref De), ("_rings", .ref Dr)]) := by rw [← eH7]; exact upd_same
      have c7 : Chg x H6 H7 := by rw [← eH7]; exact Chg.upd
      walk_at "ro"
      generalize eH8 : upd H7 x (.ins C_Net dx _) = H8
      have hx8 : H8 x = some (.ins C_Net dx [("_regions", .ref Lr), ("_enrolled", .ref De), ("_rings", .ref Dr), ("_tree", .ref A_EMPTY)]) := by rw [← eH8]; exact upd_same
      have c8 : Chg x H7 H8 := by rw [← eH8]; exact Chg.upd
      walk_at "ro"
      generalize eH9 : upd H8 x (.ins C_Net dx _) = H9
      have hx9 : H9 x = some (.ins C_Net dx [("_regions", .ref Lr), ("_enrolled", .ref De), ("_rings", .ref Dr), ("_tree", .ref A_EMPTY), ("_last_name", .int 0)]) := by rw [← eH9]; exact upd_same
      have c9 : Chg x H8 H9 := by rw [← eH9]; exact Chg.upd
      have c69 : Chg x H6 H9 := (c7.trans c8).trans c9
      have hLr9 := c69 _ _ nLr hLr6
      have hDe9 := c69 _ _ nDe hDe6
      have hDr9 := c69 _ _ nDr hDr6
      have c39 : Chg x H3 H9 := (c35.trans (Same.chg s6)).trans c69
      refine ⟨szl rfl, fun Ls hLs => ?_⟩
      have s10 := Same.new (o := .lst []) hLs
      have hLs10 : (upd H9 Ls (.lst [])) Ls = some (.lst []) := upd_same
      generalize upd H9 Ls (.lst []) = H10 at s10 hLs10 ⊢
      have hx10 := s10 _ _ hx9
      have nLs : Ls ≠ x := (ne_of_none hx9 hLs).symm
      have nLsLr : Lr ≠ Ls := ne_of_none hLr9 hLs
      have nLsDe : De ≠ Ls := ne_of_none hDe9 hLs
      have nLsDr : Dr ≠ Ls := ne_of_none hDr9 hLs
      have fLs := back Ls nLs (by
        cases e : H3 Ls with
        | none => rfl
        | some o => rw [c39 Ls o nLs e] at hLs; cases hLs)
      walk_at "ro"
      generalize eH11 : upd H10 x (.ins C_Net dx _) = H11
      have hx11 : H11 x = some (.ins C_Net dx [("_regions", .ref Lr), ("_enrolled", .ref De), ("_rings", .ref Dr), ("_tree", .ref A_EMPTY), ("_last_name", .int 0), ("_sent", .ref Ls)]) := by rw [← eH11]; exact upd_same
      have c11 : Chg x H10 H11 := by rw [← eH11]; exact Chg.upd
      walk_at "ro"
      generalize eH12 : upd H11 x (.ins C_Net dx _) = H12
      have hx12 : H12 x = some (.ins C_Net dx (flds ⟨x, dx, Lr, De, Dr, Ls⟩ (.ref A_EMPTY) 0 0)) := by rw [← eH12]; exact upd_same
      have c12 : Chg x H11 H12 := by rw [← eH12]; exact Chg.upd
      have c912 : Chg x H9 H12 := ((Same.chg s10).trans c11).trans c12
      have c0 : Chg x H H12 := (((Same.chg s02).trans c3).trans c39).trans c912
      have ts2 : TS H2 H12 := (c3.trans (c39.trans c912)).ts' hx2
      refine kS ea ⟨x, dx, Lr, De, Dr, Ls⟩ (.ref A_EMPTY) H12 rfl rfl ?_ ?_ (fun ρ l1 l2 l3 l4 l5 => ⟨hx12, ⟨rv, c912 _ _ nLr hLr9, (hrv.ts (Same.ts s02)).ts ts2⟩, ⟨[], c912 _ _ nDe hDe9, .nil⟩, ⟨[], c912 _ _ nDr hDr9, .nil⟩, ⟨fun _ => [], (tree_em T H12 _).congr fun z => ⟨fun q => q.elim, fun q => (by cases q)⟩, fun e he => (by cases he)⟩,
        ⟨[], (c11.trans c12) _ _ nLs hLs10, .nil⟩, .nil, fun e he => (by cases he), hok, h4, by decide, ⟨by decide, by decide, by decide, by decide⟩, l1, l2, l3, l4, l5⟩) c0
      · have nLrDe : Lr ≠ De := ne_of_none hLr3 hDe
        simp only [List.nodup_cons, List.mem_cons, List.not_mem_nil, or_false, not_or, not_false_eq_true, List.nodup_nil, and_true]
        exact ⟨⟨nDe.symm, nDr.symm, nLs.symm, nLr.symm⟩, ⟨nDrDe, nLsDe, nLrDe.symm⟩, ⟨nLsDr, nDrLr.symm⟩, nLsLr.symm⟩
      · intro b hb
        simp only [List.mem_cons, List.not_mem_nil, or_false] at hb
        rcases hb with rfl | rfl | rfl | rfl
        · exact fDe
        · exact fDr
        · exact fLs
        · exact fLr
end
end My

namespace My
open PySem L2
local macro_rules | `(tactic| walk_at "ne") => `(tactic| first | assumption | exact Ne.symm (by assumption) | exact ne_of_none (by assumption) (by assumption) | exact Ne.symm (ne_of_none (by assumption) (by assumption)))
local macro_rules | `(tactic| walk_at "hp") => `(tactic| first | assumption | with_reducible exact upd_same | (with_reducible refine Eq.trans (upd_ne ?_) ?_; rotate_left; walk_at "hp"; walk_at "ne"))
local macro_rules | `(tactic| walk_at "cnd") => `(tactic| first | omega | (show (0 : Int) < _; omega) | exact ⟨by omega, by omega⟩ | exact Or.inl ⟨by omega, by omega⟩ | exact Or.inr ⟨by omega, by omega⟩ | exact ⟨by omega, by omega, by decide⟩ | exact ⟨by omega, by omega, by omega⟩)
local macro_rules | `(tactic| walk_at "at") => `(tactic| first | exact atC 0 rfl rfl | exact atC 1 rfl rfl | exact atC 2 rfl rfl | exact atC 3 rfl rfl | exact atC 4 rfl rfl | exact atC 5 rfl rfl | exact atC 6 rfl rfl | exact atC 7 rfl rfl)
local macro_rules | `(tactic| walk_at "ix") => `(tactic| first | exact ixC 0 rfl (Nat.le_of_ble_eq_true rfl) | exact ixC 1 rfl (Nat.le_of_ble_eq_true rfl) | exact ixC 2 rfl (Nat.le_of_ble_eq_true rfl) | exact ixC 3 rfl (Nat.le_of_ble_eq_true rfl) | exact ixC 4 rfl (Nat.le_of_ble_eq_true rfl) | exact ixC 5 rfl (Nat.le_of_ble_eq_true rfl))
local macro_rules | `(tactic| walk_at "st") => `(tactic| first
  | refine ⟨_, rfl, ?_⟩
  | refine ⟨_, _, rfl, rfl, (by walk_at "cnd" : (_ : Prop)), ?_⟩
  | refine ⟨_, _, rfl, rfl, ?_⟩
  | refine ⟨rfl, ?_⟩
  | refine Or.inl ⟨_, rfl, ?_⟩
  | refine ⟨_, _, _, _, rfl, rfl, by exact SqL.of (by walk_at "hp"), by walk_at "at", ?_⟩
  | refine ⟨_, _, _, _, rfl, rfl, by exact SqT.of (by walk_at "hp"), by walk_at "at", ?_⟩
  | refine ⟨_, _, _, _, rfl, rfl, by walk_at "hp", by walk_at "ix", ?_⟩
  | refine ⟨_, _, rfl, Or.inl (by exact SqL.of (by walk_at "hp")), ?_⟩
  | refine ⟨_, _, rfl, Or.inr (by exact SqT.of (by walk_at "hp")), ?_⟩)
local macro_rules | `(tactic| walk_at "so") => `(tactic| first
  | refine ⟨_, _, _, _, _, rfl, by walk_at "hp", by assumption, by assumption, rfl, ?_⟩
  | refine ⟨_, _, _, _, rfl, by walk_at "hp", by assumption, by assumption, Nat.le_of_ble_eq_true rfl, ?_⟩
  | refine ⟨_, _, _, rfl, by walk_at "hp", rfl, ?_⟩
  | walk_at "st")
local macro_rules | `(tactic| walk_at "ro") => `(tactic| repeat walk_at "so")
local macro_rules | `(tactic| walk_at "run") => `(tactic| repeat walk_at "st")

/-! the law's own common packet -/
def tw (rows : List Row3) (i : Nat) : Nat × Nat := match rows.find? (fun r => decide (r.1 = i)) with
  | some r => r.2
  | none => (0, 0)
theorem tw_in {rows : List Row3} (h : Up rows) {r : Row3} (hr : r ∈ rows) : tw rows r.1 = r.2 := by
  induction rows with
  | nil => cases hr
  | cons q rows ih =>
    obtain ⟨h1, h2⟩ := List.pairwise_cons.mp h
    unfold tw
    rcases List.mem_cons.mp hr with e | m
    · subst e
      rw [List.find?_cons_of_pos (by simp)]
    · have := h1 r m
      rw [List.find?_cons_of_neg (by simp; omega)]
      exact ih h2 m
theorem tw_out {rows : List Row3} {i : Nat} (h : ∀ r ∈ rows, r.1 ≠ i) : tw rows i = (0, 0) := by
  unfold tw
  rw [List.find?_eq_none.mpr fun r hr => by simpa using h r hr]
theorem stO_tw {rows : List Row3} {ws : List Nat} {i : Nat} (h : Up rows) (h6 : ∀ r ∈ rows, r.1 < ws.length) : (rows.foldl stO ws).getD i 0 = ws.getD i 0 ||| (tw rows i).2 := by
  by_cases q : ∃ r ∈ rows, r.1 = i
  · obtain ⟨r, hr, e⟩ := q
    subst e
    rw [stO_in rows ws r h hr (h6 r hr), tw_in h hr]
  · have q' : ∀ r ∈ rows, r.1 ≠ i := fun r hr e => q ⟨r, hr, e⟩
    rw [stO_out rows ws i q', tw_out q']
    simp
def clM (one other : List Row3) (i : Nat) : Nat := (((tw one i).2 ^^^ (tw other i).2) &&& (tw one i).1) &&& (tw other i).1
def orM (one other : List Row3) (i : Nat) : Nat := (tw one i).2 ||| (tw other i).2
theorem lawC_none {one other : List Row3} (g1 : Good one) (g2 : Good other) {i : Nat} (h : clM one other i ≠ 0) : commonM other one = none := by
  rw [common_none g2 g1]
  obtain ⟨b, b1, b2, b3⟩ := clash_bits.mp h
  have key : ∀ {rows : List Row3}, Good rows → (tw rows i).1.testBit b = true → ∃ r ∈ rows, r.1 = i ∧ (tw rows i) = r.2 := fun {rows} g hb => by
    by_cases q : ∃ r ∈ rows, r.1 = i
    · obtain ⟨r, hr, e⟩ := q
      exact ⟨r, hr, e, by rw [← e]; exact tw_in g.1 hr⟩
    · rw [tw_out fun r hr e => q ⟨r, hr, e⟩] at hb
      simp at hb
  obtain ⟨r, hr, e1, e2⟩ := key g1 b1
  obtain ⟨s, hs, e3, e4⟩ := key g2 b2
  rw [e2] at b1 b3
  rw [e4] at b2 b3
  exact ⟨s, hs, r, hr, e1.trans e3.symm, b, tb_lt (g1.2.1 r hr).2.2.1 b1, b2, b1, fun z => b3 z.symm⟩
theorem lawC_some {one other : List Row3} (g1 : Good one) (g2 : Good other) (h : ∀ i < 6, clM one other i = 0) : commonM other one = some ((List.range 6).map (orM one other)) := by
  cases e : commonM other one with
  | none =>
    obtain ⟨s, hs, r, hr, q, b, _, b1, b2, b3⟩ := (common_none g2 g1).mp e
    have := h r.1 (g1.2.1 r hr).1
    refine absurd this (clash_bits.mpr ⟨b, ?_, ?_, ?_⟩)
    · rw [tw_in g1.1 hr]; exact b2
    · rw [q, tw_in g2.1 hs]; exact b1
    · rw [tw_in g1.1 hr, q, tw_in g2.1 hs]
      exact fun z => b3 z.symm
  | some ws =>
    obtain ⟨ew, wl, _⟩ := common_some g2 g1 e
    congr 1
    refine List.ext_getElem (by simp [wl]) fun i h1 h2 => ?_
    have a1 : ws.getD i 0 = ws[i] := by rw [List.getD_eq_getElem?_getD, List.getElem?_eq_getElem h1]; rfl
    rw [← a1, ew, List.foldl_append, stO_tw g1.1 (fun r hr => by rw [stO_len]; exact (g1.2.1 r hr).1), stO_tw (ws := z6) g2.1 (fun r hr => (show r.1 < 6 from (g2.2.1 r hr).1)), z6_getD, Nat.zero_or, List.getElem_map, List.getElem_range]
    exact Nat.or_comm _ _
end My

namespace My
open PySem L2
local macro_rules | `(tactic| walk_at "ne") => `(tactic| first | assumption | exact Ne.symm (by assumption) | exact ne_of_none (by assumption) (by assumption) | exact Ne.symm (ne_of_none (by assumption) (by assumption)))
local macro_rules | `(tactic| walk_at "hp") => `(tactic| first | assumption | with_reducible exact upd_same | (with_reducible refine Eq.trans (upd_ne ?_) ?_; rotate_left; walk_at "hp"; walk_at "ne"))
local macro_rules | `(tactic| walk_at "cnd") => `(tactic| first | omega | (show (0 : Int) < _; omega) | exact ⟨by omega, by omega⟩ | exact Or.inl ⟨by omega, by omega⟩ | exact Or.inr ⟨by omega, by omega⟩ | exact ⟨by omega, by omega, by decide⟩ | exact ⟨by omega, by omega, by omega⟩)
local macro_rules | `(tactic| walk_at "at") => `(tactic| first | exact atC 0 rfl rfl | exact atC 1 rfl rfl | exact atC 2 rfl rfl | exact atC 3 rfl rfl | exact atC 4 rfl rfl | exact atC 5 rfl rfl | exact atC 6 rfl rfl | exact atC 7 rfl rfl)
local macro_rules | `(tactic| walk_at "ix") => `(tactic| first | exact ixC 0 rfl (Nat.le_of_ble_eq_true rfl) | exact ixC 1 rfl (Nat.le_of_ble_eq_true rfl) | exact ixC 2 rfl (Nat.le_of_ble_eq_true rfl) | exact ixC 3 rfl (Nat.le_of_ble_eq_true rfl) | exact ixC 4 rfl (Nat.le_of_ble_eq_true rfl) | exact ixC 5 rfl (Nat.le_of_ble_eq_true rfl))
local macro_rules | `(tactic| walk_at "st") => `(tactic| first
  | refine ⟨_, rfl, ?_⟩
  | refine ⟨_, _, rfl, rfl, (by walk_at "cnd" : (_ : Prop)), ?_⟩
  | refine ⟨_, _, rfl, rfl, ?_⟩
  | refine ⟨rfl, ?_⟩
  | refine Or.inl ⟨_, rfl, ?_⟩
  | refine ⟨_, _, _, _, rfl, rfl, by exact SqL.of (by walk_at "hp"), by walk_at "at", ?_⟩
  | refine ⟨_, _, _, _, rfl, rfl, by exact SqT.of (by walk_at "hp"), by walk_at "at", ?_⟩
  | refine ⟨_, _, _, _, rfl, rfl, by walk_at "hp", by walk_at "ix", ?_⟩
  | refine ⟨_, _, rfl, Or.inl (by exact SqL.of (by walk_at "hp")), ?_⟩
  | refine ⟨_, _, rfl, Or.inr (by exact SqT.of (by walk_at "hp")), ?_⟩)
local macro_rules | `(tactic| walk_at "so") => `(tactic| first
  | refine ⟨_, _, _, _, _, rfl, by walk_at "hp", by assumption, by assumption, rfl, ?_⟩
  | refine ⟨_, _, _, _, rfl, by walk_at "hp", by assumption, by assumption, Nat.le_of_ble_eq_true rfl, ?_⟩
  | refine ⟨_, _, _, rfl, by walk_at "hp", rfl, ?_⟩
  | walk_at "st")
local macro_rules | `(tactic| walk_at "ro") => `(tactic| repeat walk_at "so")
local macro_rules | `(tactic| walk_at "run") => `(tactic| repeat walk_at "st")

/-! the tape -/
def Tape (H : Hp) (a s : Addr) : Prop := ∃ (ns : List Int) (i r : Int), H a = some (.lst [.ref s, .int i, .int r]) ∧ H s = some (.lst (ns.map V.int)) ∧ 0 ≤ i ∧ 0 ≤ r
def spNext : Sp := fun vs H Q _ => ∃ (a t : Addr) (many : Int), vs = [.ref a, .int many] ∧ 0 < many ∧ many < 1000000 ∧ Tape H a t ∧ ∀ v H', 0 ≤ v → v < many → Tape H' a t → Chg a H H' → Q (.int v) H'
theorem Tape.lst {H : Hp} {a t : Addr} (h : Tape H a t) : ∃ xs, H a = some (.lst xs) := by
  obtain ⟨ns, i, r, ha, _⟩ := h
  exact ⟨_, ha⟩
theorem Tape.at {H : Hp} {a t p : Addr} (h : Tape H a t) (hp : H p = none) : p ≠ a := by
  obtain ⟨ns, i, r, ha, _⟩ := h
  exact (ne_of_none ha hp).symm
theorem Tape.at2 {H : Hp} {a t p : Addr} (h : Tape H a t) (hp : H p = none) : p ≠ t := by
  obtain ⟨ns, i, r, ha, hs, _⟩ := h
  exact (ne_of_none hs hp).symm
theorem Tape.same {H H' : Hp} {a t : Addr} (h : Tape H a t) (s : Same H H') : Tape H' a t := by
  obtain ⟨ns, i, r, ha, hs, q⟩ := h
  exact ⟨ns, i, r, s _ _ ha, s _ _ hs, q⟩
theorem Tape.upd {H : Hp} {a t W : Addr} {o : HO} (h : Tape H a t) (n1 : W ≠ a) (n2 : W ≠ t) : Tape (L2.upd H W o) a t := by
  obtain ⟨ns, i, r, ha, hs, q⟩ := h
  exact ⟨ns, i, r, by rw [upd_ne n1.symm]; exact ha, by rw [upd_ne n2.symm]; exact hs, q⟩
theorem Tape.ts {H H' : Hp} {a t : Addr} (h : Tape H a t) (c : Chg a H H') : TS H H' := by
  obtain ⟨xs, e⟩ := h.lst
  exact c.ts e
theorem Tape.keep {H H' : Hp} {a s : Addr} (h : Tape H a s) (k1 : ∀ o, H a = some o → H' a = some o) (k2 : ∀ o, H s = some o → H' s = some o) : Tape H' a s := by
  obtain ⟨ns, i, r, ha, hs, q⟩ := h
  exact ⟨ns, i, r, k1 _ ha, k2 _ hs, q⟩
theorem Tape.al {H : Hp} {a s : Addr} (h : Tape H a s) : ∃ o1 o2, H a = some o1 ∧ H s = some o2 := by
  obtain ⟨ns, i, r, ha, hs, q⟩ := h
  exact ⟨_, _, ha, hs⟩
def spDraws (K : PySem.W.Frag) : Sp := fun vs H Q _ => ∃ (a : Addr) (ns : List Int), vs = [.ref a] ∧ SqL K H a (ns.map V.int) ∧ ∀ t p H', t ≠ p → H t = none → H p = none → Tape H' t p → Q (.ref t) H'
section
variable {P : Program} {w : World} {K : PySem.W.Frag} {mg : Str → Option Value} {base : Heap} {C_Net C_NotValid : Addr}{A_EMPTY : Addr}
abbrev s_law_draws : Stmt := topS 37
abbrev ns_law_draws : List Str := ["script"]
theorem sc_law_draws : FnScope ns_law_draws ["script"] (defScope s_law_draws) := ⟨rfl, rfl, rfl, by decide +kernel, rfl, by decide +kernel, by decide +kernel⟩

theorem ok_law_draws {f : Addr} {fd : FuncData} (F : Fun K "_law_draws" "_law_draws" s_law_draws f fd) (T : Txt K mg C_Net C_NotValid A_EMPTY) : FnOk P w K mg base CX0 1 f fd ["script"] (spDraws K) := by
  refine F.ok sc_law_draws (fun vs H Q E h => ?_) (fun cdv A outer s H vs Q E hr h => ?_)
  · obtain ⟨a, ns, rfl, _⟩ := h
    rfl
  · obtain ⟨a, ns, rfl, hS, k⟩ := h
    refine ⟨_, (pss_one (ps_ret (pe_lst (pa_cons (pe_callTy (kListOf K) (by rfl) T.b_list (by decide +kernel) (pa_cons (pv 0) pa_nil)) (pa_cons pe_int (pa_cons pe_int pa_nil)))))), ?_⟩
    refine ⟨_, rfl, _, _, rfl, .inl hS, fun p hp => ⟨szl rfl, fun tp htp => ?_⟩⟩
    exact k tp p _ (ne_of_none upd_same htp).symm ((Same.new hp).free htp) hp ⟨ns, 0, 0, upd_same, Same.new htp _ _ upd_same, by decide, by decide⟩
abbrev s_law_draw : Stmt := topS 38
abbrev ns_law_draw : List Str := ["draws", "many", "cell", "seed", "rest"]
theorem sc_law_draw : FnScope ns_law_draw ["draws", "many"] (defScope s_law_draw) := ⟨rfl, rfl, rfl, by decide +kernel, rfl, by decide +kernel, by decide +kernel⟩

theorem ok_law_draw {f : Addr} {fd : FuncData} (F : Fun K "_law_draw" "_law_draw" s_law_draw f fd) (T : Txt K mg C_Net C_NotValid A_EMPTY) : FnOk P w K mg base CX0 1 f fd ["draws", "many"] spNext := by
  refine F.ok sc_law_draw (fun vs H Q E h => ?_) (fun cdv A outer s H vs Q E hr h => ?_)
  · obtain ⟨a, s, many, rfl, _⟩ := h
    rfl
  · obtain ⟨a, s, many, rfl, m0, m1, ⟨ns, i, r, ha, hs, i0, r0⟩, k⟩ := h
    have nsa : s ≠ a := ne_of hs ha (by intro q; cases ns <;> cases q)
    refine ⟨_, (C8.pss_cut (ps_if (pt_cmpR op_eq (pe_ix (kIxL K) (pv 0) pe_int (fun _ _ => rfl)) pe_int (nomark _)) (pss_cons (ps_set (i := 2) sc_law_draw.nd rfl (Or.inl rfl) pe_int)
  (C8.pss_cut (ps_if (pt_cmpR op_lt (pe_ix (kIxL K) (pv 0) pe_int (fun _ _ => rfl)) (pe_callB (kLen K) (by rfl) T.b_len (by decide +kernel) (pa_cons (pe_ix (kIxL K) (pv 0) pe_int (fun _ _ => rfl)) pa_nil)) (nomark _)) (pss_one (ps_set (i := 2) sc_law_draw.nd rfl (Or.inl rfl) (pe_callB call_abs (by rfl) T.b_abs (by decide +kernel) (pa_cons (pe_callTy call_int1 (by rfl) T.b_int (by decide +kernel) (pa_cons (pe_ix (kIxL K) (pe_ix (kIxL K) (pv 0) pe_int (fun _ _ => rfl)) (pe_ix (kIxL K) (pv 0) pe_int (fun _ _ => rfl)) (fun _ _ => rfl)) pa_nil)) pa_nil)))) pss_nil)
  (pss_cons (ps_asg (pe_op op_add (pe_ix (kIxL K) (pv 0) pe_int (fun _ _ => rfl)) pe_int) (pg_sub (pv 0) pe_int set_list))
  (pss_cons (ps_asg (pv 2) (pg_sub (pv 0) pe_int set_list))
  (pss_one (ps_if (pt_cmpR op_lt (pv 2) (pe_op op_pow pe_int pe_int) (nomark _)) (pss_cons (ps_set (i := 3) sc_law_draw.nd rfl (Or.inl rfl) (pe_op op_mod (pe_callTy call_int1 (by rfl) T.b_int (by decide +kernel) (pa_cons (pe_op op_add (pe_op op_add (pe_op op_mul (pv 2) pe_int) (pe_op op_mul (pe_ix (kIxL K) (pv 0) pe_int (fun _ _ => rfl)) pe_int)) pe_int) pa_nil)) pe_int))
  (pss_one (ps_asg (pe_op op_add (pe_op op_mul (pv 3) pe_int) (pe_op op_mod (pe_callTy call_int1 (by rfl) T.b_int (by decide +kernel) (pa_cons (pe_op op_add (pe_op op_mul (pv 3) pe_int) (pv 2)) pa_nil)) pe_int)) (pg_sub (pv 0) pe_int set_list)))) pss_nil)))))) pss_nil)
  (pss_cons (ps_set (i := 4) sc_law_draw.nd rfl (Or.inl rfl) (pe_ix (kIxL K) (pv 0) pe_int (fun _ _ => rfl)))
  (pss_cons (ps_asg (pe_op op_fdiv (pv 4) (pv 1)) (pg_sub (pv 0) pe_int set_list))
  (pss_one (ps_ret (pe_op op_mod (pe_callTy call_int1 (by rfl) T.b_int (by decide +kernel) (pa_cons (pv 4) pa_nil)) (pv 1))))))), ?_⟩
    refine ⟨fun σ H1 => ∃ i' r' v3 v4, σ = [some (.ref a), some (.int many), v3, v4, none] ∧ 0 ≤ r' ∧ 0 ≤ i' ∧ H1 a = some (.lst [.ref s, .int i', .int r']) ∧ H1 s = some (.lst (ns.map V.int)) ∧ Chg a H H1, ?_, ?_⟩
    · walk_at "run"
      refine iteD (fun h1 => ?_) (fun h1 => ?_)
      · walk_at "run"
        refine ⟨fun σ H1 => ∃ cell, σ = [some (.ref a), some (.int many), some (.int cell), none, none] ∧ 0 ≤ cell ∧ H1 a = some (.lst [.ref s, .int i, .int r]) ∧ H1 s = some (.lst (ns.map V.int)) ∧ Chg a H H1, ?_, ?_⟩
        · walk_at "run"
          refine iteD (fun h2 => ?_) (fun h2 => ?_)
          · have hi : i.toNat < ns.length := by simpa using (show i.toNat < (ns.map V.int).length by omega)
            walk_at "run"
            refine ⟨_, _, _, _, rfl, rfl, SqL.of hs, atC i.toNat (by omega) (by rw [List.getElem?_map, List.getElem?_eq_getElem hi]; rfl), ?_⟩
            walk_at "run"
            exact ⟨by split <;> omega, ha, hs, Chg.refl _ _⟩
          · exact ⟨0, rfl, by omega, ha, hs, Chg.refl _ _⟩
        · rintro σ H1 ⟨cell, rfl, c0, ha1, hs1, ch⟩
          walk_at "run"
          refine iteD (fun h3 => ?_) (fun h3 => ?_)
          · walk_at "run"
            have e1 : 0 ≤ (cell * 48271 + (i + 1) * 69621 + 11) % 2147483647 := Int.emod_nonneg _ (by decide)
            have e2 : 0 ≤ ((cell * 48271 + (i + 1) * 69621 + 11) % 2147483647 * 16807 + cell) % 2147483629 := Int.emod_nonneg _ (by decide)
            exact ⟨i + 1, (cell * 48271 + (i + 1) * 69621 + 11) % 2147483647 * 2147483629 + ((cell * 48271 + (i + 1) * 69621 + 11) % 2147483647 * 16807 + cell) % 2147483629, _, _, rfl, by omega, by omega, upd_same, by rw [upd_ne nsa, upd_ne nsa, upd_ne nsa]; exact hs1, ch.trans ((Chg.upd.trans Chg.upd).trans Chg.upd)⟩
          · exact ⟨i + 1, cell, _, _, rfl, c0, by omega, upd_same, by rw [upd_ne nsa, upd_ne nsa]; exact hs1, ch.trans (Chg.upd.trans Chg.upd)⟩
      · exact ⟨i, r, _, _, rfl, r0, i0, ha, hs, Chg.refl _ _⟩
    · rintro σ H1 ⟨i', r', v3, v4, rfl, c0, i0', ha1, hs1, ch⟩
      walk_at "run"
      exact k _ _ (Int.emod_nonneg _ (by omega)) (Int.emod_lt_of_pos _ m0) ⟨ns, i', r' / many, upd_same, by rw [upd_ne nsa]; exact hs1, i0', Int.ediv_nonneg c0 (by omega)⟩ (ch.trans Chg.upd)
end
end My

namespace My
open PySem L2
local macro_rules | `(tactic| walk_at "ne") => `(tactic| first | assumption | exact Ne.symm (by assumption) | exact ne_of_none (by assumption) (by assumption) | exact Ne.symm (ne_of_none (by assumption) (by assumption)))
local macro_rules | `(tactic| walk_at "hp") => `(tactic| first | assumption | with_reducible exact upd_same | (with_reducible refine Eq.trans (upd_ne ?_) ?_; rotate_left; walk_at "hp"; walk_at "ne"))
local macro_rules | `(tactic| walk_at "cnd") => `(tactic| first | omega | (show (0 : Int) < _; omega) | exact ⟨by omega, by omega⟩ | exact Or.inl ⟨by omega, by omega⟩ | exact Or.inr ⟨by omega, by omega⟩ | exact ⟨by omega, by omega, by decide⟩ | exact ⟨by omega, by omega, by omega⟩)
local macro_rules | `(tactic| walk_at "at") => `(tactic| first | exact atC 0 rfl rfl | exact atC 1 rfl rfl | exact atC 2 rfl rfl | exact atC 3 rfl rfl | exact atC 4 rfl rfl | exact atC 5 rfl rfl | exact atC 6 rfl rfl | exact atC 7 rfl rfl)
local macro_rules | `(tactic| walk_at "ix") => `(tactic| first | exact ixC 0 rfl (Nat.le_of_ble_eq_true rfl) | exact ixC 1 rfl (Nat.le_of_ble_eq_true rfl) | exact ixC 2 rfl (Nat.le_of_ble_eq_true rfl) | exact ixC 3 rfl (Nat.le_of_ble_eq_true rfl) | exact ixC 4 rfl (Nat.le_of_ble_eq_true rfl) | exact ixC 5 rfl (Nat.le_of_ble_eq_true rfl))
local macro_rules | `(tactic| walk_at "st") => `(tactic| first
  | refine ⟨_, rfl, ?_⟩
  | refine ⟨_, _, rfl, rfl, (by walk_at "cnd" : (_ : Prop)), ?_⟩
  | refine ⟨_, _, rfl, rfl, ?_⟩
  | refine ⟨rfl, ?_⟩
  | refine Or.inl ⟨_, rfl, ?_⟩
  | refine ⟨_, _, _, _, rfl, rfl, by exact SqL.of (by walk_at "hp"), by walk_at "at", ?_⟩
  | refine ⟨_, _, _, _, rfl, rfl, by exact SqT.of (by walk_at "hp"), by walk_at "at", ?_⟩
  | refine ⟨_, _, _, _, rfl, rfl, by walk_at "hp", by walk_at "ix", ?_⟩
  | refine ⟨_, _, rfl, Or.inl (by exact SqL.of (by walk_at "hp")), ?_⟩
  | refine ⟨_, _, rfl, Or.inr (by exact SqT.of (by walk_at "hp")), ?_⟩)
local macro_rules | `(tactic| walk_at "so") => `(tactic| first
  | refine ⟨_, _, _, _, _, rfl, by walk_at "hp", by assumption, by assumption, rfl, ?_⟩
  | refine ⟨_, _, _, _, rfl, by walk_at "hp", by assumption, by assumption, Nat.le_of_ble_eq_true rfl, ?_⟩
  | refine ⟨_, _, _, rfl, by walk_at "hp", rfl, ?_⟩
  | walk_at "st")
local macro_rules | `(tactic| walk_at "ro") => `(tactic| repeat walk_at "so")
local macro_rules | `(tactic| walk_at "run") => `(tactic| repeat walk_at "st")

theorem Dt.new' {H : Hp} {v : V} {d : PyData} {p : Addr} {o : HO} (h : Dt H v d) (hp : H p = none) : Dt (upd H p o) v d := h.same (Same.new hp)
/-- the pairs of a dict of tests -/
inductive Pr (H : Hp) : List (L2.Key × V) → List Row3 → Prop
  | nil : Pr H [] []
  | cons {r : Row3} {t : Addr} {kvs : List (L2.Key × V)} {rows : List Row3} : H t = some (.tup [.int r.2.1, .int r.2.2]) → Pr H kvs rows → Pr H ((Sum.inl (r.1 : Int), .ref t) :: kvs) (r :: rows)
theorem Pr.ts {H H' : Hp} (s : TS H H') : ∀ {kvs : List (L2.Key × V)} {rows : List Row3}, Pr H kvs rows → Pr H' kvs rows
  | _, _, .nil => .nil
  | _, _, .cons a b => .cons (s _ _ a) (b.ts s)
theorem Pr.len {H : Hp} : ∀ {kvs : List (L2.Key × V)} {rows : List Row3}, Pr H kvs rows → kvs.length = rows.length
  | _, _, .nil => rfl
  | _, _, .cons _ b => by rw [List.length_cons, List.length_cons, b.len]
theorem Pr.snoc {H : Hp} {r : Row3} {t : Addr} (h : H t = some (.tup [.int r.2.1, .int r.2.2])) : ∀ {kvs : List (L2.Key × V)} {rows : List Row3}, Pr H kvs rows → Pr H (kvs ++ [(Sum.inl (r.1 : Int), .ref t)]) (rows ++ [r])
  | _, _, .nil => .cons h .nil
  | _, _, .cons a b => .cons a (b.snoc h)
theorem Pr.keys {H : Hp} : ∀ {kvs : List (L2.Key × V)} {rows : List Row3}, Pr H kvs rows → kvs.map (·.1) = rows.map fun r => (Sum.inl (r.1 : Int) : L2.Key)
  | _, _, .nil => rfl
  | _, _, .cons _ b => by rw [List.map_cons, List.map_cons, b.keys]
theorem Pr.get {H : Hp} (i : Nat) : ∀ {kvs : List (L2.Key × V)} {rows : List Row3}, Pr H kvs rows → (valV kvs (Sum.inl (i : Int) : L2.Key) = none ∧ tw rows i = (0, 0)) ∨ ∃ t, valV kvs (Sum.inl (i : Int) : L2.Key) = some (.ref t) ∧ H t = some (.tup [.int (tw rows i).1, .int (tw rows i).2])
  | _, _, .nil => .inl ⟨rfl, rfl⟩
  | _, _, .cons (r := r) (t := t) (kvs := kvs) (rows := rows) a b => by
    by_cases q : r.1 = i
    · refine .inr ⟨t, valV_pos (by rw [q]), ?_⟩
      unfold tw
      rw [List.find?_cons_of_pos (by simpa using q)]
      exact a
    · rw [valV_neg (fun z => q (Int.ofNat.inj (Sum.inl.inj z)))]
      have : tw (r :: rows) i = tw rows i := by
        unfold tw
        rw [List.find?_cons_of_neg (by simpa using q)]
      rw [this]
      exact b.get i
theorem valV_none_of {kvs : List (L2.Key × V)} {k : L2.Key} (h : k ∉ kvs.map (·.1)) : valV kvs k = none := by
  induction kvs with
  | nil => rfl
  | cons p kvs ih =>
    obtain ⟨k', v⟩ := p
    rw [List.map_cons] at h
    rw [valV_neg (fun z => h (by rw [z]; exact List.mem_cons_self))]
    exact ih fun z => h (List.mem_cons_of_mem _ z)
theorem mergeK_new : ∀ (more acc : List (L2.Key × V)), ((acc ++ more).map (·.1)).Nodup → mergeK acc more = acc ++ more
  | [], acc, _ => by simp [mergeK]
  | (k, v) :: r, acc, h => by
    have hn : valV acc k = none := valV_none_of fun z => by
      rw [List.map_append, List.map_cons] at h
      have := (List.pairwise_append.mp h).2.2 k z k List.mem_cons_self
      exact this rfl
    show mergeK (putK acc k v) r = _
    rw [putK_new v hn, mergeK_new r _ (by rw [List.append_assoc]; exact h), List.append_assoc]; rfl
theorem Pr.merge {H : Hp} {kvs : List (L2.Key × V)} {rows : List Row3} (h : Pr H kvs rows) (u : Up rows) : mergeK [] kvs = kvs := by
  rw [mergeK_new kvs [] ?_]; rfl
  rw [List.nil_append, h.keys]
  exact List.pairwise_map.mpr (u.imp fun {r s} q z => by have := Int.ofNat.inj (Sum.inl.inj z); omega)
theorem paired_snoc {α β : Type} {R : α → β → Prop} {a : α} {b : β} (h : R a b) : ∀ {xs : List α} {ys : List β}, Paired R xs ys → Paired R (xs ++ [a]) (ys ++ [b])
  | _, _, .nil => .cons h .nil
  | _, _, .cons p r => .cons p (paired_snoc h r)
theorem paired_imp {α β : Type} {R R' : α → β → Prop} (h : ∀ a b, R a b → R' a b) : ∀ {xs : List α} {ys : List β}, Paired R xs ys → Paired R' xs ys
  | _, _, .nil => .nil
  | _, _, .cons p r => .cons (h _ _ p) (paired_imp h r)
def DR (H : Hp) (v : V) (rows : List Row3) : Prop := ∃ d kvs, v = .ref d ∧ H d = some (.dK kvs) ∧ Pr H kvs rows
theorem DR.same {H H' : Hp} {v : V} {rows : List Row3} (h : DR H v rows) (s : Same H H') : DR H' v rows := by
  obtain ⟨d, kvs, e, a, b⟩ := h
  exact ⟨d, kvs, e, s _ _ a, b.ts (Same.ts s)⟩
theorem DR.lst {H : Hp} {v : V} {rows : List Row3} {D : Addr} {xs ys : List V} (h : DR H v rows) (hd : H D = some (.lst xs)) : DR (upd H D (.lst ys)) v rows := by
  obtain ⟨d, kvs, e, a, b⟩ := h
  exact ⟨d, kvs, e, by rw [upd_ne (ne_of a hd (by intro z; cases z))]; exact a, b.ts (Chg.ts Chg.upd hd)⟩
theorem getTw {H : Hp} {d q : Addr} {kvs : List (L2.Key × V)} {rows : List Row3} (i : Nat) (hd : H d = some (.dK kvs)) (hk : Pr H kvs rows) (hq : H q = some (.tup [.int 0, .int 0])) :
    ∃ o x, DGet H d (.int (i : Int)) o ∧ o.getD (.ref q) = .ref x ∧ H x = some (.tup [.int (tw rows i).1, .int (tw rows i).2]) := by
  have dg := DGet.k (k := (Sum.inl (i : Int) : L2.Key)) hd
  rcases hk.get i with ⟨e1, e2⟩ | ⟨t, e1, e2⟩
  · rw [e1] at dg
    exact ⟨_, q, dg, rfl, by rw [e2]; exact hq⟩
  · rw [e1] at dg
    exact ⟨_, t, dg, rfl, e2⟩
def spLCom (K : PySem.W.Frag) : Sp := fun vs H Q _ => ∃ t p one other, vs = [t, p] ∧ Dt H t (fD one) ∧ Dt H p (fD other) ∧ Good one ∧ Good other ∧
  (commonM other one = none → ∀ H', Same H H' → Q .non H') ∧ (∀ ws q H', commonM other one = some ws → Same H H' → Dt H' (.ref q) (pD ws) → Q (.ref q) H')
section
variable {P : Program} {w : World} {K : PySem.W.Frag} {mg : Str → Option Value} {base : Heap} {C_Net C_NotValid : Addr}{A_EMPTY : Addr}
abbrev s_law_common : Stmt := topS 39
abbrev ns_law_common : List Str := ["one", "other", "tests", "index", "mask", "value", "rows", "packet", "first", "second"]
theorem sc_law_common : FnScope ns_law_common ["one", "other"] (defScope s_law_common) := ⟨rfl, rfl, rfl, by decide +kernel, rfl, by decide +kernel, by decide +kernel⟩

theorem ok_law_common {f : Addr} {fd : FuncData} (F : Fun K "_law_common" "_law_common" s_law_common f fd) (T : Txt K mg C_Net C_NotValid A_EMPTY) : FnOk P w K mg base CX0 1 f fd ["one", "other"] (spLCom K) := by
  refine F.ok sc_law_common (fun vs H Q E h => ?_) (fun cdv A outer s H vs Q E hr h => ?_)
  · obtain ⟨t, p, one, other, rfl, _⟩ := h
    rfl
  · obtain ⟨t, p, one, other, rfl, ht, hp, g1, g2, kN, kS⟩ := h
    refine ⟨_, (pss_cons (ps_setLc (i := 2) (own := [("rows", 6)]) (by rfl) sc_law_common.nd rfl rfl (sw_true rfl rfl rfl (by decide +kernel)) (kpiT K (pe_tup (pa_cons (pv 0) (pa_cons (pv 1) pa_nil)))) (blkOk_by (N := ns_law_common) (sc := defScope s_law_common) (by decide +kernel)) (fun _ _ _ _ _ => (pg_name (i := 6) sc_law_common.nd rfl (Or.inl rfl))) (fun _ _ _ _ _ => pts_nil) (fun _ _ _ _ _ => (pe_callTy (kDictP K) (by rfl) T.b_dict (by decide +kernel) (pa_cons (pe_lc (own := [("index", 3), ("mask", 4), ("value", 5)]) (by rfl) sc_law_common.nd (kpiT K (pv 6)) (blkOk_by (N := ns_law_common) (sc := { kind := .function, names := [(".0", .local), ("rows", .local), ("dict", .globalImplicit)], isGenerator := false, isCoroutine := false }) (by decide +kernel)) (fun _ _ _ _ _ => (kpgT K (n := 3) (by rfl) (pgs_cons (pg_name (i := 3) sc_law_common.nd rfl (Or.inl rfl)) (pgs_cons (pg_name (i := 4) sc_law_common.nd rfl (Or.inl rfl)) (pgs_cons (pg_name (i := 5) sc_law_common.nd rfl (Or.inl rfl)) pgs_nil))))) (fun _ _ _ _ _ => pts_nil) (fun _ _ _ _ _ => (pe_tup (pa_cons (pv 3) (pa_cons (pe_tup (pa_cons (pv 4) (pa_cons (pv 5) pa_nil))) pa_nil))))) pa_nil))))
  (pss_cons (ps_set (i := 7) sc_law_common.nd rfl (Or.inl rfl) (pe_lst pa_nil))
  (pss_cons (ps_for PassesOwn.never (by rfl) (pi_range1 (by rfl) T.b_range (pa_cons pe_int pa_nil)) (pg_name (i := 3) sc_law_common.nd rfl (Or.inl rfl)) (pss_cons (ps_set (i := 8) sc_law_common.nd rfl (Or.inl rfl) (pe_dget2 (units1 hr) (pe_ix (kIxL K) (pv 2) pe_int (fun _ _ => rfl)) (pv 3) (pe_tup (pa_cons pe_int (pa_cons pe_int pa_nil))) ⟨rfl, rfl, rfl, rfl⟩))
  (pss_cons (ps_set (i := 9) sc_law_common.nd rfl (Or.inl rfl) (pe_dget2 (units1 hr) (pe_ix (kIxL K) (pv 2) pe_int (fun _ _ => rfl)) (pv 3) (pe_tup (pa_cons pe_int (pa_cons pe_int pa_nil))) ⟨rfl, rfl, rfl, rfl⟩))
  (pss_cons (ps_if (pt_cmpR op_gt (pe_op op_and (pe_op op_and (pe_op op_xor (pe_ix (kIxT K) (pv 8) pe_int (fun _ _ => rfl)) (pe_ix (kIxT K) (pv 9) pe_int (fun _ _ => rfl))) (pe_ix (kIxT K) (pv 8) pe_int (fun _ _ => rfl))) (pe_ix (kIxT K) (pv 9) pe_int (fun _ _ => rfl))) pe_int (nomark _)) (pss_one (ps_ret pe_non)) pss_nil)
  (pss_one (ps_expr (kBM K PySem.F.plainAttrs_list PySem.F.slot_list_append PySem.F.type_list_append mt_append (pv 7) (pa_cons (pe_op op_or (pe_ix (kIxT K) (pv 8) pe_int (fun _ _ => rfl)) (pe_ix (kIxT K) (pv 9) pe_int (fun _ _ => rfl))) pa_nil))))))))
  (pss_one (ps_ret (pe_callTy (kTupOf K) (by rfl) T.b_tuple (by decide +kernel) (pa_cons (pv 7) pa_nil))))))), ?_⟩
    refine ⟨_, rfl, _, rfl, szl rfl, fun tt htt => ?_⟩
    have z1 := Same.new (o := .tup [t, p]) htt
    have htt1 : (upd H tt (.tup [t, p])) tt = some (.tup [t, p]) := upd_same
    have ht1 := ht.same z1
    have hp1 := hp.same z1
    generalize upd H tt (.tup [t, p]) = H1 at z1 htt1 ht1 hp1
    have rd : ∀ (i : Nat) (x : V), ([t, p] : List V)[i]? = some x → ∃ rows, ([one, other] : List (List Row3))[i]? = some rows ∧ Dt H1 x (fD rows) ∧ Good rows := fun i x e => by
      match i with
      | 0 => cases e; exact ⟨one, rfl, ht1, g1⟩
      | 1 => cases e; exact ⟨other, rfl, hp1, g2⟩
      | i + 2 => simp at e
    refine ⟨tt, rfl, ⟨_, SqT.of htt1⟩, fun D hD => lc_tup (xs := [t, p]) (fun i H' => Same H1 H' ∧ ∃ ds, H' D = some (.lst ds) ∧ ds.length = i ∧ ∀ (j : Nat) (v : V), ds[j]? = some v → ∃ rows, ([one, other] : List (List Row3))[j]? = some rows ∧ DR H' v rows) ?_ ?_ ?_ ?_⟩
    · exact ⟨Same.new hD, [], upd_same, rfl, fun j v e => by simp at e⟩
    · rintro i H' _ ⟨s, _⟩
      exact SqT.of (s _ _ htt1)
    · rintro i x H2 hi ⟨s2, ds, hds, dl, hall⟩
      obtain ⟨rows, hrows, hx, g⟩ := rd i x hi
      obtain ⟨a, xs, rfl, ha, hl, hat⟩ := fD_open (hx.same s2)
      have i2 : i < 2 := (List.getElem?_eq_some_iff.mp hi).1
      refine ⟨rfl, ?_⟩
      refine ⟨_, rfl, _, rfl, ⟨_, SqT.of ha⟩, fun D2 hD2 => lc_tup (xs := xs) (fun j H' => Same H2 H' ∧ ∃ (ps : List Addr) (kvs : List (L2.Key × V)), H' D2 = some (.lst (ps.map V.ref)) ∧ Paired (fun p kv => H' p = some (.tup [kV kv.1, kv.2])) ps kvs ∧ Pr H' kvs (rows.take j) ∧ ps.length = j) ?_ ?_ ?_ ?_⟩
      · exact ⟨Same.new hD2, [], [], upd_same, .nil, .nil, rfl⟩
      · rintro j H' _ ⟨s, _⟩
        exact SqT.of (s _ _ ha)
      · rintro j y H3 hj ⟨s3, ps, kvs, hps, hpr, hk, pl⟩
        obtain ⟨r, tr, hr1, rfl, htr⟩ := hat j y hj
        have htr3 := s3 _ _ htr
        refine ⟨_, _, rfl, SqT.of htr3, rfl, _, _, rfl, _, _, rfl, _, _, rfl, rfl, rfl, ?_⟩
        refine ⟨_, rfl, _, rfl, _, rfl, szl rfl, fun q1 h1 => ⟨szl rfl, fun q2 h2 => ?_⟩⟩
        have y1 := Same.new (o := .tup [.int (r.2.1 : Int), .int (r.2.2 : Int)]) h1
        have y2 := Same.new (o := .tup [.int (r.1 : Int), .ref q1]) h2
        have zz := y1.trans y2
        have hq1 := y2 _ _ (upd_same : (upd H3 q1 (.tup [.int (r.2.1 : Int), .int (r.2.2 : Int)])) q1 = some (.tup [.int (r.2.1 : Int), .int (r.2.2 : Int)]))
        have hq2 : (upd (upd H3 q1 (.tup [.int (r.2.1 : Int), .int (r.2.2 : Int)])) q2 (.tup [.int (r.1 : Int), .ref q1])) q2 = some (.tup [.int (r.1 : Int), .ref q1]) := upd_same
        generalize upd (upd H3 q1 (.tup [.int (r.2.1 : Int), .int (r.2.2 : Int)])) q2 (.tup [.int (r.1 : Int), .ref q1]) = H5 at zz hq1 hq2
        have hps5 := zz _ _ hps
        have ts : TS H5 (upd H5 D2 (.lst (ps.map V.ref ++ [.ref q2]))) := Chg.ts Chg.upd hps5
        have jl : j < xs.length := (List.getElem?_eq_some_iff.mp hj).1
        have pp : Paired (fun p (kv : L2.Key × V) => (upd H5 D2 (.lst (ps.map V.ref ++ [.ref q2]))) p = some (.tup [kV kv.1, kv.2])) (ps ++ [q2]) (kvs ++ [(Sum.inl (r.1 : Int), .ref q1)]) := by
          refine Paired.snoc (Paired.mapP hpr fun p kv e => ?_) ?_
          · exact ts _ _ (zz _ _ e)
          · exact ts _ _ hq2
        have g6 := g.2.2
        refine ⟨_, hps5, szt (by rw [List.length_map]; omega), Same.mut (s3.trans zz) hD2, ps ++ [q2], kvs ++ [(Sum.inl (r.1 : Int), .ref q1)], by rw [upd_same, List.map_append]; rfl, pp, ?_, by simp [pl]⟩
        rw [← take_snoc hr1]
        exact Pr.snoc (ts _ _ hq1) (hk.ts ((Same.ts zz).trans ts))
      · rintro H3 ⟨s3, ps, kvs, hps, hpr, hk, pl⟩
        rw [hl, List.take_length] at hk
        refine ⟨D2, ps, kvs, rfl, SqL.of hps, paired_imp (fun p kv e => SqT.of e) hpr, fun d hd => ?_⟩
        rw [hk.merge g.1]
        have y1 := Same.new (o := .dK kvs) hd
        have hd1 : (upd H3 d (.dK kvs)) d = some (.dK kvs) := upd_same
        generalize upd H3 d (.dK kvs) = H4 at y1 hd1
        have s34 := s3.trans y1
        have hds4 := s34 _ _ hds
        refine ⟨ds, hds4, szt (by omega), Same.mut (s2.trans s34) hD, ds ++ [.ref d], upd_same, by simp [dl], fun j v e => ?_⟩
        rcases Nat.lt_or_ge j ds.length with l | l
        · rw [List.getElem?_append_left l] at e
          obtain ⟨rows', h1, h2⟩ := hall j v e
          exact ⟨rows', h1, (h2.same s34).lst hds4⟩
        · rw [List.getElem?_append_right l] at e
          have e0 : j - ds.length = 0 := by
            rcases Nat.eq_zero_or_pos (j - ds.length) with h | h
            · exact h
            · rw [List.getElem?_eq_none (by simp; omega)] at e; cases e
          rw [e0] at e
          cases e
          exact ⟨rows, by rw [show j = i by omega]; exact hrows, DR.lst ⟨d, kvs, rfl, hd1, hk.ts (Same.ts y1)⟩ hds4⟩
    · rintro H2 ⟨s2, ds, hds, dl, hall⟩
      obtain ⟨v1, v2, rfl⟩ : ∃ v1 v2, ds = [v1, v2] := by
        match ds, dl with
        | [a, b], _ => exact ⟨a, b, rfl⟩
      obtain ⟨r1, e1, d1⟩ := hall 0 v1 rfl
      cases e1
      obtain ⟨r2, e2, d2⟩ := hall 1 v2 rfl
      cases e2
      obtain ⟨a1, k1, rfl, ha1, hk1⟩ := d1
      obtain ⟨a2, k2, rfl, ha2, hk2⟩ := d2
      refine ⟨szl rfl, fun L hL => ?_⟩
      have s02 := z1.trans s2
      refine ⟨6, rfl, by decide, by decide, for_range (fun i σ H' => ∃ (v3 v8 v9 : Option V), σ = [some t, some p, some (.ref D), v3, none, none, none, some (.ref L), v8, v9] ∧ Same H2 H' ∧ H' L = some (.lst (((List.range i).map (orM one other)).map vN)) ∧ ∀ j < i, clM one other j = 0) ?_ ?_ ?_⟩
      · exact ⟨_, _, _, rfl, Same.new hL, upd_same, fun j hj => by omega⟩
      · rintro i σ H3 hi ⟨v3, v8, v9, rfl, s3, hL3, hcl⟩
        rw [Int.zero_add]
        have hds3 := s3 _ _ hds
        refine ⟨_, rfl, _, _, _, _, rfl, rfl, SqL.of hds3, atC 0 rfl rfl, a1, rfl, .inl ⟨k1, .inl (s3 _ _ ha1)⟩, _, rfl, szl rfl, fun q hq => ?_⟩
        have y1 := Same.new (o := .tup [.int 0, .int 0]) hq
        obtain ⟨o1, x1, dg1, ex1, hx1⟩ := getTw i (s3.trans y1 _ _ ha1) (hk1.ts (Same.ts (s3.trans y1))) (upd_same : (upd H3 q (.tup [.int 0, .int 0])) q = some (.tup [.int 0, .int 0]))
        refine ⟨o1, dg1, ?_⟩
        rw [ex1]
        have hL4 := y1 _ _ hL3
        generalize upd H3 q (.tup [.int 0, .int 0]) = H4 at y1 dg1 hx1 hL4
        have s4 := s3.trans y1
        refine ⟨_, rfl, _, _, _, _, rfl, rfl, SqL.of (s4 _ _ hds), atC 1 rfl rfl, a2, rfl, .inl ⟨k2, .inl (s4 _ _ ha2)⟩, _, rfl, szl rfl, fun q2 hq2 => ?_⟩
        have y2 := Same.new (o := .tup [.int 0, .int 0]) hq2
        obtain ⟨o2, x2, dg2, ex2, hx2⟩ := getTw i (s4.trans y2 _ _ ha2) (hk2.ts (Same.ts (s4.trans y2))) (upd_same : (upd H4 q2 (.tup [.int 0, .int 0])) q2 = some (.tup [.int 0, .int 0]))
        refine ⟨o2, dg2, ?_⟩
        rw [ex2]
        have hL5 := y2 _ _ hL4
        have hx15 := y2 _ _ hx1
        generalize upd H4 q2 (.tup [.int 0, .int 0]) = H5 at y2 dg2 hx2 hL5 hx15
        have s5 := s4.trans y2
        walk_at "run"
        refine iteD (fun h => ?_) (fun h => ?_)
        · rw [bitXor_nat, bitAnd_nat, bitAnd_nat] at h
          have h' : clM one other i ≠ 0 := fun z => by unfold clM at z; rw [z] at h; exact absurd h (by decide)
          exact kN (lawC_none g1 g2 h') H5 (s02.trans s5)
        · rw [bitXor_nat, bitAnd_nat, bitAnd_nat] at h
          have h' : clM one other i = 0 := by unfold clM; omega
          walk_at "run"
          refine ⟨.inl ⟨rfl, _, SqL.of hL5⟩, ?_⟩
          walk_at "run"
          refine ⟨L, _, _, rfl, rfl, hL5, szt (by simp; omega), _, _, _, rfl, Same.mut s5 hL, ?_, fun j hj => ?_⟩
          · rw [upd_same, List.range_succ, List.map_append, List.map_append]
            show some (HO.lst (_ ++ [V.int (Builtin.bitOr _ _)])) = _
            rw [bitOr_nat]; rfl
          · rcases Nat.lt_or_ge j i with l | l
            · exact hcl j l
            · rw [show j = i by omega]; exact h'
      · rintro σ H3 ⟨v3, v8, v9, rfl, s3, hL3, hcl⟩
        refine ⟨_, rfl, _, _, rfl, .inl ⟨SqL.of hL3, fun q hq => ?_⟩⟩
        exact kS _ q _ (lawC_some g1 g2 hcl) ((s02.trans s3).trans (Same.new hq)) (pD_mk upd_same)
end
end My

namespace My
open PySem L2
local macro_rules | `(tactic| walk_at "ne") => `(tactic| first | assumption | exact Ne.symm (by assumption) | exact ne_of_none (by assumption) (by assumption) | exact Ne.symm (ne_of_none (by assumption) (by assumption)))
local macro_rules | `(tactic| walk_at "hp") => `(tactic| first | assumption | with_reducible exact upd_same | (with_reducible refine Eq.trans (upd_ne ?_) ?_; rotate_left; walk_at "hp"; walk_at "ne"))
local macro_rules | `(tactic| walk_at "cnd") => `(tactic| first | omega | (show (0 : Int) < _; omega) | exact ⟨by omega, by omega⟩ | exact Or.inl ⟨by omega, by omega⟩ | exact Or.inr ⟨by omega, by omega⟩ | exact ⟨by omega, by omega, by decide⟩ | exact ⟨by omega, by omega, by omega⟩)
local macro_rules | `(tactic| walk_at "at") => `(tactic| first | exact atC 0 rfl rfl | exact atC 1 rfl rfl | exact atC 2 rfl rfl | exact atC 3 rfl rfl | exact atC 4 rfl rfl | exact atC 5 rfl rfl | exact atC 6 rfl rfl | exact atC 7 rfl rfl)
local macro_rules | `(tactic| walk_at "ix") => `(tactic| first | exact ixC 0 rfl (Nat.le_of_ble_eq_true rfl) | exact ixC 1 rfl (Nat.le_of_ble_eq_true rfl) | exact ixC 2 rfl (Nat.le_of_ble_eq_true rfl) | exact ixC 3 rfl (Nat.le_of_ble_eq_true rfl) | exact ixC 4 rfl (Nat.le_of_ble_eq_true rfl) | exact ixC 5 rfl (Nat.le_of_ble_eq_true rfl))
local macro_rules | `(tactic| walk_at "st") => `(tactic| first
  | refine ⟨_, rfl, ?_⟩
  | refine ⟨_, _, rfl, rfl, (by walk_at "cnd" : (_ : Prop)), ?_⟩
  | refine ⟨_, _, rfl, rfl, ?_⟩
  | refine ⟨rfl, ?_⟩
  | refine Or.inl ⟨_, rfl, ?_⟩
  | refine ⟨_, _, _, _, rfl, rfl, by exact SqL.of (by walk_at "hp"), by walk_at "at", ?_⟩
  | refine ⟨_, _, _, _, rfl, rfl, by exact SqT.of (by walk_at "hp"), by walk_at "at", ?_⟩
  | refine ⟨_, _, _, _, rfl, rfl, by walk_at "hp", by walk_at "ix", ?_⟩
  | refine ⟨_, _, rfl, Or.inl (by exact SqL.of (by walk_at "hp")), ?_⟩
  | refine ⟨_, _, rfl, Or.inr (by exact SqT.of (by walk_at "hp")), ?_⟩)
local macro_rules | `(tactic| walk_at "so") => `(tactic| first
  | refine ⟨_, _, _, _, _, rfl, by walk_at "hp", by assumption, by assumption, rfl, ?_⟩
  | refine ⟨_, _, _, _, rfl, by walk_at "hp", by assumption, by assumption, Nat.le_of_ble_eq_true rfl, ?_⟩
  | refine ⟨_, _, _, rfl, by walk_at "hp", rfl, ?_⟩
  | walk_at "st")
local macro_rules | `(tactic| walk_at "ro") => `(tactic| repeat walk_at "so")
local macro_rules | `(tactic| walk_at "run") => `(tactic| repeat walk_at "st")

def spLMeets (K : PySem.W.Frag) : Sp := fun vs H Q _ => ∃ t p rs ws, vs = [t, p] ∧ Dt H t (fD rs) ∧ Dt H p (pD ws) ∧ ws.length = 6 ∧ Good rs ∧ ∀ H', Same H H' → Q (.bl (meetsM rs ws)) H'
def spFil2 (K : PySem.W.Frag) : Sp := fun vs H Q _ => ∃ (a t : Addr) (ev : Nat), vs = [.ref a, .int ev] ∧ ev < 4 ∧ Tape H a t ∧ ∀ v p H', Dt H' v (fD p) → Good p → Tape H' a t → Chg a H H' → Q v H'
structure GoodTo (k : Nat) (rows : List Row3) : Prop where
  up : rows.Pairwise (fun r s => r.1 < s.1)
  ok : ∀ r ∈ rows, r.1 < k ∧ 0 < r.2.1 ∧ r.2.1 < 2 ^ 32 ∧ r.2.2 &&& r.2.1 = r.2.2
  len : rows.length ≤ k
theorem GoodTo.more {k : Nat} {rows : List Row3} (h : GoodTo k rows) : GoodTo (k + 1) rows := ⟨h.up, fun r hr => ⟨Nat.lt_succ_of_lt (h.ok r hr).1, (h.ok r hr).2⟩, Nat.le_succ_of_le h.len⟩
theorem GoodTo.snoc {k : Nat} {rows : List Row3} (h : GoodTo k rows) {m v : Nat} (h1 : 0 < m) (h2 : m < 2 ^ 32) (h3 : v &&& m = v) : GoodTo (k + 1) (rows ++ [(k, m, v)]) := by
  refine ⟨List.pairwise_append.mpr ⟨h.up, List.pairwise_singleton _ _, fun a ha b hb => ?_⟩, fun r hr => ?_, by simp; exact h.len⟩
  · rw [List.mem_singleton.mp hb]; exact (h.ok a ha).1
  · rcases List.mem_append.mp hr with q | q
    · exact ⟨Nat.lt_succ_of_lt (h.ok r q).1, (h.ok r q).2⟩
    · rw [List.mem_singleton.mp q]; exact ⟨Nat.lt_succ_self _, h1, h2, h3⟩
theorem GoodTo.good {rows : List Row3} (h : GoodTo 6 rows) : Good rows := ⟨h.up, h.ok, h.len⟩
theorem near_ok : ∀ e ∈ ([0, 12, 48] : List Nat), ∀ n < 4, ∀ x < 64, (n ||| (x &&& e)) &&& (3 ||| e) = n ||| (x &&& e) := by decide +kernel
section
variable {P : Program} {w : World} {K : PySem.W.Frag} {mg : Str → Option Value} {base : Heap} {C_Net C_NotValid : Addr}{A_EMPTY : Addr}
abbrev s_law_meets : Stmt := topS 40
abbrev ns_law_meets : List Str := ["rows", "packet", "row"]
theorem sc_law_meets : FnScope ns_law_meets ["rows", "packet"] (defScope s_law_meets) := ⟨rfl, rfl, rfl, by decide +kernel, rfl, by decide +kernel, by decide +kernel⟩

theorem ok_law_meets {f : Addr} {fd : FuncData} (F : Fun K "_law_meets" "_law_meets" s_law_meets f fd) (T : Txt K mg C_Net C_NotValid A_EMPTY) : FnOk P w K mg base CX0 1 f fd ["rows", "packet"] (spLMeets K) := by
  refine F.ok sc_law_meets (fun vs H Q E h => ?_) (fun cdv A outer s H vs Q E hr h => ?_)
  · obtain ⟨t, p, rs, ws, rfl, _⟩ := h
    rfl
  · obtain ⟨t, p, rs, ws, rfl, ht, hp, wl, g, k⟩ := h
    obtain ⟨a, xs, rfl, ha, hl, hat⟩ := fD_open ht
    obtain ⟨pa, rfl, hpa⟩ := pD_open hp
    refine ⟨_, (pss_one (ps_ret (pe_cmpR op_eq (pe_callB (kLen K) (by rfl) T.b_len (by decide +kernel) (pa_cons (pe_lc (own := [("row", 2)]) (by rfl) sc_law_meets.nd (kpiT K (pv 0)) (blkOk_by (N := ns_law_meets) (sc := defScope s_law_meets) (by decide +kernel)) (fun _ _ _ _ _ => (pg_name (i := 2) sc_law_meets.nd rfl (Or.inl rfl))) (fun _ _ _ _ _ => (pts_one (pt_cmpR op_ne (pe_op op_and (pe_ix (kIxT K) (pv 1) (pe_ix (kIxT K) (pv 2) pe_int (fun _ _ => rfl)) (fun _ _ => rfl)) (pe_ix (kIxT K) (pv 2) pe_int (fun _ _ => rfl))) (pe_ix (kIxT K) (pv 2) pe_int (fun _ _ => rfl)) (nomark _)))) (fun _ _ _ _ _ => (pv 2))) pa_nil)) pe_int (nomark _)))), ?_⟩
    refine ⟨_, rfl, _, rfl, ⟨_, SqT.of ha⟩, fun D hD => lc_tup (xs := xs) (fun i H' => Same H H' ∧ ∃ ys, H' D = some (.lst ys) ∧ ys.length = ((rs.take i).filter fun r => !decide (ws.getD r.1 0 &&& r.2.1 = r.2.2)).length) ?_ ?_ ?_ ?_⟩
    · exact ⟨Same.new hD, [], upd_same, rfl⟩
    · rintro i H' _ ⟨s, _⟩
      exact SqT.of (s _ _ ha)
    · rintro i x H1 hi ⟨s1, ys, hys, yl⟩
      obtain ⟨r, tr, hr1, rfl, htr⟩ := hat i x hi
      have htr1 := s1 _ _ htr
      have hpa1 := s1 _ _ hpa
      have r6 := (g.2.1 r (List.mem_of_getElem? hr1)).1
      refine ⟨rfl, ?_⟩
      walk_at "run"
      refine ⟨_, _, _, _, rfl, rfl, SqT.of hpa1, atC r.1 rfl (pk_get (by omega)), ?_⟩
      walk_at "run"
      have e1 : (!decide (V.int (Builtin.bitAnd ((ws.getD r.1 0 : Nat) : Int) ((r.2.1 : Nat) : Int)) = V.int ((r.2.2 : Nat) : Int))) = !decide (ws.getD r.1 0 &&& r.2.1 = r.2.2) := by rw [bitAnd_nat, intV]
      have g6 := g.2.2
      have ylb : ys.length ≤ 6 := by
        have l2 := List.length_filter_le (fun r : Row3 => !decide (ws.getD r.1 0 &&& r.2.1 = r.2.2)) (rs.take i)
        have l3 := List.length_take_le' i rs
        omega
      refine iteB (fun e => ?_) (fun e => ?_)
      · refine ⟨_, rfl, _, hys, szt (by omega), Same.mut s1 hD, _, upd_same, ?_⟩
        rw [← take_snoc hr1, filter_snoc, if_pos (e1.symm.trans e), List.length_append, List.length_append, yl]; rfl
      · refine ⟨s1, ys, hys, ?_⟩
        rw [← take_snoc hr1, filter_snoc, if_neg (by rw [e1.symm.trans e]; decide), List.append_nil]
        exact yl
    · rintro H1 ⟨s1, ys, hys, yl⟩
      rw [hl, List.take_length] at yl
      refine ⟨_, _, rfl, .inl (SqL.of hys), rfl, ?_⟩
      have e1 : decide (V.int (ys.length : Int) = V.int 0) = meetsM rs ws := by
        rw [show (0 : Int) = ((0 : Nat) : Int) from rfl, intV, yl]
        unfold meetsM
        rw [Bool.eq_iff_iff, decide_eq_true_iff, List.length_eq_zero_iff, List.filter_eq_nil_iff, List.all_eq_true]
        simp
      show Q (.bl (decide (V.int (ys.length : Int) = V.int 0))) H1
      rw [e1]
      exact k H1 s1
abbrev s_law_filter : Stmt := topS 41
abbrev ns_law_filter : List Str := ["draws", "environment", "rows", "near", "extra", "index", "mask"]
theorem sc_law_filter : FnScope ns_law_filter ["draws", "environment"] (defScope s_law_filter) := ⟨rfl, rfl, rfl, by decide +kernel, rfl, by decide +kernel, by decide +kernel⟩

theorem ok_law_filter {f : Addr} {fd : FuncData} (F : Fun K "_law_filter" "_law_filter" s_law_filter f fd) (T : Txt K mg C_Net C_NotValid A_EMPTY) (D_law_draw : Dfn P w K mg base CX0 1 "_law_draw" ["draws", "many"] spNext) : FnOk P w K mg base CX0 2 f fd ["draws", "environment"] (spFil2 K) := by
  refine F.ok sc_law_filter (fun vs H Q E h => ?_) (fun cdv A outer s H vs Q E hr h => ?_)
  · obtain ⟨a, t, ev, rfl, _⟩ := h
    rfl
  · obtain ⟨a, t, ev, rfl, e4, t0, k⟩ := h
    refine ⟨_, (pss_cons (ps_set (i := 2) sc_law_filter.nd rfl (Or.inl rfl) (pe_lst pa_nil))
  (pss_cons (ps_set (i := 3) sc_law_filter.nd rfl (Or.inl rfl) (pe_ix (kIxL K) (pe_lst (pa_cons (pv 1) (pa_cons (pv 1) (pa_cons (pv 1) (pa_cons (pv 1) (pa_cons (pv 1) (pa_cons (pe_dcall D_law_draw (hr.mono (by decide)) (by rfl) pass0 (pa_cons (pv 0) (pa_cons pe_int pa_nil))) pa_nil))))))) (pe_dcall D_law_draw (hr.mono (by decide)) (by rfl) pass0 (pa_cons (pv 0) (pa_cons pe_int pa_nil))) (fun _ _ => rfl)))
  (C8.pss_cut (ps_if (pt_cmpR op_gt (pe_dcall D_law_draw (hr.mono (by decide)) (by rfl) pass0 (pa_cons (pv 0) (pa_cons pe_int pa_nil))) pe_int (nomark _)) (pss_cons (ps_set (i := 4) sc_law_filter.nd rfl (Or.inl rfl) (pe_ix (kIxL K) (pe_lst (pa_cons pe_int (pa_cons pe_int (pa_cons pe_int (pa_cons pe_int pa_nil))))) (pe_dcall D_law_draw (hr.mono (by decide)) (by rfl) pass0 (pa_cons (pv 0) (pa_cons pe_int pa_nil))) (fun _ _ => rfl)))
  (pss_one (ps_expr (kBM K PySem.F.plainAttrs_list PySem.F.slot_list_append PySem.F.type_list_append mt_append (pv 2) (pa_cons (pe_tup (pa_cons pe_int (pa_cons (pe_op op_or pe_int (pv 4)) (pa_cons (pe_op op_or (pv 3) (pe_op op_and (pe_dcall D_law_draw (hr.mono (by decide)) (by rfl) pass0 (pa_cons (pv 0) (pa_cons pe_int pa_nil))) (pv 4))) pa_nil)))) pa_nil))))) pss_nil)
  (pss_cons (ps_for PassesOwn.never (by rfl) (pi_range2 (by rfl) T.b_range (pa_cons pe_int (pa_cons pe_int pa_nil))) (pg_name (i := 5) sc_law_filter.nd rfl (Or.inl rfl)) (pss_one (ps_if (pt_cmpR op_eq (pe_dcall D_law_draw (hr.mono (by decide)) (by rfl) pass0 (pa_cons (pv 0) (pa_cons pe_int pa_nil))) pe_int (nomark _)) (pss_cons (ps_set (i := 6) sc_law_filter.nd rfl (Or.inl rfl) (pe_ix (kIxL K) (pe_lst (pa_cons pe_int (pa_cons pe_int (pa_cons pe_int (pa_cons pe_int pa_nil))))) (pe_dcall D_law_draw (hr.mono (by decide)) (by rfl) pass0 (pa_cons (pv 0) (pa_cons pe_int pa_nil))) (fun _ _ => rfl)))
  (pss_one (ps_expr (kBM K PySem.F.plainAttrs_list PySem.F.slot_list_append PySem.F.type_list_append mt_append (pv 2) (pa_cons (pe_tup (pa_cons (pv 5) (pa_cons (pv 6) (pa_cons (pe_op op_and (pe_dcall D_law_draw (hr.mono (by decide)) (by rfl) pass0 (pa_cons (pv 0) (pa_cons pe_int pa_nil))) (pv 6)) pa_nil)))) pa_nil))))) pss_nil)))
  (pss_one (ps_ret (pe_callTy (kTupOf K) (by rfl) T.b_tuple (by decide +kernel) (pa_cons (pv 2) pa_nil)))))))), ?_⟩
    refine ⟨szl rfl, fun R hR => ?_⟩
    have nRa := t0.at hR
    have nRt := t0.at2 hR
    have y0 := Same.new (o := .lst []) hR
    have t1 := t0.same y0
    have hR1 : (upd H R (.lst [])) R = some (.lst []) := upd_same
    have c1 : Chg a H (upd H R (.lst [])) := Same.chg y0
    generalize upd H R (.lst []) = H1 at y0 t1 hR1 c1
    refine ⟨_, rfl, _, rfl, _, rfl, _, rfl, _, rfl, _, rfl, a, t, 4, rfl, by decide, by decide, t1, fun n H2 n0 n4 t2 c2 => ?_⟩
    refine ⟨szl rfl, fun l hl => ?_⟩
    have y2 := Same.new (o := .lst [.int (ev : Int), .int (ev : Int), .int (ev : Int), .int (ev : Int), .int (ev : Int), .int n]) hl
    have hl2 : (upd H2 l (.lst [.int (ev : Int), .int (ev : Int), .int (ev : Int), .int (ev : Int), .int (ev : Int), .int n])) l = some (.lst [.int (ev : Int), .int (ev : Int), .int (ev : Int), .int (ev : Int), .int (ev : Int), .int n]) := upd_same
    have nl := t2.at hl
    have t3 := t2.same y2
    generalize upd H2 l (.lst [.int (ev : Int), .int (ev : Int), .int (ev : Int), .int (ev : Int), .int (ev : Int), .int n]) = H3 at y2 hl2 t3
    refine ⟨_, rfl, a, t, 6, rfl, by decide, by decide, t3, fun m H4 m0 m6 t4 c4 => ?_⟩
    obtain ⟨x, x4, hx⟩ : ∃ x : Nat, x < 4 ∧ ([.int (ev : Int), .int (ev : Int), .int (ev : Int), .int (ev : Int), .int (ev : Int), .int n] : List V)[m.toNat]? = some (.int x) := by
      have : m = 0 ∨ m = 1 ∨ m = 2 ∨ m = 3 ∨ m = 4 ∨ m = 5 := by omega
      rcases this with rfl | rfl | rfl | rfl | rfl | rfl
      · exact ⟨ev, e4, rfl⟩
      · exact ⟨ev, e4, rfl⟩
      · exact ⟨ev, e4, rfl⟩
      · exact ⟨ev, e4, rfl⟩
      · exact ⟨ev, e4, rfl⟩
      · exact ⟨n.toNat, by omega, by rw [Int.toNat_of_nonneg n0]; rfl⟩
    have hl4 := c4 l _ nl hl2
    have c04 : Chg a H H4 := ((c1.trans c2).trans (Same.chg y2)).trans c4
    have hR4 : H4 R = some (.lst []) := c4 R _ nRa (y2 _ _ (c2 R _ nRa hR1))
    refine ⟨_, _, _, _, rfl, rfl, SqL.of hl4, atC m.toNat (by omega) hx, ?_⟩
    refine ⟨fun σ H' => ∃ (v4 : Option V) (xs : List V) (rows : List Row3), σ = [some (.ref a), some (.int (ev : Int)), some (.ref R), some (.int (x : Int)), v4, none, none] ∧ Tape H' a t ∧ Chg a H H' ∧ H' R = some (.lst xs) ∧ DtAll H' xs (rows.map rowD) ∧ GoodTo 1 rows, ?_, ?_⟩
    · refine ⟨_, rfl, a, t, 12, rfl, by decide, by decide, t4, fun z H5 z0 z12 t5 c5 => ?_⟩
      have hR5 := c5 R _ nRa hR4
      have c05 := c04.trans c5
      refine ⟨_, _, rfl, rfl, _, rfl, ?_⟩
      refine iteD (fun _ => ?_) (fun _ => ⟨_, [], [], rfl, t5, c05, hR5, .nil, .nil, fun r hr => (by cases hr), by decide⟩)
      refine ⟨szl rfl, fun l2 hl2 => ?_⟩
      have y5 := Same.new (o := .lst [.int 0, .int 0, .int 12, .int 48]) hl2
      have hl6 : (upd H5 l2 (.lst [.int 0, .int 0, .int 12, .int 48])) l2 = some (.lst [.int 0, .int 0, .int 12, .int 48]) := upd_same
      have nl2 := t5.at hl2
      have t6 := t5.same y5
      generalize upd H5 l2 (.lst [.int 0, .int 0, .int 12, .int 48]) = H6 at y5 hl6 t6
      refine ⟨_, rfl, a, t, 4, rfl, by decide, by decide, t6, fun m H7 m0 m4 t7 c7 => ?_⟩
      obtain ⟨e, he, hx2⟩ : ∃ e : Nat, e ∈ ([0, 12, 48] : List Nat) ∧ ([.int 0, .int 0, .int 12, .int 48] : List V)[m.toNat]? = some (.int (e : Int)) := by
        have : m = 0 ∨ m = 1 ∨ m = 2 ∨ m = 3 := by omega
        rcases this with rfl | rfl | rfl | rfl
        · exact ⟨0, by decide, rfl⟩
        · exact ⟨0, by decide, rfl⟩
        · exact ⟨12, by decide, rfl⟩
        · exact ⟨48, by decide, rfl⟩
      have hl7 := c7 l2 _ nl2 hl6
      have hR7 := c7 R _ nRa (y5 _ _ hR5)
      have c07 := (c05.trans (Same.chg y5)).trans c7
      refine ⟨_, _, _, _, rfl, rfl, SqL.of hl7, atC m.toNat (by omega) hx2, ?_⟩
      refine ⟨_, rfl, .inl ⟨rfl, _, SqL.of hR7⟩, _, rfl, _, _, rfl, rfl, _, rfl, _, rfl, a, t, 64, rfl, by decide, by decide, t7, fun y H8 y0' y64 t8 c8 => ?_⟩
      obtain ⟨yn, rfl⟩ := Int.eq_ofNat_of_zero_le y0'
      have hR8 := c8 R _ nRa hR7
      refine ⟨_, rfl, _, _, rfl, rfl, _, _, rfl, rfl, szl rfl, fun q hq => ?_⟩
      have e1 : Builtin.bitOr 3 (e : Int) = ((3 ||| e : Nat) : Int) := bitOr_nat 3 e
      have e2 : Builtin.bitOr (x : Int) (Builtin.bitAnd (yn : Int) (e : Int)) = ((x ||| (yn &&& e) : Nat) : Int) := by rw [bitAnd_nat, bitOr_nat]
      have s9 := Same.new (o := .tup [.int 0, .int (Builtin.bitOr 3 (e : Int)), .int (Builtin.bitOr (x : Int) (Builtin.bitAnd (yn : Int) (e : Int)))]) hq
      have hq9 : (upd H8 q (.tup [.int 0, .int (Builtin.bitOr 3 (e : Int)), .int (Builtin.bitOr (x : Int) (Builtin.bitAnd (yn : Int) (e : Int)))])) q = some (.tup [.int 0, .int ((3 ||| e : Nat) : Int), .int ((x ||| (yn &&& e) : Nat) : Int)]) := by rw [upd_same, e1, e2]
      have hR9 := s9 _ _ hR8
      refine ⟨R, _, _, rfl, rfl, hR9, szt (by decide), _, [.ref q], [(0, 3 ||| e, x ||| (yn &&& e))], rfl, (t8.same s9).upd nRa nRt, Chg.mut ((c07.trans c8).trans (Same.chg s9)) hR, upd_same, ?_, ?_⟩
      · have ts : TS _ (upd (upd H8 q (.tup [.int 0, .int (Builtin.bitOr 3 (e : Int)), .int (Builtin.bitOr (x : Int) (Builtin.bitAnd (yn : Int) (e : Int)))])) R (.lst ([] ++ [.ref q]))) := Chg.ts Chg.upd hR9
        exact .cons (.tup (ts _ _ hq9) (.cons (.int _) (.cons (.int _) (.cons (.int _) .nil)))) .nil
      · have hm : (3 ||| e) < 2 ^ 32 ∧ 0 < (3 ||| e) := by
          have : ∀ e ∈ ([0, 12, 48] : List Nat), (3 ||| e) < 2 ^ 32 ∧ 0 < (3 ||| e) := by decide
          exact this e he
        exact GoodTo.snoc (k := 0) (rows := []) ⟨.nil, fun r hr => (by cases hr), by decide⟩ hm.2 hm.1 (near_ok e he x x4 yn (by omega))
    · rintro σ H5 ⟨v4, xs, rows, rfl, t5, c5, hR5, hdt, gg⟩
      refine ⟨_, _, rfl, ⟨by decide, by decide, by decide, by decide⟩, for_range (fun i σ H' => ∃ (v5 v6 : Option V) (xs : List V) (rows : List Row3), σ = [some (.ref a), some (.int (ev : Int)), some (.ref R), some (.int (x : Int)), v4, v5, v6] ∧ Tape H' a t ∧ Chg a H H' ∧ H' R = some (.lst xs) ∧ DtAll H' xs (rows.map rowD) ∧ GoodTo (1 + i) rows) ?_ ?_ ?_⟩
      · exact ⟨_, _, xs, rows, rfl, t5, c5, hR5, hdt, gg⟩
      · rintro i σ H6 hi ⟨v5, v6, xs, rows, rfl, t6, c6, hR6, hdt6, gg⟩
        have hi5 : i < 5 := hi
        have xl : xs.length ≤ 6 := by rw [hdt6.len, List.length_map]; have := gg.len; omega
        refine ⟨_, rfl, a, t, 4, rfl, by decide, by decide, t6, fun z H7 z0 z4 t7 c7 => ?_⟩
        have hR7 := c7 R _ nRa hR6
        have c07 := c6.trans c7
        refine ⟨rfl, _, rfl, ?_⟩
        refine iteD (fun _ => ?_) (fun _ => ⟨_, _, xs, rows, rfl, t7, c07, hR7, hdt6.ts (t6.ts c7) (rows_tonly _), gg.more⟩)
        refine ⟨szl rfl, fun l2 hl2 => ?_⟩
        have y7 := Same.new (o := .lst [.int 1, .int 3, .int 15, .int 4294967295]) hl2
        have hl8 : (upd H7 l2 (.lst [.int 1, .int 3, .int 15, .int 4294967295])) l2 = some (.lst [.int 1, .int 3, .int 15, .int 4294967295]) := upd_same
        have nl2 := t7.at hl2
        have t8 := t7.same y7
        generalize upd H7 l2 (.lst [.int 1, .int 3, .int 15, .int 4294967295]) = H8 at y7 hl8 t8
        refine ⟨_, rfl, a, t, 4, rfl, by decide, by decide, t8, fun m H9 m0 m4 t9 c9 => ?_⟩
        obtain ⟨e, he, he2, hx2⟩ : ∃ e : Nat, 0 < e ∧ e < 2 ^ 32 ∧ ([.int 1, .int 3, .int 15, .int 4294967295] : List V)[m.toNat]? = some (.int (e : Int)) := by
          have : m = 0 ∨ m = 1 ∨ m = 2 ∨ m = 3 := by omega
          rcases this with rfl | rfl | rfl | rfl
          · exact ⟨1, by decide, by decide, rfl⟩
          · exact ⟨3, by decide, by decide, rfl⟩
          · exact ⟨15, by decide, by decide, rfl⟩
          · exact ⟨4294967295, by decide, by decide, rfl⟩
        have hl9 := c9 l2 _ nl2 hl8
        have hR9 := c9 R _ nRa (y7 _ _ hR7)
        have c09 := (c07.trans (Same.chg y7)).trans c9
        refine ⟨_, _, _, _, rfl, rfl, SqL.of hl9, atC m.toNat (by omega) hx2, ?_⟩
        refine ⟨_, rfl, .inl ⟨rfl, _, SqL.of hR9⟩, _, rfl, _, rfl, _, rfl, a, t, 3, rfl, by decide, by decide, t9, fun y H10 y0' y3 t10 c10 => ?_⟩
        obtain ⟨yn, rfl⟩ := Int.eq_ofNat_of_zero_le y0'
        have hR10 := c10 R _ nRa hR9
        refine ⟨_, rfl, _, _, rfl, rfl, szl rfl, fun q hq => ?_⟩
        have e2 : Builtin.bitAnd (yn : Int) (e : Int) = ((yn &&& e : Nat) : Int) := bitAnd_nat _ _
        have e3 : (1 : Int) + (i : Int) = ((1 + i : Nat) : Int) := by omega
        have s11 := Same.new (o := .tup [.int (1 + (i : Int)), .int (e : Int), .int (Builtin.bitAnd (yn : Int) (e : Int))]) hq
        have hq11 : (upd H10 q (.tup [.int (1 + (i : Int)), .int (e : Int), .int (Builtin.bitAnd (yn : Int) (e : Int))])) q = some (.tup [.int ((1 + i : Nat) : Int), .int (e : Int), .int ((yn &&& e : Nat) : Int)]) := by rw [upd_same, e2, e3]
        have hR11 := s11 _ _ hR10
        have ts0 : TS H6 (upd H10 q (.tup [.int (1 + (i : Int)), .int (e : Int), .int (Builtin.bitAnd (yn : Int) (e : Int))])) := ((((t6.ts c7).trans (Same.ts y7)).trans (t8.ts c9)).trans (t9.ts c10)).trans (Same.ts s11)
        generalize upd H10 q (.tup [.int (1 + (i : Int)), .int (e : Int), .int (Builtin.bitAnd (yn : Int) (e : Int))]) = H11 at s11 hq11 hR11 ts0
        have ts : TS H11 (upd H11 R (.lst (xs ++ [.ref q]))) := Chg.ts Chg.upd hR11
        refine ⟨R, _, _, rfl, rfl, hR11, szt (by omega), _, _, xs ++ [.ref q], rows ++ [(1 + i, e, yn &&& e)], rfl, (t10.same s11).upd nRa nRt, Chg.mut ((c09.trans c10).trans (Same.chg s11)) hR, upd_same, ?_, gg.snoc he he2 (by rw [Nat.and_assoc, Nat.and_self])⟩
        rw [List.map_append]
        exact DtAll.append (hdt6.ts (ts0.trans ts) (rows_tonly _)) (.cons (.tup (ts _ _ hq11) (.cons (.int _) (.cons (.int _) (.cons (.int _) .nil)))) .nil)
      · rintro σ H6 ⟨v5, v6, xs, rows, rfl, t6, c6, hR6, hdt6, gg⟩
        refine ⟨_, rfl, _, _, rfl, .inl ⟨SqL.of hR6, fun q hq => ?_⟩⟩
        exact k _ rows _ (Dt.new hdt6 hq) gg.good (t6.same (Same.new hq)) (c6.trans (Same.chg (Same.new hq)))
end
end My

namespace My
open PySem L2
local macro_rules | `(tactic| walk_at "ne") => `(tactic| first | assumption | exact Ne.symm (by assumption) | exact ne_of_none (by assumption) (by assumption) | exact Ne.symm (ne_of_none (by assumption) (by assumption)))
local macro_rules | `(tactic| walk_at "hp") => `(tactic| first | assumption | with_reducible exact upd_same | (with_reducible refine Eq.trans (upd_ne ?_) ?_; rotate_left; walk_at "hp"; walk_at "ne"))
local macro_rules | `(tactic| walk_at "cnd") => `(tactic| first | omega | (show (0 : Int) < _; omega) | exact ⟨by omega, by omega⟩ | exact Or.inl ⟨by omega, by omega⟩ | exact Or.inr ⟨by omega, by omega⟩ | exact ⟨by omega, by omega, by decide⟩ | exact ⟨by omega, by omega, by omega⟩)
local macro_rules | `(tactic| walk_at "at") => `(tactic| first | exact atC 0 rfl rfl | exact atC 1 rfl rfl | exact atC 2 rfl rfl | exact atC 3 rfl rfl | exact atC 4 rfl rfl | exact atC 5 rfl rfl | exact atC 6 rfl rfl | exact atC 7 rfl rfl)
local macro_rules | `(tactic| walk_at "ix") => `(tactic| first | exact ixC 0 rfl (Nat.le_of_ble_eq_true rfl) | exact ixC 1 rfl (Nat.le_of_ble_eq_true rfl) | exact ixC 2 rfl (Nat.le_of_ble_eq_true rfl) | exact ixC 3 rfl (Nat.le_of_ble_eq_true rfl) | exact ixC 4 rfl (Nat.le_of_ble_eq_true rfl) | exact ixC 5 rfl (Nat.le_of_ble_eq_true rfl))
local macro_rules | `(tactic| walk_at "st") => `(tactic| first
  | refine ⟨_, rfl, ?_⟩
  | refine ⟨_, _, rfl, rfl, (by walk_at "cnd" : (_ : Prop)), ?_⟩
  | refine ⟨_, _, rfl, rfl, ?_⟩
  | refine ⟨rfl, ?_⟩
  | refine Or.inl ⟨_, rfl, ?_⟩
  | refine ⟨_, _, _, _, rfl, rfl, by exact SqL.of (by walk_at "hp"), by walk_at "at", ?_⟩
  | refine ⟨_, _, _, _, rfl, rfl, by exact SqT.of (by walk_at "hp"), by walk_at "at", ?_⟩
  | refine ⟨_, _, _, _, rfl, rfl, by walk_at "hp", by walk_at "ix", ?_⟩
  | refine ⟨_, _, rfl, Or.inl (by exact SqL.of (by walk_at "hp")), ?_⟩
  | refine ⟨_, _, rfl, Or.inr (by exact SqT.of (by walk_at "hp")), ?_⟩)
local macro_rules | `(tactic| walk_at "so") => `(tactic| first
  | refine ⟨_, _, _, _, _, rfl, by walk_at "hp", by assumption, by assumption, rfl, ?_⟩
  | refine ⟨_, _, _, _, rfl, by walk_at "hp", by assumption, by assumption, Nat.le_of_ble_eq_true rfl, ?_⟩
  | refine ⟨_, _, _, rfl, by walk_at "hp", rfl, ?_⟩
  | walk_at "st")
local macro_rules | `(tactic| walk_at "ro") => `(tactic| repeat walk_at "so")
local macro_rules | `(tactic| walk_at "run") => `(tactic| repeat walk_at "st")

/-! ### the law's own rows -/
theorem Al.impM {Rl Rl' : Ent → V → Prop} {kvs : List (L2.Key × V)} {E : List Ent} (x : Al Rl kvs E) (h : ∀ e ∈ E, ∀ v, Rl e v → Rl' e v) : Al Rl' kvs E := by
  induction x with
  | nil => exact .nil
  | @cons e v kvs E a b ih => exact .cons (h e List.mem_cons_self _ a) (ih fun e he => h e (List.mem_cons_of_mem _ he))
structure LA where
  (tp ts W Rg Fd Rd : Addr)
abbrev wK (L : LA) (made lost : Int) : List (L2.Key × V) := [(Sum.inr "regions", .ref L.Rg), (Sum.inr "filters", .ref L.Fd), (Sum.inr "rings", .ref L.Rd), (Sum.inr "made", .int made), (Sum.inr "lost", .int lost)]
theorem k_regions_filters : ¬ (Sum.inr ("regions" : Str) : L2.Key) = (Sum.inr ("filters" : Str) : L2.Key) := by decide +kernel
theorem k_regions_rings : ¬ (Sum.inr ("regions" : Str) : L2.Key) = (Sum.inr ("rings" : Str) : L2.Key) := by decide +kernel
theorem k_regions_made : ¬ (Sum.inr ("regions" : Str) : L2.Key) = (Sum.inr ("made" : Str) : L2.Key) := by decide +kernel
theorem k_regions_lost : ¬ (Sum.inr ("regions" : Str) : L2.Key) = (Sum.inr ("lost" : Str) : L2.Key) := by decide +kernel
theorem k_filters_regions : ¬ (Sum.inr ("filters" : Str) : L2.Key) = (Sum.inr ("regions" : Str) : L2.Key) := by decide +kernel
theorem k_filters_rings : ¬ (Sum.inr ("filters" : Str) : L2.Key) = (Sum.inr ("rings" : Str) : L2.Key) := by decide +kernel
theorem k_filters_made : ¬ (Sum.inr ("filters" : Str) : L2.Key) = (Sum.inr ("made" : Str) : L2.Key) := by decide +kernel
theorem k_filters_lost : ¬ (Sum.inr ("filters" : Str) : L2.Key) = (Sum.inr ("lost" : Str) : L2.Key) := by decide +kernel
theorem k_rings_regions : ¬ (Sum.inr ("rings" : Str) : L2.Key) = (Sum.inr ("regions" : Str) : L2.Key) := by decide +kernel
theorem k_rings_filters : ¬ (Sum.inr ("rings" : Str) : L2.Key) = (Sum.inr ("filters" : Str) : L2.Key) := by decide +kernel
theorem k_rings_made : ¬ (Sum.inr ("rings" : Str) : L2.Key) = (Sum.inr ("made" : Str) : L2.Key) := by decide +kernel
theorem k_rings_lost : ¬ (Sum.inr ("rings" : Str) : L2.Key) = (Sum.inr ("lost" : Str) : L2.Key) := by decide +kernel
theorem k_made_regions : ¬ (Sum.inr ("made" : Str) : L2.Key) = (Sum.inr ("regions" : Str) : L2.Key) := by decide +kernel
theorem k_made_filters : ¬ (Sum.inr ("made" : Str) : L2.Key) = (Sum.inr ("filters" : Str) : L2.Key) := by decide +kernel
theorem k_made_rings : ¬ (Sum.inr ("made" : Str) : L2.Key) = (Sum.inr ("rings" : Str) : L2.Key) := by decide +kernel
theorem k_made_lost : ¬ (Sum.inr ("made" : Str) : L2.Key) = (Sum.inr ("lost" : Str) : L2.Key) := by decide +kernel
theorem k_lost_regions : ¬ (Sum.inr ("lost" : Str) : L2.Key) = (Sum.inr ("regions" : Str) : L2.Key) := by decide +kernel
theorem k_lost_filters : ¬ (Sum.inr ("lost" : Str) : L2.Key) = (Sum.inr ("filters" : Str) : L2.Key) := by decide +kernel
theorem k_lost_rings : ¬ (Sum.inr ("lost" : Str) : L2.Key) = (Sum.inr ("rings" : Str) : L2.Key) := by decide +kernel
theorem k_lost_made : ¬ (Sum.inr ("lost" : Str) : L2.Key) = (Sum.inr ("made" : Str) : L2.Key) := by decide +kernel
section
variable {H : Hp} {L : LA} {made lost : Int}
theorem w_regions (h : H L.W = some (.dK (wK L made lost))) : DGet H L.W (.str "regions") (some (.ref L.Rg)) := by
  have := DGet.k (k := (Sum.inr "regions" : L2.Key)) h
  rw [valV_pos rfl] at this
  exact this
theorem w_filters (h : H L.W = some (.dK (wK L made lost))) : DGet H L.W (.str "filters") (some (.ref L.Fd)) := by
  have := DGet.k (k := (Sum.inr "filters" : L2.Key)) h
  rw [valV_neg k_regions_filters, valV_pos rfl] at this
  exact this
theorem w_rings (h : H L.W = some (.dK (wK L made lost))) : DGet H L.W (.str "rings") (some (.ref L.Rd)) := by
  have := DGet.k (k := (Sum.inr "rings" : L2.Key)) h
  rw [valV_neg k_regions_rings, valV_neg k_filters_rings, valV_pos rfl] at this
  exact this
theorem w_made (h : H L.W = some (.dK (wK L made lost))) : DGet H L.W (.str "made") (some (.int made)) := by
  have := DGet.k (k := (Sum.inr "made" : L2.Key)) h
  rw [valV_neg k_regions_made, valV_neg k_filters_made, valV_neg k_rings_made, valV_pos rfl] at this
  exact this
theorem w_lost (h : H L.W = some (.dK (wK L made lost))) : DGet H L.W (.str "lost") (some (.int lost)) := by
  have := DGet.k (k := (Sum.inr "lost" : L2.Key)) h
  rw [valV_neg k_regions_lost, valV_neg k_filters_lost, valV_neg k_rings_lost, valV_neg k_made_lost, valV_pos rfl] at this
  exact this
theorem p_made (m : Int) : putK (wK L made lost) (Sum.inr "made" : L2.Key) (.int m) = wK L m lost := by
  unfold putK
  rw [if_pos (by simp)]
  simp only [List.map_cons, List.map_nil, k_regions_made, k_filters_made, k_rings_made, k_lost_made, if_true, if_false]
theorem p_lost (m : Int) : putK (wK L made lost) (Sum.inr "lost" : L2.Key) (.int m) = wK L made m := by
  unfold putK
  rw [if_pos (by simp)]
  simp only [List.map_cons, List.map_nil, k_regions_lost, k_filters_lost, k_rings_lost, k_made_lost, if_true, if_false]
end
def lrR (H : Hp) (ρ : Addr → Nat) (e : Ent) (v : V) : Prop := ∃ a ps, v = .ref a ∧ ρ a = 13 ∧ H a = some (.lst ps) ∧ DtAll H ps (e.rg.map pD)
structure Lw (H : Hp) (ρ : Addr → Nat) (L : LA) (R : Regs) (E : List Ent) (made lost : Int) : Prop where
  tape : Tape H L.tp L.ts
  w : H L.W = some (.dK (wK L made lost))
  rg : ∃ vs, H L.Rg = some (.lst vs) ∧ RegsV H vs R
  fs : ∃ kvs, H L.Fd = some (.dK kvs) ∧ Al (enR H) kvs E
  ri : ∃ kvs, H L.Rd = some (.dK kvs) ∧ Al (lrR H ρ) kvs E
  ltp : ρ L.tp = 6
  lts : ρ L.ts = 7
  lRg : ρ L.Rg = 8
  lW : ρ L.W = 9
  lFd : ρ L.Fd = 11
  lRd : ρ L.Rd = 15
theorem lrR.keep {H H' : Hp} {ρ ρ' : Addr → Nat} {e : Ent} {v : V} (h : lrR H ρ e v) (k : ∀ b o, H b = some o → ρ b = 13 → H' b = some o) (s : TS H H') (r : ∀ b o, H b = some o → ρ' b = ρ b) : lrR H' ρ' e v := by
  obtain ⟨a, ps, h1, h2, h3, h4⟩ := h
  exact ⟨a, ps, h1, (r _ _ h3).trans h2, k _ _ h3 h2, h4.ts s (tonlyPs _)⟩
def lawL (k : Nat) : Prop := (6 ≤ k ∧ k ≤ 9) ∨ (11 ≤ k ∧ k % 2 = 1)
theorem lawL_not {k : Nat} (h : lawL k) : ¬ netL k := by unfold lawL netL at *; omega
section
variable {K : PySem.W.Frag} {C : Addr} {H H' : Hp} {ρ ρ' : Addr → Nat} {L : LA} {A : NA} {R : Regs} {E E2 : List Ent} {made last lost : Int} {sent : List (List Nat)} {N : Nat} {y : V}
theorem Lw.keepT (h : Lw H ρ L R E made lost) (t : Tape H' L.tp L.ts) (k : ∀ b o, H b = some o → lawL (ρ b) → ρ b ≠ 6 → ρ b ≠ 7 → H' b = some o) (s : TS H H') (r : ∀ b o, H b = some o → ρ' b = ρ b) : Lw H' ρ' L R E made lost := by
  obtain ⟨rv, r1, r2⟩ := h.rg
  obtain ⟨fk, f1, f2⟩ := h.fs
  obtain ⟨ik, i1, i2⟩ := h.ri
  obtain ⟨o1, o2, a1, a2⟩ := h.tape.al
  have kk : ∀ b o n, H b = some o → ρ b = n → lawL n → n ≠ 6 → n ≠ 7 → H' b = some o := fun b o n e1 e2 h1 h2 h3 => k b o e1 (by rw [e2]; exact h1) (by rw [e2]; exact h2) (by rw [e2]; exact h3)
  exact ⟨t, kk _ _ _ h.w h.lW (by unfold lawL; omega) (by decide) (by decide), ⟨rv, kk _ _ _ r1 h.lRg (by unfold lawL; omega) (by decide) (by decide), r2.ts s⟩, ⟨fk, kk _ _ _ f1 h.lFd (by unfold lawL; omega) (by decide) (by decide), f2.imp fun e v q => q.ts s (entD_tonly e)⟩,
    ⟨ik, kk _ _ _ i1 h.lRd (by unfold lawL; omega) (by decide) (by decide), i2.imp fun e v q => q.keep (fun b o e' l => kk b o _ e' l (by unfold lawL; omega) (by decide) (by decide)) s r⟩,
    (r _ _ a1).trans h.ltp, (r _ _ a2).trans h.lts, (r _ _ r1).trans h.lRg, (r _ _ h.w).trans h.lW, (r _ _ f1).trans h.lFd, (r _ _ i1).trans h.lRd⟩
theorem Lw.same (h : Lw H ρ L R E made lost) (s : Same H H') : Lw H' ρ L R E made lost := h.keepT (h.tape.same s) (fun b o e _ _ _ => s b o e) (Same.ts s) (fun _ _ _ => rfl)
theorem Lw.draw (h : Lw H ρ L R E made lost) (t : Tape H' L.tp L.ts) (c : Chg L.tp H H') : Lw H' ρ L R E made lost := h.keepT t (fun b o e _ n _ => c b o (fun z => n (by rw [z]; exact h.ltp)) e) (h.tape.ts c) (fun _ _ _ => rfl)
theorem Lw.net (h : Lw H ρ L R E made lost) (c : NetChg ρ H H') (s : TS H H') (r : ∀ b o, H b = some o → ρ' b = ρ b) : Lw H' ρ' L R E made lost :=
  h.keepT (h.tape.keep (fun o e => c _ _ e (by rw [h.ltp]; unfold netL; omega)) (fun o e => c _ _ e (by rw [h.lts]; unfold netL; omega))) (fun b o e l _ _ => c b o e (lawL_not l)) s r
theorem NtOk.draw (h : NtOk K C H ρ A R E last lost sent N y) (l : Lw H ρ L R E2 made lost) (c : Chg L.tp H H') : NtOk K C H' ρ A R E last lost sent N y := h.keep (fun b o e q => c b o (fun z => by rw [z, l.ltp] at q; unfold netL at q; omega) e) (l.tape.ts c) fun _ _ _ => rfl
theorem NtOk.more {N' : Nat} (h : NtOk K C H ρ A R E last lost sent N y) (l : N ≤ N') (l5 : N' ≤ 500) : NtOk K C H ρ A R E last lost sent N' y := by
  obtain ⟨Tt, ⟨d, f, t1, t2, t3⟩, t4⟩ := h.tree
  exact ⟨h.ins, h.rg, h.en, h.ri, ⟨Tt, ⟨d, f, t1, t2.mono l, t3⟩, t4⟩, h.se, h.asc, h.ent, h.rok, h.rlen, h.l0, ⟨h.bd.1, l5, h.bd.2.2⟩, h.lx, h.lDe, h.lDr, h.lLs, h.lLr⟩
end
theorem regP_app (a b : Regs) : ∃ r, regP (a ++ b) = regP a ++ r := by
  unfold regP
  rw [List.zipIdx_append, List.filterMap_append]
  exact ⟨_, rfl⟩
def shF (ev : Nat) (ts : List Row3) (q : Nat × List Row3) : Option (List Nat) := if q.1 = ev then none else commonM q.2 ts
theorem sharedM_split (R : Regs) (E : List Ent) (ev : Nat) (ts : List Row3) : sharedM R E ev ts = ((regP R).findSome? (shF ev ts)).or ((E.map fun e => (e.ev, e.ts)).findSome? (shF ev ts)) := by
  unfold sharedM prs
  rw [List.findSome?_append]
  rfl
theorem sh_reg {R : Regs} {i : Nat} {ev : Nat} {ts : List Row3} {ws : List Nat} (h : (regP (R.take i)).findSome? (shF ev ts) = some ws) (E : List Ent) : sharedM R E ev ts = some ws := by
  rw [sharedM_split]
  obtain ⟨r, hr⟩ := regP_app (R.take i) (R.drop i)
  rw [List.take_append_drop] at hr
  rw [hr, List.findSome?_append, h]
  rfl
theorem sh_ent {R : Regs} {E : List Ent} {i : Nat} {ev : Nat} {ts : List Row3} {ws : List Nat} (h0 : (regP R).findSome? (shF ev ts) = none) (h : ((E.take i).map fun e => (e.ev, e.ts)).findSome? (shF ev ts) = some ws) : sharedM R E ev ts = some ws := by
  rw [sharedM_split, h0]
  have e : E.map (fun e => (e.ev, e.ts)) = (E.take i).map (fun e => (e.ev, e.ts)) ++ (E.drop i).map (fun e => (e.ev, e.ts)) := by rw [← List.map_append, List.take_append_drop]
  rw [e, List.findSome?_append, h]
  rfl
theorem find_snoc {α β : Type} (f : α → Option β) (l : List α) (a : α) (h : l.findSome? f = none) : (l ++ [a]).findSome? f = f a := by
  rw [List.findSome?_append, h]
  cases e : f a <;> simp [e]
theorem ent_open {H : Hp} {e : Ent} {v : V} (h : Dt H v (entD e)) : ∃ a u, v = .ref a ∧ H a = some (.tup [.int e.ev, u]) ∧ Dt H u (fD e.ts) := by
  cases h with
  | @tup a xs ds ha hs =>
    cases hs with
    | cons h1 hs =>
      cases hs with
      | @cons u us _ _ h2 hs =>
        cases h1
        cases hs
        exact ⟨a, u, rfl, ha, h2⟩
def spDue (K : PySem.W.Frag) : Sp := fun vs H Q _ => ∃ (ρ : Addr → Nat) (L : LA) (R : Regs) (E : List Ent) (made lost : Int) (ev : Nat) (u : V) (ts : List Row3), vs = [.ref L.W, .int ev, u] ∧ Lw H ρ L R E made lost ∧ RegOk R ∧ R.length = 4 ∧ Asc (E.map (·.nm)) ∧ (∀ e ∈ E, Good e.ts) ∧ Dt H u (fD ts) ∧ Good ts ∧
  (sharedM R E ev ts = none → ∀ H', Same H H' → Q .non H') ∧ (∀ ws q H', sharedM R E ev ts = some ws → Same H H' → Dt H' (.ref q) (pD ws) → Q (.ref q) H')
theorem asc_sorted {l l' : List Int} (h : Asc l) (hp : l'.Perm l) (hs : l'.Pairwise (· ≤ ·)) : l' = l := Asc.ext (asc_of hs (hp.nodup_iff.mpr h.nd)) h fun x => hp.mem_iff
section
variable {P : Program} {w : World} {K : PySem.W.Frag} {mg : Str → Option Value} {base : Heap} {C_Net C_NotValid : Addr}{A_EMPTY : Addr}
abbrev s_law_due : Stmt := topS 42
abbrev ns_law_due : List Str := ["w", "environment", "rows", "other", "packet", "name"]
theorem sc_law_due : FnScope ns_law_due ["w", "environment", "rows"] (defScope s_law_due) := ⟨rfl, rfl, rfl, by decide +kernel, rfl, by decide +kernel, by decide +kernel⟩

theorem ok_law_due {f : Addr} {fd : FuncData} (F : Fun K "_law_due" "_law_due" s_law_due f fd) (T : Txt K mg C_Net C_NotValid A_EMPTY) (D_law_common : Dfn P w K mg base CX0 1 "_law_common" ["one", "other"] (spLCom K)) : FnOk P w K mg base CX0 2 f fd ["w", "environment", "rows"] (spDue K) := by
  refine F.ok sc_law_due (fun vs H Q E h => ?_) (fun cdv A outer s H vs Q E hr h => ?_)
  · obtain ⟨ρ, L, R, E, made, lost, ev, u, ts, rfl, _⟩ := h
    rfl
  · obtain ⟨ρ, L, R, E', made, lost, ev, u, ts, rfl, lw, hok, hR4, hasc, hgood, hu, gt, kN, kS⟩ := h
    refine ⟨_, (pss_cons (ps_for PassesOwn.never (by rfl) (pi_range1 (by rfl) T.b_range (pa_cons pe_int pa_nil)) (pg_name (i := 3) sc_law_due.nd rfl (Or.inl rfl)) (pss_one (ps_if (PW.pt (pw_and (pt_cmpR op_ne (pv 3) (pv 1) (nomark _)) (pw_and1 (pt_cmpR op_notN (pe_ix (kIxL K) (pe_dget (units1 hr) (pv 0) pe_str (fun _ _ => rfl)) (pv 3) (fun _ _ => rfl)) pe_non (nomark _))))) (pss_cons (ps_set (i := 4) sc_law_due.nd rfl (Or.inl rfl) (pe_dcall D_law_common (hr.mono (by decide)) (by rfl) pass0 (pa_cons (pv 2) (pa_cons (pe_ix (kIxL K) (pe_dget (units1 hr) (pv 0) pe_str (fun _ _ => rfl)) (pv 3) (fun _ _ => rfl)) pa_nil))))
  (pss_one (ps_if (pt_cmpR op_notN (pv 4) pe_non (nomark _)) (pss_one (ps_ret (pv 4))) pss_nil))) pss_nil)))
  (pss_cons (ps_for PassesOwn.never (by rfl) (kpiL K (pe_callB (call_sortedDO (by rfl)) (by rfl) T.b_sorted (by decide +kernel) (pa_cons (pe_dget (units1 hr) (pv 0) pe_str (fun _ _ => rfl)) pa_nil))) (pg_name (i := 5) sc_law_due.nd rfl (Or.inl rfl)) (pss_one (ps_if (pt_cmpR op_ne (pe_ix (kIxT K) (pe_dget (units1 hr) (pe_dget (units1 hr) (pv 0) pe_str (fun _ _ => rfl)) (pv 5) (fun _ _ => rfl)) pe_int (fun _ _ => rfl)) (pv 1) (nomark _)) (pss_cons (ps_set (i := 4) sc_law_due.nd rfl (Or.inl rfl) (pe_dcall D_law_common (hr.mono (by decide)) (by rfl) pass0 (pa_cons (pv 2) (pa_cons (pe_ix (kIxT K) (pe_dget (units1 hr) (pe_dget (units1 hr) (pv 0) pe_str (fun _ _ => rfl)) (pv 5) (fun _ _ => rfl)) pe_int (fun _ _ => rfl)) pa_nil))))
  (pss_one (ps_if (pt_cmpR op_notN (pv 4) pe_non (nomark _)) (pss_one (ps_ret (pv 4))) pss_nil))) pss_nil)))
  (pss_one (ps_ret pe_non)))), ?_⟩
    obtain ⟨rv, hg, hrv⟩ := lw.rg
    obtain ⟨fk, hf, al⟩ := lw.fs
    have hw := lw.w
    refine ⟨4, rfl, by decide, by decide, for_range (fun i σ H' => ∃ (v3 v4 : Option V), σ = [some (.ref L.W), some (.int (ev : Int)), some u, v3, v4, none] ∧ Same H H' ∧ (regP (R.take i)).findSome? (shF ev ts) = none) ?_ ?_ ?_⟩
    · exact ⟨none, none, rfl, Same.refl H, rfl⟩
    · rintro i σ H1 hi ⟨v3, v4, rfl, s1, hn⟩
      have hi4 : i < 4 := hi
      have hi2 : i < R.length := by omega
      obtain ⟨v, hv1, hv2⟩ := hrv.at_ i R[i] (List.getElem?_eq_getElem hi2)
      have etake : R.take (i + 1) = R.take i ++ [R[i]] := (take_snoc (List.getElem?_eq_getElem hi2)).symm
      have el : (R.take i).length = i := by rw [List.length_take]; omega
      have hw1 := s1 _ _ hw
      have hg1 := s1 _ _ hg
      refine ⟨_, rfl, _, rfl, rfl, _, rfl, ?_⟩
      have e1 : (!decide (V.int (0 + (i : Int)) = V.int (ev : Int))) = decide (i ≠ ev) := by rw [show (0 : Int) + (i : Int) = (i : Int) by omega, intVn]
      rw [e1]
      refine iteD (fun e => ?_) (fun e => ?_)
      · refine ⟨_, rfl, L.W, _, rfl, w_regions hw1, _, rfl, _, _, _, _, rfl, rfl, SqL.of hg1, atC i (by omega) hv1, rfl, _, rfl, ?_⟩
        rcases hv2 with ⟨er, rfl⟩ | ⟨p, er, hp⟩
        · refine iteF ⟨_, _, rfl, s1, ?_⟩
          rw [etake, regP_snoc, er, List.append_nil]
          exact hn
        · have hp1 := hp.same s1
          obtain ⟨pa, pxs, rfl, _⟩ := fD_open hp1
          have gp : Good p := hok R[i] (List.getElem_mem hi2) p er
          refine iteT ?_
          have key : ((regP (R.take (i + 1))).findSome? (shF ev ts)) = commonM p ts := by
            rw [etake, regP_snoc, er, find_snoc _ _ _ hn]
            unfold shF
            show (if (R.take i).length = ev then none else commonM p ts) = commonM p ts
            rw [el, if_neg e]
          refine ⟨_, rfl, _, rfl, L.W, _, rfl, w_regions hw1, _, rfl, _, _, _, _, rfl, rfl, SqL.of hg1, atC i (by omega) hv1, u, .ref pa, ts, p, rfl, hu.same s1, hp1, gt, gp, fun en H2 s2 => ?_, fun ws q H2 es s2 hq => ?_⟩
          · refine ⟨_, rfl, rfl, _, rfl, iteF ⟨_, _, rfl, s1.trans s2, ?_⟩⟩
            rw [key]; exact en
          · refine ⟨_, rfl, rfl, _, rfl, iteT ⟨_, rfl, kS ws q H2 (sh_reg (i := i + 1) ?_ E') (s1.trans s2) hq⟩⟩
            rw [key]; exact es
      · have e' : i = ev := by omega
        refine iteF ⟨_, _, rfl, s1, ?_⟩
        rw [etake, regP_snoc]
        cases er : R[i] with
        | none => rw [List.append_nil]; exact hn
        | some p =>
          show (regP (R.take i) ++ [((R.take i).length, p)]).findSome? (shF ev ts) = none
          rw [find_snoc _ _ _ hn]
          unfold shF
          show (if (R.take i).length = ev then none else commonM p ts) = none
          rw [el, if_pos e']
    · rintro σ H1 ⟨v3, v4, rfl, s1, hn⟩
      have e4 : R.take (Int.toNat 4) = R := List.take_of_length_le (by show R.length ≤ 4; omega)
      rw [e4] at hn
      have hw1 := s1 _ _ hw
      have hf1 := s1 _ _ hf
      refine ⟨_, rfl, L.W, _, rfl, w_filters hw1, L.Fd, fk, E'.map (·.nm), rfl, .inl hf1, al.keys, fun ys l hperm hsrt hl => ?_⟩
      have eys := asc_sorted hasc hperm hsrt
      subst eys
      have sl := Same.new (o := .lst ((E'.map (·.nm)).map V.int)) hl
      have hll : (upd H1 l (.lst ((E'.map (·.nm)).map V.int))) l = some (.lst ((E'.map (·.nm)).map V.int)) := upd_same
      have s2 := s1.trans sl
      generalize upd H1 l (.lst ((E'.map (·.nm)).map V.int)) = H2 at hll s2
      refine ⟨l, rfl, ⟨_, SqL.of hll⟩, for_list (xs := (E'.map (·.nm)).map V.int) (fun j σ H' => ∃ (v4 v5 : Option V), σ = [some (.ref L.W), some (.int (ev : Int)), some u, v3, v4, v5] ∧ Same H H' ∧ H' l = some (.lst ((E'.map (·.nm)).map V.int)) ∧ ((E'.take j).map fun e => (e.ev, e.ts)).findSome? (shF ev ts) = none) ?_ ?_ ?_ ?_⟩
      · exact ⟨_, none, rfl, s2, hll, rfl⟩
      · rintro j σ H' _ ⟨_, _, _, _, h, _⟩
        exact SqL.of h
      · rintro j x σ H3 hj ⟨v4, v5, rfl, s3, hl3, hm⟩
        obtain ⟨nm, hnm, rfl⟩ := map_get hj
        obtain ⟨e, he, rfl⟩ := map_get hnm
        have em := List.mem_of_getElem? he
        obtain ⟨v, hv, hdv⟩ := al.some e.nm (findE_of hasc em)
        obtain ⟨t, u2, rfl, ht, hu2⟩ := ent_open hdv
        have hw3 := s3 _ _ hw
        have hf3 := s3 _ _ hf
        have ht3 := s3 _ _ ht
        have etake : (E'.take (j + 1)).map (fun e => (e.ev, e.ts)) = (E'.take j).map (fun e => (e.ev, e.ts)) ++ [(e.ev, e.ts)] := by rw [← take_snoc he, List.map_append]; rfl
        refine ⟨_, rfl, L.W, _, rfl, w_filters hw3, _, rfl, L.Fd, _, rfl, dgetE hf3 hv, ?_⟩
        refine ⟨_, _, _, _, rfl, rfl, SqT.of ht3, atC 0 rfl rfl, _, rfl, rfl, _, rfl, ?_⟩
        rw [intVn]
        refine iteD (fun en => ?_) (fun en => ?_)
        · have key : ((E'.take (j + 1)).map fun e => (e.ev, e.ts)).findSome? (shF ev ts) = commonM e.ts ts := by
            rw [etake, find_snoc _ _ _ hm]
            unfold shF
            show (if e.ev = ev then none else commonM e.ts ts) = commonM e.ts ts
            rw [if_neg en]
          refine ⟨_, rfl, _, rfl, L.W, _, rfl, w_filters hw3, _, rfl, L.Fd, _, rfl, dgetE hf3 hv, ?_⟩
          refine ⟨_, _, _, _, rfl, rfl, SqT.of ht3, atC 1 rfl rfl, u, u2, ts, e.ts, rfl, hu.same s3, hu2.same s3, gt, hgood e em, fun en H4 s4 => ?_, fun ws q H4 es s4 hq => ?_⟩
          · refine ⟨_, rfl, rfl, _, rfl, iteF ⟨_, _, rfl, s3.trans s4, s4 _ _ hl3, ?_⟩⟩
            rw [key]; exact en
          · refine ⟨_, rfl, rfl, _, rfl, iteT ⟨_, rfl, kS ws q H4 (sh_ent (i := j + 1) hn ?_) (s3.trans s4) hq⟩⟩
            rw [key]; exact es
        · have e' : e.ev = ev := by omega
          refine ⟨_, _, rfl, s3, hl3, ?_⟩
          rw [etake, find_snoc _ _ _ hm]
          unfold shF
          exact if_pos e'
      · rintro σ H3 ⟨v4, v5, rfl, s3, hl3, hm⟩
        rw [show E'.take ((E'.map (·.nm)).map V.int).length = E' by rw [List.length_map, List.length_map, List.take_length]] at hm
        refine kN ?_ H3 s3
        rw [sharedM_split, hn, hm]
        rfl
end
end My

namespace My
open PySem L2
local macro_rules | `(tactic| walk_at "ne") => `(tactic| first | assumption | exact Ne.symm (by assumption) | exact ne_of_none (by assumption) (by assumption) | exact Ne.symm (ne_of_none (by assumption) (by assumption)))
local macro_rules | `(tactic| walk_at "hp") => `(tactic| first | assumption | with_reducible exact upd_same | (with_reducible refine Eq.trans (upd_ne ?_) ?_; rotate_left; walk_at "hp"; walk_at "ne"))
local macro_rules | `(tactic| walk_at "cnd") => `(tactic| first | omega | (show (0 : Int) < _; omega) | exact ⟨by omega, by omega⟩ | exact Or.inl ⟨by omega, by omega⟩ | exact Or.inr ⟨by omega, by omega⟩ | exact ⟨by omega, by omega, by decide⟩ | exact ⟨by omega, by omega, by omega⟩)
local macro_rules | `(tactic| walk_at "at") => `(tactic| first | exact atC 0 rfl rfl | exact atC 1 rfl rfl | exact atC 2 rfl rfl | exact atC 3 rfl rfl | exact atC 4 rfl rfl | exact atC 5 rfl rfl | exact atC 6 rfl rfl | exact atC 7 rfl rfl)
local macro_rules | `(tactic| walk_at "ix") => `(tactic| first | exact ixC 0 rfl (Nat.le_of_ble_eq_true rfl) | exact ixC 1 rfl (Nat.le_of_ble_eq_true rfl) | exact ixC 2 rfl (Nat.le_of_ble_eq_true rfl) | exact ixC 3 rfl (Nat.le_of_ble_eq_true rfl) | exact ixC 4 rfl (Nat.le_of_ble_eq_true rfl) | exact ixC 5 rfl (Nat.le_of_ble_eq_true rfl))
local macro_rules | `(tactic| walk_at "st") => `(tactic| first
  | refine ⟨_, rfl, ?_⟩
  | refine ⟨_, _, rfl, rfl, (by walk_at "cnd" : (_ : Prop)), ?_⟩
  | refine ⟨_, _, rfl, rfl, ?_⟩
  | refine ⟨rfl, ?_⟩
  | refine Or.inl ⟨_, rfl, ?_⟩
  | refine ⟨_, _, _, _, rfl, rfl, by exact SqL.of (by walk_at "hp"), by walk_at "at", ?_⟩
  | refine ⟨_, _, _, _, rfl, rfl, by exact SqT.of (by walk_at "hp"), by walk_at "at", ?_⟩
  | refine ⟨_, _, _, _, rfl, rfl, by walk_at "hp", by walk_at "ix", ?_⟩
  | refine ⟨_, _, rfl, Or.inl (by exact SqL.of (by walk_at "hp")), ?_⟩
  | refine ⟨_, _, rfl, Or.inr (by exact SqT.of (by walk_at "hp")), ?_⟩)
local macro_rules | `(tactic| walk_at "so") => `(tactic| first
  | refine ⟨_, _, _, _, _, rfl, by walk_at "hp", by assumption, by assumption, rfl, ?_⟩
  | refine ⟨_, _, _, _, rfl, by walk_at "hp", by assumption, by assumption, Nat.le_of_ble_eq_true rfl, ?_⟩
  | refine ⟨_, _, _, rfl, by walk_at "hp", rfl, ?_⟩
  | walk_at "st")
local macro_rules | `(tactic| walk_at "ro") => `(tactic| repeat walk_at "so")
local macro_rules | `(tactic| walk_at "run") => `(tactic| repeat walk_at "st")

structure JB (K : PySem.W.Frag) (C : Addr) (H : Hp) (ρ : Addr → Nat) (L : LA) (A : NA) (R : Regs) (N : Nat) (E : List Ent) (last lost : Int) : Prop where
  nt : ∃ y, NtOk K C H ρ A R E last lost [] N y
  lw : Lw H ρ L R E last lost
  len : E.length ≤ N
  ll : last ≤ N
  n : N ≤ 130
section
variable {K : PySem.W.Frag} {C : Addr} {H H' : Hp} {ρ ρ' : Addr → Nat} {L : LA} {A : NA} {R : Regs} {E E2 : List Ent} {last lost : Int} {N : Nat} {y : V}
theorem JB.draw (j : JB K C H ρ L A R N E last lost) (t : Tape H' L.tp L.ts) (c : Chg L.tp H H') : JB K C H' ρ L A R N E last lost := by
  obtain ⟨y, nt⟩ := j.nt
  exact ⟨⟨y, nt.draw j.lw c⟩, j.lw.draw t c, j.len, j.ll, j.n⟩
theorem JB.same (j : JB K C H ρ L A R N E last lost) (s : Same H H') : JB K C H' ρ L A R N E last lost := by
  obtain ⟨y, nt⟩ := j.nt
  exact ⟨⟨y, nt.same s⟩, j.lw.same s, j.len, j.ll, j.n⟩
theorem JB.more (j : JB K C H ρ L A R N E last lost) (l : N < 130) : JB K C H ρ L A R (N + 1) E last lost := by
  obtain ⟨y, nt⟩ := j.nt
  exact ⟨⟨y, nt.more (Nat.le_succ N) (by omega)⟩, j.lw, by have := j.len; omega, by have := j.ll; omega, by omega⟩
end
def spStep (K : PySem.W.Frag) (C : Addr) : Sp := fun vs H Q _ => ∃ (ρ : Addr → Nat) (L : LA) (A : NA) (R : Regs) (N : Nat) (E : List Ent) (last lost : Int), vs = [.ref L.tp, .ref L.W, .ref A.x] ∧ JB K C H ρ L A R N E last lost ∧ N < 130 ∧
  ∀ ρ' H' E' last' lost', JB K C H' ρ' L A R (N + 1) E' last' lost' → Q (.bl true) H'
theorem pD_sh1 (ws : List Nat) : Sh 1 (pD ws) := Sh.tup (n := 0) fun d hd => by obtain ⟨nn, _, rfl⟩ := List.mem_map.mp hd; exact Sh.int _ _
theorem ne_lab {ρ : Addr → Nat} {a b : Addr} {m n : Nat} (h1 : ρ a = m) (h2 : ρ b = n) (h : m ≠ n) : a ≠ b := fun e => h (by rw [← h1, ← h2, e])
section
variable {P : Program} {w : World} {K : PySem.W.Frag} {mg : Str → Option Value} {base : Heap} {C_Net C_NotValid : Addr}{A_EMPTY : Addr}
abbrev s_law_enrolled : Stmt := topS 43
abbrev ns_law_enrolled : List Str := ["draws", "w", "net", "environment", "rows", "due", "told", "filters", "rings"]
theorem sc_law_enrolled : FnScope ns_law_enrolled ["draws", "w", "net"] (defScope s_law_enrolled) := ⟨rfl, rfl, rfl, by decide +kernel, rfl, by decide +kernel, by decide +kernel⟩

theorem ok_law_enrolled {f : Addr} {fd : FuncData} (F : Fun K "_law_enrolled" "_law_enrolled" s_law_enrolled f fd) (T : Txt K mg C_Net C_NotValid A_EMPTY) (D_law_draw : Dfn P w K mg base CX0 1 "_law_draw" ["draws", "many"] spNext) (D_law_filter : Dfn P w K mg base CX0 2 "_law_filter" ["draws", "environment"] (spFil2 K)) (D_law_due : Dfn P w K mg base CX0 2 "_law_due" ["w", "environment", "rows"] (spDue K))
    (D_Net_enroll : Mth P w K mg base (L2.CX P w) 10 C_Net "enroll" ["self", "environment", "tests"] (spEnroll K C_Net)) : FnOk P w K mg base CX0 11 f fd ["draws", "w", "net"] (spStep K C_Net) := by
  have ho_Net := T.o_Net; have hn_Net__regions := T.n_Net__regions; have hn_Net__enrolled := T.n_Net__enrolled; have hn_Net__rings := T.n_Net__rings; have hn_Net__tree := T.n_Net__tree; have hn_Net__last_name := T.n_Net__last_name; have hn_Net__sent := T.n_Net__sent; have hn_Net__lost := T.n_Net__lost
  refine F.ok sc_law_enrolled (fun vs H Q E h => ?_) (fun cdv A outer s H vs Q E hr h => ?_)
  · obtain ⟨ρ, L, A, R, N, E', last, lost, rfl, _⟩ := h
    rfl
  · obtain ⟨ρ, L, A', R, N, E', last, lost, rfl, j, hN, k⟩ := h
    refine ⟨_, (pss_cons (ps_set (i := 3) sc_law_enrolled.nd rfl (Or.inl rfl) (pe_dcall D_law_draw (hr.mono (by decide)) (by rfl) pass0 (pa_cons (pv 0) (pa_cons pe_int pa_nil))))
  (pss_cons (ps_set (i := 4) sc_law_enrolled.nd rfl (Or.inl rfl) (pe_dcall D_law_filter (hr.mono (by decide)) (by rfl) pass0 (pa_cons (pv 0) (pa_cons (pv 3) pa_nil))))
  (pss_cons (ps_set (i := 5) sc_law_enrolled.nd rfl (Or.inl rfl) (pe_dcall D_law_due (hr.mono (by decide)) (by rfl) pass0 (pa_cons (pv 1) (pa_cons (pv 3) (pa_cons (pv 4) pa_nil)))))
  (pss_cons (ps_set (i := 6) sc_law_enrolled.nd rfl (Or.inl rfl) (pe_dmeth (pv 2) D_Net_enroll (hr.mono (by decide)) passL (pa_cons (pv 3) (pa_cons (pv 4) pa_nil))))
  (pss_cons (ps_if (pt_cmpR op_notN (pv 5) pe_non (nomark _)) (pss_one (ps_ret (pe_cmpR (kEqD K hr.units) (pv 6) (pv 5) (nomark _)))) pss_nil)
  (pss_cons (ps_dput (units1 hr) (pv 1) pe_str (pe_op op_add (pe_dget (units1 hr) (pv 1) pe_str (fun _ _ => rfl)) pe_int) rfl)
  (pss_cons (ps_set (i := 7) sc_law_enrolled.nd rfl (Or.inl rfl) (pe_dget (units1 hr) (pv 1) pe_str (fun _ _ => rfl)))
  (pss_cons (ps_dput (units1 hr) (pv 7) (pe_dget (units1 hr) (pv 1) pe_str (fun _ _ => rfl)) (pe_tup (pa_cons (pv 3) (pa_cons (pv 4) pa_nil))) rfl)
  (pss_cons (ps_set (i := 8) sc_law_enrolled.nd rfl (Or.inl rfl) (pe_dget (units1 hr) (pv 1) pe_str (fun _ _ => rfl)))
  (pss_cons (ps_dput (units1 hr) (pv 8) (pe_dget (units1 hr) (pv 1) pe_str (fun _ _ => rfl)) (pe_lst pa_nil) rfl)
  (pss_one (ps_ret (pe_cmpR (kEqD K hr.units) (pv 6) (pe_dget (units1 hr) (pv 1) pe_str (fun _ _ => rfl)) (nomark _)))))))))))))), ?_⟩
    refine ⟨_, rfl, L.tp, L.ts, 4, rfl, by decide, by decide, j.lw.tape, fun evv H1 e0 e4 t1 c1 => ?_⟩
    obtain ⟨ev, rfl⟩ := Int.eq_ofNat_of_zero_le e0
    have j1 := j.draw t1 c1
    have ev4 : ev < 4 := by omega
    refine ⟨_, rfl, _, rfl, L.tp, L.ts, ev, rfl, ev4, t1, fun u ts H2 hu gt t2 c2 => ?_⟩
    have j2 := j1.draw t2 c2
    clear j1 j t1 c1 t2 c2 e0 e4
    obtain ⟨y, nt⟩ := j2.nt
    have hgood : ∀ e ∈ E', Good e.ts := fun e he => (nt.ent e he).2.2.1
    have jlen := j2.len
    have jll := j2.ll
    have l0 := nt.l0
    refine ⟨_, rfl, _, rfl, _, rfl, ρ, L, R, E', last, lost, ev, u, ts, rfl, j2.lw, nt.rok, nt.rlen, nt.asc, hgood, hu, gt, fun hn H3 s3 => ?_, fun ws q H3 hs s3 hq => ?_⟩
    · have j3 := j2.same s3
      have hu3 := hu.same s3
      have nt3 := nt.same s3
      refine ⟨_, rfl, A'.x, A'.dx, _, rfl, nt3.ins, rfl, _, rfl, _, rfl, ρ, A', R, E', last, lost, [], N, y, u, ts, ev, rfl, ev4, nt3, hu3, gt, by omega, by omega, by omega, fun ws p H4 hso s4 hws => (by rw [hn] at hso; cases hso), fun hno ρ' y' H4 hρ nt4 nc ts4 => ?_⟩
      have lw4 := j3.lw.net nc ts4 hρ
      have hu4 := hu3.ts ts4 (fD_tonly _)
      have hw4 := lw4.w
      refine ⟨_, rfl, rfl, _, rfl, ?_⟩
      refine iteF ?_
      have dpm := DPut.k (k := (Sum.inr "made" : L2.Key)) (v := .int (last + 1)) hw4 (show (5 : Nat) < sizeLine by decide)
      rw [p_made] at dpm
      refine ⟨_, rfl, L.W, _, rfl, w_made hw4, _, _, rfl, rfl, _, rfl, L.W, _, rfl, dpm, ?_⟩
      generalize eH5 : upd H4 L.W (.dK (wK L (last + 1) lost)) = H5
      have hw5 : H5 L.W = some (.dK (wK L (last + 1) lost)) := by rw [← eH5]; exact upd_same
      have o5 : ∀ b, b ≠ L.W → H5 b = H4 b := fun b hb => by rw [← eH5, upd_ne hb]
      have ts5 : TS H4 H5 := fun b xs e => by rw [o5 b (ne_of e hw4 (by intro z; cases z))]; exact e
      obtain ⟨fk, hf4, alf⟩ := lw4.fs
      obtain ⟨ik, hi4, ali⟩ := lw4.ri
      have nWF : L.Fd ≠ L.W := ne_lab lw4.lFd lw4.lW (by decide)
      have nWR : L.Rd ≠ L.W := ne_lab lw4.lRd lw4.lW (by decide)
      have nFR : L.Rd ≠ L.Fd := ne_lab lw4.lRd lw4.lFd (by decide)
      have hf5 : H5 L.Fd = some (.dK fk) := by rw [o5 _ nWF]; exact hf4
      have hi5 : H5 L.Rd = some (.dK ik) := by rw [o5 _ nWR]; exact hi4
      have fno : findE E' (last + 1) = none := List.find?_eq_none.mpr fun e he => by
        have := (nt.ent e he).2.1
        simp
        omega
      refine ⟨_, rfl, L.W, _, rfl, w_filters hw5, ?_⟩
      refine ⟨_, rfl, _, rfl, szl rfl, fun t ht => ?_⟩
      have s6 := Same.new (o := .tup [.int (ev : Int), u]) ht
      have ht6 : (upd H5 t (.tup [.int (ev : Int), u])) t = some (.tup [.int (ev : Int), u]) := upd_same
      generalize upd H5 t (.tup [.int (ev : Int), u]) = H6 at s6 ht6
      have hw6 := s6 _ _ hw5
      have hf6 := s6 _ _ hf5
      have hi6 := s6 _ _ hi5
      have dpf := DPut.k (k := (Sum.inl (last + 1) : L2.Key)) (v := .ref t) hf6 (szt (by rw [alf.len]; omega))
      rw [putK_new _ (alf.none _ fno)] at dpf
      refine ⟨_, rfl, _, rfl, L.W, _, rfl, w_made hw6, L.Fd, _, rfl, dpf, ?_⟩
      generalize eH7 : upd H6 L.Fd (.dK (fk ++ [(Sum.inl (last + 1), .ref t)])) = H7
      have hf7 : H7 L.Fd = some (.dK (fk ++ [(Sum.inl (last + 1), .ref t)])) := by rw [← eH7]; exact upd_same
      have o7 : ∀ b, b ≠ L.Fd → H7 b = H6 b := fun b hb => by rw [← eH7, upd_ne hb]
      have ts7 : TS H6 H7 := fun b xs e => by rw [o7 b (ne_of e hf6 (by intro z; cases z))]; exact e
      have hw7 : H7 L.W = some (.dK (wK L (last + 1) lost)) := by rw [o7 _ nWF.symm]; exact hw6
      have hi7 : H7 L.Rd = some (.dK ik) := by rw [o7 _ nFR]; exact hi6
      refine ⟨_, rfl, L.W, _, rfl, w_rings hw7, ?_⟩
      refine ⟨szl rfl, fun lr hlr => ?_⟩
      have s8 := Same.new (o := .lst []) hlr
      have hlr8 : (upd H7 lr (.lst [])) lr = some (.lst []) := upd_same
      generalize upd H7 lr (.lst []) = H8 at s8 hlr8
      have hw8 := s8 _ _ hw7
      have hf8 := s8 _ _ hf7
      have hi8 := s8 _ _ hi7
      have dpr := DPut.k (k := (Sum.inl (last + 1) : L2.Key)) (v := .ref lr) hi8 (szt (by rw [ali.len]; omega))
      rw [putK_new _ (ali.none _ fno)] at dpr
      refine ⟨_, rfl, _, rfl, L.W, _, rfl, w_made hw8, L.Rd, _, rfl, dpr, ?_⟩
      generalize eH9 : upd H8 L.Rd (.dK (ik ++ [(Sum.inl (last + 1), .ref lr)])) = H9
      have hi9 : H9 L.Rd = some (.dK (ik ++ [(Sum.inl (last + 1), .ref lr)])) := by rw [← eH9]; exact upd_same
      have o9 : ∀ b, b ≠ L.Rd → H9 b = H8 b := fun b hb => by rw [← eH9, upd_ne hb]
      have ts9 : TS H8 H9 := fun b xs e => by rw [o9 b (ne_of e hi8 (by intro z; cases z))]; exact e
      have hw9 : H9 L.W = some (.dK (wK L (last + 1) lost)) := by rw [o9 _ nWR.symm]; exact hw8
      have hf9 : H9 L.Fd = some (.dK (fk ++ [(Sum.inl (last + 1), .ref t)])) := by rw [o9 _ nFR.symm]; exact hf8
      have ts49 : TS H4 H9 := (((ts5.trans (Same.ts s6)).trans ts7).trans (Same.ts s8)).trans ts9
      have ts69 : TS H6 H9 := (ts7.trans (Same.ts s8)).trans ts9
      have old : ∀ b o, H4 b = some o → ρ' b ≠ 9 → ρ' b ≠ 11 → ρ' b ≠ 15 → H9 b = some o := fun b o e h1 h2 h3 => by
        rw [o9 b (fun z => h3 (by rw [z]; exact lw4.lRd))]
        refine s8 b o ?_
        rw [o7 b (fun z => h2 (by rw [z]; exact lw4.lFd))]
        refine s6 b o ?_
        rw [o5 b (fun z => h1 (by rw [z]; exact lw4.lW))]
        exact e
      have nlr : ∀ b o, H4 b = some o → b ≠ lr := fun b o e z => by
        subst z
        by_cases q1 : b = L.Fd
        · rw [q1, hf7] at hlr; cases hlr
        · rw [o7 b q1] at hlr
          by_cases q2 : b = L.W
          · rw [q2, hw6] at hlr; cases hlr
          · have := s6 b o (by rw [o5 b q2]; exact e)
            rw [this] at hlr; cases hlr
      have lab : ∀ b o, H4 b = some o → (if b = lr then 13 else ρ' b) = ρ' b := fun b o e => if_neg (nlr b o e)
      have nlrR : lr ≠ L.Rd := (ne_of_none hi7 hlr).symm
      have hlr9 : H9 lr = some (.lst []) := by rw [o9 _ nlrR]; exact hlr8
      have nt9 := nt4.keep (H' := H9) (ρ' := fun b => if b = lr then 13 else ρ' b) (fun b o e q => old b o e (by unfold netL at q; omega) (by unfold netL at q; omega) (by unfold netL at q; omega)) ts49 lab
      obtain ⟨rv4, r1, r2⟩ := lw4.rg
      obtain ⟨ot, os, a1, a2⟩ := lw4.tape.al
      refine ⟨_, rfl, _, rfl, L.W, _, rfl, w_made hw9, .int (last + 1), .int (last + 1), .int _, .int _, (Sh.int 0 _).ok, (Sh.int 0 _).ok, ?_⟩
      rw [PySem.SeqAt.eqv_refl _ (Sh.int 0 _).1]
      refine k (fun b => if b = lr then 13 else ρ' b) H9 (E' ++ [⟨last + 1, ev, ts, []⟩]) (last + 1) lost ⟨⟨y', nt9⟩, ⟨?_, hw9, ⟨rv4, old _ _ r1 (by rw [lw4.lRg]; decide) (by rw [lw4.lRg]; decide) (by rw [lw4.lRg]; decide), r2.ts ts49⟩,
        ⟨_, hf9, Al.snoc (e := ⟨last + 1, ev, ts, []⟩) ?_ (alf.imp fun e v q => q.ts ts49 (entD_tonly e))⟩, ⟨_, hi9, Al.snoc (e := ⟨last + 1, ev, ts, []⟩) ?_ (ali.imp fun e v q => q.keep (fun b o e' l => old b o e' (by rw [l]; decide) (by rw [l]; decide) (by rw [l]; decide)) ts49 lab)⟩,
        (lab _ _ a1).trans lw4.ltp, (lab _ _ a2).trans lw4.lts, (lab _ _ r1).trans lw4.lRg, (lab _ _ hw4).trans lw4.lW, (lab _ _ hf4).trans lw4.lFd, (lab _ _ hi4).trans lw4.lRd⟩, by simp; omega, by omega, by omega⟩
      · exact lw4.tape.keep (fun o e => old _ _ e (by rw [lw4.ltp]; decide) (by rw [lw4.ltp]; decide) (by rw [lw4.ltp]; decide)) (fun o e => old _ _ e (by rw [lw4.lts]; decide) (by rw [lw4.lts]; decide) (by rw [lw4.lts]; decide))
      · exact .tup (ts69 _ _ ht6) (.cons (.int _) (.cons (hu4.ts ts49 (fD_tonly _)) .nil))
      · exact ⟨lr, [], rfl, if_pos rfl, hlr9, .nil⟩
    · have j3 := j2.same s3
      have hu3 := hu.same s3
      have nt3 := nt.same s3
      refine ⟨_, rfl, A'.x, A'.dx, _, rfl, nt3.ins, rfl, _, rfl, _, rfl, ρ, A', R, E', last, lost, [], N, y, u, ts, ev, rfl, ev4, nt3, hu3, gt, by omega, by omega, by omega, fun ws' p H4 hso s4 hws => ?_, fun hno => (by rw [hs] at hno; cases hno)⟩
      rw [hs] at hso
      cases hso
      refine ⟨_, rfl, rfl, _, rfl, ?_⟩
      refine iteT ?_
      refine ⟨_, rfl, _, rfl, pD ws, pD ws, hws.dp, (hq.same s4).dp, (pD_sh1 ws).ok (by decide), (pD_sh1 ws).ok (by decide), ?_⟩
      rw [PySem.SeqAt.eqv_refl _ (pD_sh1 ws).1]
      exact k ρ H4 E' last lost ((j3.same s4).more hN)
end
end My

namespace My
open PySem L2
local macro_rules | `(tactic| walk_at "ne") => `(tactic| first | assumption | exact Ne.symm (by assumption) | exact ne_of_none (by assumption) (by assumption) | exact Ne.symm (ne_of_none (by assumption) (by assumption)))
local macro_rules | `(tactic| walk_at "hp") => `(tactic| first | assumption | with_reducible exact upd_same | (with_reducible refine Eq.trans (upd_ne ?_) ?_; rotate_left; walk_at "hp"; walk_at "ne"))
local macro_rules | `(tactic| walk_at "cnd") => `(tactic| first | omega | (show (0 : Int) < _; omega) | exact ⟨by omega, by omega⟩ | exact Or.inl ⟨by omega, by omega⟩ | exact Or.inr ⟨by omega, by omega⟩ | exact ⟨by omega, by omega, by decide⟩ | exact ⟨by omega, by omega, by omega⟩)
local macro_rules | `(tactic| walk_at "at") => `(tactic| first | exact atC 0 rfl rfl | exact atC 1 rfl rfl | exact atC 2 rfl rfl | exact atC 3 rfl rfl | exact atC 4 rfl rfl | exact atC 5 rfl rfl | exact atC 6 rfl rfl | exact atC 7 rfl rfl)
local macro_rules | `(tactic| walk_at "ix") => `(tactic| first | exact ixC 0 rfl (Nat.le_of_ble_eq_true rfl) | exact ixC 1 rfl (Nat.le_of_ble_eq_true rfl) | exact ixC 2 rfl (Nat.le_of_ble_eq_true rfl) | exact ixC 3 rfl (Nat.le_of_ble_eq_true rfl) | exact ixC 4 rfl (Nat.le_of_ble_eq_true rfl) | exact ixC 5 rfl (Nat.le_of_ble_eq_true rfl))
local macro_rules | `(tactic| walk_at "st") => `(tactic| first
  | refine ⟨_, rfl, ?_⟩
  | refine ⟨_, _, rfl, rfl, (by walk_at "cnd" : (_ : Prop)), ?_⟩
  | refine ⟨_, _, rfl, rfl, ?_⟩
  | refine ⟨rfl, ?_⟩
  | refine Or.inl ⟨_, rfl, ?_⟩
  | refine ⟨_, _, _, _, rfl, rfl, by exact SqL.of (by walk_at "hp"), by walk_at "at", ?_⟩
  | refine ⟨_, _, _, _, rfl, rfl, by exact SqT.of (by walk_at "hp"), by walk_at "at", ?_⟩
  | refine ⟨_, _, _, _, rfl, rfl, by walk_at "hp", by walk_at "ix", ?_⟩
  | refine ⟨_, _, rfl, Or.inl (by exact SqL.of (by walk_at "hp")), ?_⟩
  | refine ⟨_, _, rfl, Or.inr (by exact SqT.of (by walk_at "hp")), ?_⟩)
local macro_rules | `(tactic| walk_at "so") => `(tactic| first
  | refine ⟨_, _, _, _, _, rfl, by walk_at "hp", by assumption, by assumption, rfl, ?_⟩
  | refine ⟨_, _, _, _, rfl, by walk_at "hp", by assumption, by assumption, Nat.le_of_ble_eq_true rfl, ?_⟩
  | refine ⟨_, _, _, rfl, by walk_at "hp", rfl, ?_⟩
  | walk_at "st")
local macro_rules | `(tactic| walk_at "ro") => `(tactic| repeat walk_at "so")
local macro_rules | `(tactic| walk_at "run") => `(tactic| repeat walk_at "st")

theorem al_put {Rl Rl' : Ent → V → Prop} {n : Int} {rg : List (List Nat)} {v' : V} {kvs : List (L2.Key × V)} {E : List Ent} (x : Al Rl kvs E) : (∀ e ∈ E, e.nm ≠ n → ∀ v, Rl e v → Rl' e v) → (∀ e ∈ E, e.nm = n → Rl' { e with rg := rg } v') →
    Al Rl' (kvs.map fun kv => if kv.1 = (Sum.inl n : L2.Key) then (kv.1, v') else kv) (setRg E n rg) := by
  induction x with
  | nil => intro _ _; exact .nil
  | @cons e v kvs E a b ih =>
    intro h1 h2
    have rest := ih (fun e he => h1 e (List.mem_cons_of_mem _ he)) fun e he => h2 e (List.mem_cons_of_mem _ he)
    show Al _ ((if (Sum.inl e.nm : L2.Key) = Sum.inl n then (Sum.inl e.nm, v') else (Sum.inl e.nm, v)) :: _) ((if e.nm = n then { e with rg := rg } else e) :: _)
    by_cases q : e.nm = n
    · rw [if_pos (by rw [q]), if_pos q]
      exact Al.cons (e := { e with rg := rg }) (h2 e List.mem_cons_self q) rest
    · rw [if_neg (fun z => q (Sum.inl.inj z)), if_neg q]
      exact .cons (h1 e List.mem_cons_self q v a) rest
theorem putK_old {kvs : List (L2.Key × V)} {k : L2.Key} {u v : V} (h : valV kvs k = some u) : putK kvs k v = kvs.map fun kv => if kv.1 = k then (kv.1, v) else kv := by
  unfold putK
  rw [valV_any, h]
  exact if_pos rfl
section
variable {K : PySem.W.Frag} {C : Addr} {H H' : Hp} {ρ ρ' : Addr → Nat} {L : LA} {A : NA} {R : Regs} {E E2 : List Ent} {made last lost : Int} {N : Nat} {y : V}
theorem Lw.ring (lw : Lw H ρ L R E made lost) {ik : List (L2.Key × V)} (hi : H L.Rd = some (.dK ik)) {n : Int} {e : Ent} (he : findE E n = some e) {lr : Addr} {ps : List V} {rg : List (List Nat)} (hl : H lr = some (.lst ps)) (rl : ρ lr = 13) (hp : DtAll H ps (rg.map pD)) :
    Lw (upd H L.Rd (.dK (putK ik (Sum.inl n : L2.Key) (.ref lr)))) ρ L R (setRg E n rg) made lost ∧ TS H (upd H L.Rd (.dK (putK ik (Sum.inl n : L2.Key) (.ref lr)))) ∧ ∀ b o, H b = some o → ρ b ≠ 15 → (upd H L.Rd (.dK (putK ik (Sum.inl n : L2.Key) (.ref lr)))) b = some o := by
  obtain ⟨ik', i1, ali⟩ := lw.ri
  rw [hi] at i1
  cases i1
  obtain ⟨v, hv, _⟩ := ali.some n he
  rw [putK_old hv]
  generalize eo : (HO.dK (ik.map fun kv => if kv.1 = (Sum.inl n : L2.Key) then (kv.1, V.ref lr) else kv) : HO) = oo
  have oth : ∀ b o, H b = some o → ρ b ≠ 15 → (upd H L.Rd oo) b = some o := fun b o e h => by
    rw [upd_ne (fun z => h (by rw [z]; exact lw.lRd))]; exact e
  have ts : TS H (upd H L.Rd oo) := fun b xs e => by
    rw [upd_ne (ne_of e hi (by intro z; cases z))]; exact e
  obtain ⟨rv, r1, r2⟩ := lw.rg
  obtain ⟨fk, f1, f2⟩ := lw.fs
  refine ⟨⟨lw.tape.keep (fun o e => oth _ _ e (by rw [lw.ltp]; decide)) (fun o e => oth _ _ e (by rw [lw.lts]; decide)), oth _ _ lw.w (by rw [lw.lW]; decide), ⟨rv, oth _ _ r1 (by rw [lw.lRg]; decide), r2.ts ts⟩,
    ⟨fk, oth _ _ f1 (by rw [lw.lFd]; decide), ?_⟩, ⟨_, by rw [← eo]; exact upd_same, al_put ali (fun e _ _ v q => q.keep (fun b o e' l => oth b o e' (by rw [l]; decide)) ts fun _ _ _ => rfl) fun e _ _ => ⟨lr, ps, rfl, rl, oth _ _ hl (by rw [rl]; decide), hp.ts ts (tonlyPs _)⟩⟩, lw.ltp, lw.lts, lw.lRg, lw.lW, lw.lFd, lw.lRd⟩, ts, oth⟩
  refine Al.map (g := fun e => if e.nm = n then { e with rg := rg } else e) (fun e => ?_) (fun e _ v q => ?_) f2
  · by_cases z : e.nm = n
    · rw [if_pos z]
    · rw [if_neg z]
  · have : entD (if e.nm = n then { e with rg := rg } else e) = entD e := by
      by_cases z : e.nm = n
      · rw [if_pos z]; rfl
      · rw [if_neg z]
    show Dt _ v (entD _)
    rw [this]
    exact q.ts ts (entD_tonly e)
theorem Lw.lostOne (lw : Lw H ρ L R E made lost) (m : Int) : Lw (upd H L.W (.dK (wK L made m))) ρ L R E made m ∧ TS H (upd H L.W (.dK (wK L made m))) ∧ ∀ b o, H b = some o → ρ b ≠ 9 → (upd H L.W (.dK (wK L made m))) b = some o := by
  have hw := lw.w
  generalize eo : (HO.dK (wK L made m) : HO) = oo
  have oth : ∀ b o, H b = some o → ρ b ≠ 9 → (upd H L.W oo) b = some o := fun b o e h => by
    rw [upd_ne (fun z => h (by rw [z]; exact lw.lW))]; exact e
  have ts : TS H (upd H L.W oo) := fun b xs e => by
    rw [upd_ne (ne_of e hw (by intro z; cases z))]; exact e
  obtain ⟨rv, r1, r2⟩ := lw.rg
  obtain ⟨fk, f1, f2⟩ := lw.fs
  obtain ⟨ik, i1, i2⟩ := lw.ri
  exact ⟨⟨lw.tape.keep (fun o e => oth _ _ e (by rw [lw.ltp]; decide)) (fun o e => oth _ _ e (by rw [lw.lts]; decide)), by rw [← eo]; exact upd_same, ⟨rv, oth _ _ r1 (by rw [lw.lRg]; decide), r2.ts ts⟩,
    ⟨fk, oth _ _ f1 (by rw [lw.lFd]; decide), f2.imp fun e v q => q.ts ts (entD_tonly e)⟩, ⟨ik, oth _ _ i1 (by rw [lw.lRd]; decide), i2.imp fun e v q => q.keep (fun b o e' l => oth b o e' (by rw [l]; decide)) ts fun _ _ _ => rfl⟩, lw.ltp, lw.lts, lw.lRg, lw.lW, lw.lFd, lw.lRd⟩, ts, oth⟩
theorem JB.relab (j : JB K C H ρ L A R N E last lost) (s : Same H H') (r : ∀ b o, H b = some o → ρ' b = ρ b) : JB K C H' ρ' L A R N E last lost := by
  obtain ⟨y, nt⟩ := j.nt
  exact ⟨⟨y, nt.keep (fun b o e _ => s b o e) (Same.ts s) r⟩, j.lw.keepT (j.lw.tape.same s) (fun b o e _ _ _ => s b o e) (Same.ts s) r, j.len, j.ll, j.n⟩
/-- what stands at a place of no label may change -/
theorem JB.free (j : JB K C H ρ L A R N E last lost) {a : Addr} {xs ys : List V} (h : ρ a = 0) (ha : H a = some (.lst xs)) : JB K C (upd H a (.lst ys)) ρ L A R N E last lost := by
  have oth : ∀ b o, H b = some o → ρ b ≠ 0 → (upd H a (.lst ys)) b = some o := fun b o e q => by
    rw [upd_ne (fun z => q (by rw [z]; exact h))]; exact e
  have ts : TS H (upd H a (.lst ys)) := Chg.ts Chg.upd ha
  obtain ⟨y, nt⟩ := j.nt
  exact ⟨⟨y, nt.keep (fun b o e q => oth b o e (by unfold netL at q; omega)) ts fun _ _ _ => rfl⟩, j.lw.keepT (j.lw.tape.keep (fun o e => oth _ _ e (by rw [j.lw.ltp]; decide)) (fun o e => oth _ _ e (by rw [j.lw.lts]; decide))) (fun b o e q _ _ => oth b o e (by unfold lawL at q; omega)) ts fun _ _ _ => rfl, j.len, j.ll, j.n⟩
end
end My

namespace My
open PySem L2
local macro_rules | `(tactic| walk_at "ne") => `(tactic| first | assumption | exact Ne.symm (by assumption) | exact ne_of_none (by assumption) (by assumption) | exact Ne.symm (ne_of_none (by assumption) (by assumption)))
local macro_rules | `(tactic| walk_at "hp") => `(tactic| first | assumption | with_reducible exact upd_same | (with_reducible refine Eq.trans (upd_ne ?_) ?_; rotate_left; walk_at "hp"; walk_at "ne"))
local macro_rules | `(tactic| walk_at "cnd") => `(tactic| first | omega | (show (0 : Int) < _; omega) | exact ⟨by omega, by omega⟩ | exact Or.inl ⟨by omega, by omega⟩ | exact Or.inr ⟨by omega, by omega⟩ | exact ⟨by omega, by omega, by decide⟩ | exact ⟨by omega, by omega, by omega⟩)
local macro_rules | `(tactic| walk_at "at") => `(tactic| first | exact atC 0 rfl rfl | exact atC 1 rfl rfl | exact atC 2 rfl rfl | exact atC 3 rfl rfl | exact atC 4 rfl rfl | exact atC 5 rfl rfl | exact atC 6 rfl rfl | exact atC 7 rfl rfl)
local macro_rules | `(tactic| walk_at "ix") => `(tactic| first | exact ixC 0 rfl (Nat.le_of_ble_eq_true rfl) | exact ixC 1 rfl (Nat.le_of_ble_eq_true rfl) | exact ixC 2 rfl (Nat.le_of_ble_eq_true rfl) | exact ixC 3 rfl (Nat.le_of_ble_eq_true rfl) | exact ixC 4 rfl (Nat.le_of_ble_eq_true rfl) | exact ixC 5 rfl (Nat.le_of_ble_eq_true rfl))
local macro_rules | `(tactic| walk_at "st") => `(tactic| first
  | refine ⟨_, rfl, ?_⟩
  | refine ⟨_, _, rfl, rfl, (by walk_at "cnd" : (_ : Prop)), ?_⟩
  | refine ⟨_, _, rfl, rfl, ?_⟩
  | refine ⟨rfl, ?_⟩
  | refine Or.inl ⟨_, rfl, ?_⟩
  | refine ⟨_, _, _, _, rfl, rfl, by exact SqL.of (by walk_at "hp"), by walk_at "at", ?_⟩
  | refine ⟨_, _, _, _, rfl, rfl, by exact SqT.of (by walk_at "hp"), by walk_at "at", ?_⟩
  | refine ⟨_, _, _, _, rfl, rfl, by walk_at "hp", by walk_at "ix", ?_⟩
  | refine ⟨_, _, rfl, Or.inl (by exact SqL.of (by walk_at "hp")), ?_⟩
  | refine ⟨_, _, rfl, Or.inr (by exact SqT.of (by walk_at "hp")), ?_⟩)
local macro_rules | `(tactic| walk_at "so") => `(tactic| first
  | refine ⟨_, _, _, _, _, rfl, by walk_at "hp", by assumption, by assumption, rfl, ?_⟩
  | refine ⟨_, _, _, _, rfl, by walk_at "hp", by assumption, by assumption, Nat.le_of_ble_eq_true rfl, ?_⟩
  | refine ⟨_, _, _, rfl, by walk_at "hp", rfl, ?_⟩
  | walk_at "st")
local macro_rules | `(tactic| walk_at "ro") => `(tactic| repeat walk_at "so")
local macro_rules | `(tactic| walk_at "run") => `(tactic| repeat walk_at "st")

def comeF (K : PySem.W.Frag) (C : Addr) (L : LA) (A : NA) (R : Regs) (E : List Ent) (last lost : Int) (N : Nat) (y : V) (q M : Addr) (ws : List Nat) : L2.St → Hp → Prop := fun σ H' => ∃ (ρ : Addr → Nat) (due : V) (v5 v6 v7 v8 v12 : Option V), σ = [some (.ref L.tp), some (.ref L.W), some (.ref A.x), some (.ref q), none, v5, v6, v7, v8, some (.ref M), none, some due, v12] ∧ NtOk K C H' ρ A R E last lost [] N y ∧ Dt H' (.ref q) (pD ws) ∧
  ((comeE E ws = none ∧ due = .non ∧ Lw H' ρ L R E last (lost + 1)) ∨ ∃ e, comeE E ws = some e ∧ due = .int e.nm ∧ Lw H' ρ L R (setRg E e.nm (e.rg ++ [ws])) last lost)
section
variable {P : Program} {w : World} {K : PySem.W.Frag} {mg : Str → Option Value} {base : Heap} {C_Net C_NotValid : Addr}{A_EMPTY : Addr}
abbrev s_law_come : Stmt := topS 44
abbrev ns_law_come : List Str := ["draws", "w", "net", "packet", "k", "names", "index", "mask", "value", "met", "name", "due", "rings"]
theorem sc_law_come : FnScope ns_law_come ["draws", "w", "net"] (defScope s_law_come) := ⟨rfl, rfl, rfl, by decide +kernel, rfl, by decide +kernel, by decide +kernel⟩

theorem ok_law_come {f : Addr} {fd : FuncData} (F : Fun K "_law_come" "_law_come" s_law_come f fd) (T : Txt K mg C_Net C_NotValid A_EMPTY) (D_law_draw : Dfn P w K mg base CX0 1 "_law_draw" ["draws", "many"] spNext) (D_law_meets : Dfn P w K mg base CX0 1 "_law_meets" ["rows", "packet"] (spLMeets K))
    (D_Net_come : Mth P w K mg base (L2.CX P w) 10 C_Net "come" ["self", "packet"] (spCome K C_Net)) : FnOk P w K mg base CX0 11 f fd ["draws", "w", "net"] (spStep K C_Net) := by
  have ho_Net := T.o_Net; have hn_Net__regions := T.n_Net__regions; have hn_Net__enrolled := T.n_Net__enrolled; have hn_Net__rings := T.n_Net__rings; have hn_Net__tree := T.n_Net__tree; have hn_Net__last_name := T.n_Net__last_name; have hn_Net__sent := T.n_Net__sent; have hn_Net__lost := T.n_Net__lost
  refine F.ok sc_law_come (fun vs H Q E h => ?_) (fun cdv A outer s H vs Q E hr h => ?_)
  · obtain ⟨ρ, L, A, R, N, E', last, lost, rfl, _⟩ := h
    rfl
  · obtain ⟨ρ, L, A', R, N, E', last, lost, rfl, j, hN, k⟩ := h
    refine ⟨_, (pss_cons (ps_set (i := 3) sc_law_come.nd rfl (Or.inr rfl) (pe_op op_cat (pe_lst (pa_cons (pe_dcall D_law_draw (hr.mono (by decide)) (by rfl) pass0 (pa_cons (pv 0) (pa_cons pe_int pa_nil))) pa_nil)) (pe_lc (own := [("k", 4)]) (by rfl) sc_law_come.nd (pi_range1 (by rfl) T.b_range (pa_cons pe_int pa_nil)) (blkOk_by (N := ns_law_come) (sc := defScope s_law_come) (by decide +kernel)) (fun _ _ _ _ _ => (pg_name (i := 4) sc_law_come.nd rfl (Or.inl rfl))) (fun _ _ _ _ _ => pts_nil) (fun _ _ _ _ _ => (pe_dcall D_law_draw (hr.mono (by decide)) (by rfl) pass0 (pa_cons (pv 0) (pa_cons pe_int pa_nil)))))))
  (C8.pss_cut (ps_if (PW.pt (pw_and (pt_cmpR op_gt (pe_callB call_lenD (by rfl) T.b_len (by decide +kernel) (pa_cons (pe_dget (units1 hr) (pv 1) pe_str (fun _ _ => rfl)) pa_nil)) pe_int (nomark _)) (pw_and1 (pt_cmpR op_gt (pe_dcall D_law_draw (hr.mono (by decide)) (by rfl) pass0 (pa_cons (pv 0) (pa_cons pe_int pa_nil))) pe_int (nomark _))))) (pss_cons (ps_set (i := 5) sc_law_come.nd rfl (Or.inl rfl) (pe_callB (call_sortedDO (by rfl)) (by rfl) T.b_sorted (by decide +kernel) (pa_cons (pe_dget (units1 hr) (pv 1) pe_str (fun _ _ => rfl)) pa_nil)))
  (pss_one (ps_for PassesOwn.never (by rfl) (kpiT K (pe_ix (kIxT K) (pe_dget (units1 hr) (pe_dget (units1 hr) (pv 1) pe_str (fun _ _ => rfl)) (pe_ix (kIxL K) (pv 5) (pe_dcall D_law_draw (hr.mono (by decide)) (by rfl) pass0 (pa_cons (pv 0) (pa_cons (pe_callB (kLen K) (by rfl) T.b_len (by decide +kernel) (pa_cons (pv 5) pa_nil)) pa_nil))) (fun _ _ => rfl)) (fun _ _ => rfl)) pe_int (fun _ _ => rfl))) (kpgT K (n := 3) (by rfl) (pgs_cons (pg_name (i := 6) sc_law_come.nd rfl (Or.inl rfl)) (pgs_cons (pg_name (i := 7) sc_law_come.nd rfl (Or.inl rfl)) (pgs_cons (pg_name (i := 8) sc_law_come.nd rfl (Or.inl rfl)) pgs_nil)))) (pss_one (ps_asg (pe_op op_or (pe_op op_and (pe_ix (kIxL K) (pv 3) (pv 6) (fun _ _ => rfl)) (pe_op op_xor (pv 7) pe_int)) (pv 8)) (pg_sub (pv 3) (pv 6) set_list)))))) pss_nil)
  (pss_cons (ps_set (i := 3) sc_law_come.nd rfl (Or.inr rfl) (pe_callTy (kTupOf K) (by rfl) T.b_tuple (by decide +kernel) (pa_cons (pv 3) pa_nil)))
  (pss_cons (ps_setLc (i := 9) (own := [("name", 10)]) (by rfl) sc_law_come.nd rfl rfl (sw_true rfl rfl rfl (by decide +kernel)) (kpiL K (pe_callB (call_sortedDO (by rfl)) (by rfl) T.b_sorted (by decide +kernel) (pa_cons (pe_dget (units1 hr) (pv 1) pe_str (fun _ _ => rfl)) pa_nil))) (blkOk_by (N := ns_law_come) (sc := defScope s_law_come) (by decide +kernel)) (fun _ _ _ _ _ => (pg_name (i := 10) sc_law_come.nd rfl (Or.inl rfl))) (fun _ _ _ _ _ => (pts_one (pt_val (pe_dcall D_law_meets (hr.mono (by decide)) (by rfl) pass0 (pa_cons (pe_ix (kIxT K) (pe_dget (units1 hr) (pe_dget (units1 hr) (pv 1) pe_str (fun _ _ => rfl)) (pv 10) (fun _ _ => rfl)) pe_int (fun _ _ => rfl)) (pa_cons (pv 3) pa_nil)))))) (fun _ _ _ _ _ => (pv 10)))
  (pss_cons (ps_set (i := 11) sc_law_come.nd rfl (Or.inl rfl) pe_non)
  (C8.pss_cut (ps_if (PW.pt (pw_and (pt_cmpR op_gt (pe_callB (kLen K) (by rfl) T.b_len (by decide +kernel) (pa_cons (pv 9) pa_nil)) pe_int (nomark _)) (pw_and1 (pt_cmpR op_lt (pe_callB (kLen K) (by rfl) T.b_len (by decide +kernel) (pa_cons (pe_dget (units1 hr) (pe_dget (units1 hr) (pv 1) pe_str (fun _ _ => rfl)) (pe_ix (kIxL K) (pv 9) pe_int (fun _ _ => rfl)) (fun _ _ => rfl)) pa_nil)) pe_int (nomark _))))) (pss_cons (ps_set (i := 11) sc_law_come.nd rfl (Or.inl rfl) (pe_ix (kIxL K) (pv 9) pe_int (fun _ _ => rfl)))
  (pss_cons (ps_set (i := 12) sc_law_come.nd rfl (Or.inl rfl) (pe_dget (units1 hr) (pv 1) pe_str (fun _ _ => rfl)))
  (pss_one (ps_dput (units1 hr) (pv 12) (pv 11) (pe_op op_cat (pe_dget (units1 hr) (pv 12) (pv 11) (fun _ _ => rfl)) (pe_lst (pa_cons (pv 3) pa_nil))) rfl)))) (pss_one (ps_dput (units1 hr) (pv 1) pe_str (pe_op op_add (pe_dget (units1 hr) (pv 1) pe_str (fun _ _ => rfl)) pe_int) rfl)))
  (pss_one (ps_ret (pe_cmpR (kEqD K hr.units) (pe_dmeth (pv 2) D_Net_come (hr.mono (by decide)) passL (pa_cons (pv 3) pa_nil)) (pv 11) (nomark _)))))))))), ?_⟩
    refine ⟨_, rfl, L.tp, L.ts, 64, rfl, by decide, by decide, j.lw.tape, fun x H1 x0 x64 t1 c1 => ?_⟩
    obtain ⟨xn, rfl⟩ := Int.eq_ofNat_of_zero_le x0
    have j1 := j.draw t1 c1
    refine ⟨szl rfl, fun l1 hl1 => ?_⟩
    have z1 := Same.new (o := .lst [.int (xn : Int)]) hl1
    have hx1 : (upd H1 l1 (.lst [.int (xn : Int)])) l1 = some (.lst [.int (xn : Int)]) := upd_same
    have nl1 := t1.at hl1
    have j2 := j1.same z1
    generalize upd H1 l1 (.lst [.int (xn : Int)]) = H2 at z1 hx1 j2
    clear j1 t1 c1 j
    refine ⟨5, rfl, by decide, by decide, fun D hD => ?_⟩
    have nD1 := j2.lw.tape.at hD
    have nD2 := j2.lw.tape.at2 hD
    refine lc_range (fun i H' => ∃ ws : List Nat, ws.length = i ∧ (∀ n ∈ ws, n < 4) ∧ H' D = some (.lst (ws.map vN)) ∧ Tape H' L.tp L.ts ∧ Chg L.tp H2 H') ?_ ?_ ?_
    · exact ⟨[], rfl, fun _ h => (by cases h), upd_same, j2.lw.tape.same (Same.new hD), Same.chg (Same.new hD)⟩
    · rintro i H3 hi ⟨ws, wl, w4, hd, t3, c3⟩
      refine ⟨rfl, _, rfl, L.tp, L.ts, 3, rfl, by decide, by decide, t3, fun m H4 m0 m3 t4 c4 => ?_⟩
      refine ⟨_, c4 D _ nD1 hd, szt (by rw [List.length_map, wl]; have : i < 5 := hi; omega), ws ++ [m.toNat], by simp [wl], ?_, ?_, t4.upd nD1 nD2, Chg.mut (c3.trans c4) hD⟩
      · intro n hn
        rcases List.mem_append.mp hn with q | q
        · exact w4 n q
        · rw [List.mem_singleton.mp q]; omega
      · rw [upd_same, List.map_append]
        show some (HO.lst (_ ++ [V.int m])) = some (HO.lst (_ ++ [V.int ((m.toNat : Nat) : Int)]))
        rw [Int.toNat_of_nonneg m0]
    rintro H3 ⟨ws, wl, w4, hd3, t3, c3⟩
    have j3 := j2.draw t3 c3
    have hx3 := c3 l1 _ nl1 hx1
    have wl5 : ws.length = 5 := wl
    refine ⟨l1, D, _, _, rfl, rfl, hx3, hd3, Nat.le_trans (by rw [List.length_map, wl5]; exact Nat.le_refl _) (show 6 ≤ sizeLine by decide), fun pk hpk => ?_⟩
    have z4 := Same.new (o := .lst ([.int (xn : Int)] ++ ws.map vN)) hpk
    have hp4 : (upd H3 pk (.lst ([.int (xn : Int)] ++ ws.map vN))) pk = some (.lst ((xn :: ws).map vN)) := upd_same
    have j4 : JB K C_Net (upd H3 pk (.lst ([.int (xn : Int)] ++ ws.map vN))) (fun b => if b = pk then 0 else ρ b) L A' R N E' last lost := j3.relab z4 fun b o e => if_neg (ne_of_none e hpk)
    have l4 : (fun b => if b = pk then 0 else ρ b) pk = 0 := if_pos rfl
    have p6 : (xn :: ws).length = 6 := by simp [wl5]
    have p32 : ∀ n ∈ xn :: ws, n < 2 ^ 32 := fun n hn => by
      rcases List.mem_cons.mp hn with rfl | q
      · omega
      · exact Nat.lt_trans (w4 n q) (by decide)
    generalize upd H3 pk (.lst ([.int (xn : Int)] ++ ws.map vN)) = H4 at hp4 j4
    generalize (fun b => if b = pk then 0 else ρ b) = ρ1 at j4 l4
    generalize xn :: ws = pks at hp4 p6 p32
    clear j3 z4 hx3 hd3 t3 c3 w4 wl wl5 j2 z1 hx1 hpk hD nD1 nD2 nl1 hl1 x0 x64 H3 H2
    refine ⟨fun σ H' => ∃ (v5 v6 v7 v8 : Option V) (ws : List Nat), σ = [some (.ref L.tp), some (.ref L.W), some (.ref A'.x), some (.ref pk), none, v5, v6, v7, v8, none, none, none, none] ∧ JB K C_Net H' ρ1 L A' R N E' last lost ∧ H' pk = some (.lst (ws.map vN)) ∧ ws.length = 6 ∧ ∀ n ∈ ws, n < 2 ^ 32, ?_, ?_⟩
    · obtain ⟨fk, hf, al⟩ := j4.lw.fs
      have out : ∀ H' (v5 : Option V), JB K C_Net H' ρ1 L A' R N E' last lost → H' pk = some (.lst (pks.map vN)) → ∃ (v5' v6 v7 v8 : Option V) (ws : List Nat), [some (.ref L.tp), some (.ref L.W), some (.ref A'.x), some (.ref pk), none, v5, none, none, none, none, none, none, none] = [some (.ref L.tp), some (.ref L.W), some (.ref A'.x), some (.ref pk), none, v5', v6, v7, v8, none, none, none, none] ∧ JB K C_Net H' ρ1 L A' R N E' last lost ∧ H' pk = some (.lst (ws.map vN)) ∧ ws.length = 6 ∧ ∀ n ∈ ws, n < 2 ^ 32 := fun H' v5 h1 h2 => ⟨_, _, _, _, pks, rfl, h1, h2, p6, p32⟩
      have npk : pk ≠ L.tp := ne_lab l4 j4.lw.ltp (by decide)
      refine ⟨_, rfl, L.W, _, rfl, w_filters j4.lw.w, L.Fd, fk, rfl, hf, _, _, rfl, rfl, _, rfl, ?_⟩
      refine iteD (fun hpos => ?_) (fun _ => iteF (out _ _ j4 hp4))
      refine ⟨_, rfl, L.tp, L.ts, 4, rfl, by decide, by decide, j4.lw.tape, fun m H5 m0 m4 t5 c5 => ?_⟩
      have j5 := j4.draw t5 c5
      have hp5 := c5 pk _ npk hp4
      refine ⟨_, _, rfl, rfl, _, rfl, ?_⟩
      refine iteD (fun _ => ?_) (fun _ => out _ _ j5 hp5)
      have hEpos : 0 < E'.length := by rw [← al.len]; omega
      clear j4 hp4 m0 m4 t5 c5 hf al hpos
      obtain ⟨y, nt⟩ := j5.nt
      obtain ⟨fk, hf, al⟩ := j5.lw.fs
      refine ⟨_, rfl, L.W, _, rfl, w_filters j5.lw.w, L.Fd, fk, E'.map (·.nm), rfl, .inl hf, al.keys, fun ys l hperm hsrt hl => ?_⟩
      have eys := asc_sorted nt.asc hperm hsrt
      subst eys
      have sl := Same.new (o := .lst ((E'.map (·.nm)).map V.int)) hl
      have hll : (upd H5 l (.lst ((E'.map (·.nm)).map V.int))) l = some (.lst ((E'.map (·.nm)).map V.int)) := upd_same
      have j6 := j5.same sl
      have hp6 := sl _ _ hp5
      have nl := j5.lw.tape.at hl
      generalize upd H5 l (.lst ((E'.map (·.nm)).map V.int)) = H6 at sl hll j6 hp6
      have elen : ((E'.map (·.nm)).map V.int).length = E'.length := by rw [List.length_map, List.length_map]
      have jlen := j6.len
      have jn := j6.n
      refine ⟨_, rfl, L.W, _, rfl, w_filters j6.lw.w, _, rfl, _, rfl, _, rfl, l, _, rfl, .inl (SqL.of hll), L.tp, L.ts, _, rfl, by rw [elen]; omega, by rw [elen]; omega, j6.lw.tape, fun z H7 z0 z1 t7 c7 => ?_⟩
      have j7 := j6.draw t7 c7
      have hp7 := c7 pk _ npk hp6
      have hll7 := c7 l _ nl hll
      rw [elen] at z1
      have hei : E'[z.toNat]? = some (E'[z.toNat]'(by omega)) := List.getElem?_eq_getElem (by omega)
      generalize E'[z.toNat]'(by omega) = e at hei
      have em := List.mem_of_getElem? hei
      have hnm : ((E'.map (·.nm)).map V.int)[z.toNat]? = some (.int e.nm) := by rw [List.getElem?_map, List.getElem?_map, hei]; rfl
      obtain ⟨fk7, hf7, al7⟩ := j7.lw.fs
      obtain ⟨v, hv, hdv⟩ := al7.some e.nm (findE_of nt.asc em)
      obtain ⟨t, u, rfl, ht, hu⟩ := ent_open hdv
      obtain ⟨ra, rxs, rfl, hra, hrl, hat⟩ := fD_open hu
      have ge := (nt.ent e em).2.2.1
      refine ⟨_, _, _, _, rfl, rfl, SqL.of hll7, atC z.toNat (by omega) hnm, L.Fd, _, rfl, dgetE hf7 hv, ?_⟩
      refine ⟨_, _, _, _, rfl, rfl, SqT.of ht, atC 1 rfl rfl, ra, rfl, ⟨_, SqT.of hra⟩, for_tup (xs := rxs) (fun i σ H' => ∃ (v6 v7 v8 : Option V) (ws : List Nat), σ = [some (.ref L.tp), some (.ref L.W), some (.ref A'.x), some (.ref pk), none, some (.ref l), v6, v7, v8, none, none, none, none] ∧ JB K C_Net H' ρ1 L A' R N E' last lost ∧ TS H7 H' ∧ H' pk = some (.lst (ws.map vN)) ∧ ws.length = 6 ∧ ∀ n ∈ ws, n < 2 ^ 32) ?_ ?_ ?_ ?_⟩
      · exact ⟨_, _, _, pks, rfl, j7, fun _ _ e => e, hp7, p6, p32⟩
      · rintro i σ H' _ ⟨_, _, _, _, _, _, ts, _⟩
        exact SqT.of (ts _ _ hra)
      · rintro i x σ H8 hi ⟨v6, v7, v8, ws, rfl, j8, ts8, hp8, wl, w32⟩
        obtain ⟨r, tr, hr1, rfl, htr⟩ := hat i x hi
        have htr8 := ts8 _ _ htr
        have gr := ge.2.1 r (List.mem_of_getElem? hr1)
        have hri : (ws.map vN)[r.1]? = some (.int (ws.getD r.1 0 : Nat)) := pk_get (by omega)
        refine ⟨_, _, rfl, SqT.of htr8, rfl, _, _, rfl, _, _, rfl, _, _, rfl, rfl, ?_⟩
        refine ⟨_, rfl, _, rfl, _, _, _, _, rfl, rfl, SqL.of hp8, atC r.1 rfl hri, _, rfl, _, _, rfl, rfl, _, _, rfl, rfl, _, rfl, _, _, rfl, rfl, ?_⟩
        refine ⟨_, rfl, _, rfl, pk, _, _, _, rfl, rfl, hp8, ixC r.1 rfl (by rw [List.length_map, wl]; omega), ?_⟩
        have ex : Builtin.bitXor (r.2.1 : Int) 4294967295 = ((r.2.1 ^^^ 4294967295 : Nat) : Int) := bitXor_nat r.2.1 4294967295
        have ev : Builtin.bitOr (Builtin.bitAnd ((ws.getD r.1 0 : Nat) : Int) (Builtin.bitXor (r.2.1 : Int) 4294967295)) (r.2.2 : Int) = (((ws.getD r.1 0 &&& (r.2.1 ^^^ 4294967295)) ||| r.2.2 : Nat) : Int) := by rw [ex, bitAnd_nat, bitOr_nat]
        have wi : ws.getD r.1 0 < 2 ^ 32 := by
          rw [List.getD_eq_getElem?_getD, List.getElem?_eq_getElem (show r.1 < ws.length by omega)]
          exact w32 _ (List.getElem_mem _)
        refine ⟨_, _, _, ws.set r.1 ((ws.getD r.1 0 &&& (r.2.1 ^^^ 4294967295)) ||| r.2.2), rfl, j8.free l4 hp8, ts8.trans (Chg.ts Chg.upd hp8), ?_, by simp [wl], fun n hn => ?_⟩
        · rw [upd_same]
          show some (HO.lst ((ws.map vN).set r.1 (V.int (Builtin.bitOr (Builtin.bitAnd _ (Builtin.bitXor _ _)) _)))) = _
          rw [ev, mapSet]
        · rcases List.mem_or_eq_of_mem_set hn with q | q
          · exact w32 n q
          · rw [q]; exact or_lt (Nat.lt_of_le_of_lt Nat.and_le_left wi) (and_le32 gr.2.2.2 gr.2.2.1)
      · rintro σ H8 ⟨v6, v7, v8, ws, rfl, j8, ts8, hp8, wl, w32⟩
        exact ⟨_, _, _, _, ws, rfl, j8, hp8, wl, w32⟩
    · rintro σ H5 ⟨v5, v6, v7, v8, ws, rfl, j5, hp5, wl, w32⟩
      refine ⟨_, rfl, _, _, rfl, .inl ⟨SqL.of hp5, fun q hq => ?_⟩⟩
      have s6 := Same.new (o := .tup (ws.map vN)) hq
      have j6 := j5.same s6
      have hpk : Dt (upd H5 q (.tup (ws.map vN))) (.ref q) (pD ws) := pD_mk upd_same
      generalize upd H5 q (.tup (ws.map vN)) = H6 at j6 hpk
      clear s6 hq hp5 j5 l4 j4 hp4 p6 p32
      obtain ⟨y, nt⟩ := j6.nt
      obtain ⟨fk, hf, al⟩ := j6.lw.fs
      have hE := j6.len
      have hn130 := j6.n
      refine ⟨_, rfl, L.W, _, rfl, w_filters j6.lw.w, L.Fd, fk, E'.map (·.nm), rfl, .inl hf, al.keys, fun ys l hperm hsrt hl => ?_⟩
      have eys := asc_sorted nt.asc hperm hsrt
      subst eys
      have sl := Same.new (o := .lst ((E'.map (·.nm)).map V.int)) hl
      have hll : (upd H6 l (.lst ((E'.map (·.nm)).map V.int))) l = some (.lst ((E'.map (·.nm)).map V.int)) := upd_same
      generalize upd H6 l (.lst ((E'.map (·.nm)).map V.int)) = H7 at sl hll
      refine ⟨l, rfl, ⟨_, SqL.of hll⟩, fun M hM => lc_list (xs := (E'.map (·.nm)).map V.int) (fun i H' => Same H7 H' ∧ H' M = some (.lst ((((E'.take i).filter fun e => meetsM e.ts ws).map (·.nm)).map V.int))) ?_ ?_ ?_ ?_⟩
      · exact ⟨Same.new hM, upd_same⟩
      · rintro i H' _ ⟨s, _⟩
        exact SqL.of (s _ _ hll)
      · rintro i x H8 hi ⟨s8, hM8⟩
        obtain ⟨nm, hnm, rfl⟩ := map_get hi
        obtain ⟨e, he, rfl⟩ := map_get hnm
        have em := List.mem_of_getElem? he
        obtain ⟨v, hv, hdv⟩ := al.some e.nm (findE_of nt.asc em)
        obtain ⟨t, u, rfl, ht, hu⟩ := ent_open hdv
        have s68 := sl.trans s8
        have flen : ((E'.take i).filter fun e => meetsM e.ts ws).length ≤ 130 := by
          have l2 := List.length_filter_le (fun e : Ent => meetsM e.ts ws) (E'.take i)
          have l3 := List.length_take_le' i E'
          omega
        refine ⟨rfl, _, rfl, L.W, _, rfl, w_filters (s68 _ _ j6.lw.w), _, rfl, L.Fd, _, rfl, dgetE (s68 _ _ hf) hv, ?_⟩
        refine ⟨_, _, _, _, rfl, rfl, SqT.of (s68 _ _ ht), atC 1 rfl rfl, _, rfl, u, .ref q, e.ts, ws, rfl, hu.same s68, hpk.same s68, wl, (nt.ent e em).2.2.1, fun H9 s9 => ⟨_, rfl, ?_⟩⟩
        have hM9 := s9 _ _ hM8
        refine iteB (fun z => ?_) (fun z => ?_)
        · refine ⟨_, rfl, _, hM9, szt (by rw [List.length_map, List.length_map]; omega), Same.mut (s8.trans s9) hM, ?_⟩
          rw [upd_same, ← take_snoc he, filter_snoc, if_pos z, List.map_append, List.map_append]; rfl
        · refine ⟨s8.trans s9, ?_⟩
          rw [← take_snoc he, filter_snoc, z, if_neg (by decide), List.append_nil]
          exact hM9
      rintro H8 ⟨s8, hM8⟩
      rw [show E'.take ((E'.map (·.nm)).map V.int).length = E' by rw [List.length_map, List.length_map, List.take_length]] at hM8
      have s68 := sl.trans s8
      have hpk8 := hpk.same s68
      have j8 := j6.same s68
      clear s8 sl s68 hll hl al hf nt hpk j6 hperm hsrt hM
      obtain ⟨y8, nt8⟩ := j8.nt
      have lw8 := j8.lw
      obtain ⟨ik, hi8, ali8⟩ := lw8.ri
      refine ⟨comeF K C_Net L A' R E' last lost N y8 q M ws, ?_, ?_⟩
      · have lostStep : comeE E' ws = none → ∀ σ : L2.St, (∃ (v5 v6 v7 v8 v12 : Option V), σ = [some (.ref L.tp), some (.ref L.W), some (.ref A'.x), some (.ref q), none, v5, v6, v7, v8, some (.ref M), none, some .non, v12]) → sDPut (tVar 1) (tC (.str "lost")) (tOp (rI0 fun i j => V.int (i + j)) (tDGet (tVar 1) (tC (.str "lost"))) (tC (.int 1)))
            ({ nx := comeF K C_Net L A' R E' last lost N y8 q M ws, rt := Q } : Ends) σ H8 := fun hc σ ⟨v5, v6, v7, v8, v12, hσ⟩ => by
          subst hσ
          have hw8 := lw8.w
          have dpl := DPut.k (k := (Sum.inr "lost" : L2.Key)) (v := .int (lost + 1)) hw8 (show (5 : Nat) < sizeLine by decide)
          rw [p_lost] at dpl
          refine ⟨_, rfl, L.W, _, rfl, w_lost hw8, _, _, rfl, rfl, _, rfl, L.W, _, rfl, dpl, ?_⟩
          obtain ⟨lw9, ts9, oth⟩ := lw8.lostOne (lost + 1)
          exact ⟨ρ1, .non, _, _, _, _, _, rfl, nt8.keep (fun b o e z => oth b o e (by unfold netL at z; omega)) ts9 (fun _ _ _ => rfl), hpk8.ts ts9 (pD_tonly _), .inl ⟨hc, rfl, lw9⟩⟩
        rcases find_filter (fun e : Ent => meetsM e.ts ws) E' with ⟨f1, f2⟩ | ⟨e, r, f1, f2⟩
        · have hc : comeE E' ws = none := by unfold comeE firstE; rw [f1]
          rw [f2] at hM8
          refine ⟨_, rfl, M, _, rfl, .inl (SqL.of hM8), _, _, rfl, rfl, _, rfl, ?_⟩
          refine iteD (fun h => absurd h (by decide)) (fun _ => iteF ?_)
          exact lostStep hc _ ⟨_, _, _, _, _, rfl⟩
        · rw [f2] at hM8
          have hm : e ∈ E' := List.mem_of_find?_eq_some f1
          have he := findE_of nt8.asc hm
          have hle := (nt8.ent e hm).2.2.2.2
          obtain ⟨v, hv, a, ps, rfl, ra, ha, hps⟩ := ali8.some e.nm he
          have plen : ps.length = e.rg.length := by rw [hps.len, List.length_map]
          refine ⟨_, rfl, M, _, rfl, .inl (SqL.of hM8), _, _, rfl, rfl, _, rfl, ?_⟩
          refine iteD (fun _ => ?_) (fun h => absurd (by simp) h)
          refine ⟨_, rfl, L.W, _, rfl, w_rings lw8.w, _, rfl, _, _, _, _, rfl, rfl, SqL.of hM8, atC 0 rfl rfl, L.Rd, _, rfl, dgetE hi8 hv, a, ps, rfl, .inl (SqL.of ha), _, _, rfl, rfl, _, rfl, ?_⟩
          refine iteD (fun h8 => ?_) (fun h8 => ?_)
          · have hc : comeE E' ws = some e := by unfold comeE firstE; rw [f1]; exact if_neg (by omega)
            refine ⟨_, rfl, _, _, _, _, rfl, rfl, SqL.of hM8, atC 0 rfl rfl, ?_⟩
            refine ⟨_, rfl, L.W, _, rfl, w_rings lw8.w, ?_⟩
            refine ⟨_, rfl, _, rfl, L.Rd, _, rfl, dgetE hi8 hv, _, rfl, szl rfl, fun l1 h1 => ?_⟩
            have x1 := Same.new (o := .lst [.ref q]) h1
            have hl1 : (upd H8 l1 (.lst [.ref q])) l1 = some (.lst [.ref q]) := upd_same
            generalize upd H8 l1 (.lst [.ref q]) = H9 at x1 hl1
            refine ⟨a, l1, _, _, rfl, rfl, x1 _ _ ha, hl1, Nat.le_trans (show ps.length + 1 ≤ 9 by omega) (show 9 ≤ sizeLine by decide), fun lr hlr => ?_⟩
            have x2 := Same.new (o := .lst (ps ++ [.ref q])) hlr
            have x12 := x1.trans x2
            have hlr10 : (upd H9 lr (.lst (ps ++ [.ref q]))) lr = some (.lst (ps ++ [.ref q])) := upd_same
            have j10 : JB K C_Net (upd H9 lr (.lst (ps ++ [.ref q]))) (fun b => if b = lr then 13 else ρ1 b) L A' R N E' last lost := j8.relab x12 fun b o e => if_neg (ne_of_none (x1 _ _ e) hlr)
            have l10 : (fun b => if b = lr then 13 else ρ1 b) lr = 13 := if_pos rfl
            have nt10 : NtOk K C_Net (upd H9 lr (.lst (ps ++ [.ref q]))) (fun b => if b = lr then 13 else ρ1 b) A' R E' last lost [] N y8 := nt8.keep (fun b o e _ => x12 b o e) (Same.ts x12) fun b o e => if_neg (ne_of_none (x1 _ _ e) hlr)
            have hpk10 := hpk8.same x12
            have hps10 := hps.same x12
            have hi10 := x12 _ _ hi8
            generalize upd H9 lr (.lst (ps ++ [.ref q])) = H10 at x2 x12 hlr10 j10 nt10 hpk10 hps10 hi10
            generalize (fun b => if b = lr then 13 else ρ1 b) = ρ10 at j10 l10 nt10
            have dp := DPut.k (k := (Sum.inl e.nm : L2.Key)) (v := .ref lr) hi10 (szt (by rw [ali8.len]; omega))
            refine ⟨_, rfl, _, rfl, L.Rd, _, rfl, dp, ?_⟩
            obtain ⟨lw11, ts11, oth⟩ := j10.lw.ring hi10 he (ps := ps ++ [.ref q]) (rg := e.rg ++ [ws]) hlr10 l10 (by rw [List.map_append]; exact DtAll.snoc hps10 hpk10)
            exact ⟨ρ10, .int e.nm, _, _, _, _, _, rfl, nt10.keep (fun b o e z => oth b o e (by unfold netL at z; omega)) ts11 (fun _ _ _ => rfl), hpk10.ts ts11 (pD_tonly _), .inr ⟨e, hc, rfl, lw11⟩⟩
          · have hc : comeE E' ws = none := by unfold comeE firstE; rw [f1]; exact if_pos (by omega)
            exact lostStep hc _ ⟨_, _, _, _, _, rfl⟩
      · rintro σ H9 ⟨ρ9, due, v5, v6, v7, v8, v12, rfl, nt9, hpk9, hcase⟩
        refine ⟨_, rfl, A'.x, A'.dx, _, rfl, nt9.ins, rfl, _, rfl, ρ9, A', R, E', last, lost, [], N, y8, .ref q, ws, rfl, nt9, hpk9, wl, w32, fun hc H10 nt10 nc ts10 => ?_, fun e hc H10 nt10 nc ts10 => ?_⟩
        · rcases hcase with ⟨_, rfl, lw9⟩ | ⟨e, hc', _⟩
          · refine ⟨_, rfl, .none, .none, .non, .non, (Sh.none 0).ok, (Sh.none 0).ok, ?_⟩
            rw [PySem.SeqAt.eqv_refl _ (Sh.none 0).1]
            exact k ρ9 H10 E' last (lost + 1) ⟨⟨_, nt10.more (Nat.le_succ N) (by omega)⟩, lw9.net nc ts10 fun _ _ _ => rfl, by omega, by have := j8.ll; omega, by omega⟩
          · rw [hc] at hc'; cases hc'
        · rcases hcase with ⟨hc', _⟩ | ⟨e', hc', rfl, lw9⟩
          · rw [hc] at hc'; cases hc'
          · rw [hc] at hc'
            cases hc'
            refine ⟨_, rfl, .int e.nm, .int e.nm, .int _, .int _, (Sh.int 0 _).ok, (Sh.int 0 _).ok, ?_⟩
            rw [PySem.SeqAt.eqv_refl _ (Sh.int 0 _).1]
            exact k ρ9 H10 _ last lost ⟨⟨_, nt10.more (Nat.le_succ N) (by omega)⟩, lw9.net nc ts10 fun _ _ _ => rfl, by unfold setRg; rw [List.length_map]; omega, by have := j8.ll; omega, by omega⟩
end
end My

namespace My
open PySem L2
local macro_rules | `(tactic| walk_at "ne") => `(tactic| first | assumption | exact Ne.symm (by assumption) | exact ne_of_none (by assumption) (by assumption) | exact Ne.symm (ne_of_none (by assumption) (by assumption)))
local macro_rules | `(tactic| walk_at "hp") => `(tactic| first | assumption | with_reducible exact upd_same | (with_reducible refine Eq.trans (upd_ne ?_) ?_; rotate_left; walk_at "hp"; walk_at "ne"))
local macro_rules | `(tactic| walk_at "cnd") => `(tactic| first | omega | (show (0 : Int) < _; omega) | exact ⟨by omega, by omega⟩ | exact Or.inl ⟨by omega, by omega⟩ | exact Or.inr ⟨by omega, by omega⟩ | exact ⟨by omega, by omega, by decide⟩ | exact ⟨by omega, by omega, by omega⟩)
local macro_rules | `(tactic| walk_at "at") => `(tactic| first | exact atC 0 rfl rfl | exact atC 1 rfl rfl | exact atC 2 rfl rfl | exact atC 3 rfl rfl | exact atC 4 rfl rfl | exact atC 5 rfl rfl | exact atC 6 rfl rfl | exact atC 7 rfl rfl)
local macro_rules | `(tactic| walk_at "ix") => `(tactic| first | exact ixC 0 rfl (Nat.le_of_ble_eq_true rfl) | exact ixC 1 rfl (Nat.le_of_ble_eq_true rfl) | exact ixC 2 rfl (Nat.le_of_ble_eq_true rfl) | exact ixC 3 rfl (Nat.le_of_ble_eq_true rfl) | exact ixC 4 rfl (Nat.le_of_ble_eq_true rfl) | exact ixC 5 rfl (Nat.le_of_ble_eq_true rfl))
local macro_rules | `(tactic| walk_at "st") => `(tactic| first
  | refine ⟨_, rfl, ?_⟩
  | refine ⟨_, _, rfl, rfl, (by walk_at "cnd" : (_ : Prop)), ?_⟩
  | refine ⟨_, _, rfl, rfl, ?_⟩
  | refine ⟨rfl, ?_⟩
  | refine Or.inl ⟨_, rfl, ?_⟩
  | refine ⟨_, _, _, _, rfl, rfl, by exact SqL.of (by walk_at "hp"), by walk_at "at", ?_⟩
  | refine ⟨_, _, _, _, rfl, rfl, by exact SqT.of (by walk_at "hp"), by walk_at "at", ?_⟩
  | refine ⟨_, _, _, _, rfl, rfl, by walk_at "hp", by walk_at "ix", ?_⟩
  | refine ⟨_, _, rfl, Or.inl (by exact SqL.of (by walk_at "hp")), ?_⟩
  | refine ⟨_, _, rfl, Or.inr (by exact SqT.of (by walk_at "hp")), ?_⟩)
local macro_rules | `(tactic| walk_at "so") => `(tactic| first
  | refine ⟨_, _, _, _, _, rfl, by walk_at "hp", by assumption, by assumption, rfl, ?_⟩
  | refine ⟨_, _, _, _, rfl, by walk_at "hp", by assumption, by assumption, Nat.le_of_ble_eq_true rfl, ?_⟩
  | refine ⟨_, _, _, rfl, by walk_at "hp", rfl, ?_⟩
  | walk_at "st")
local macro_rules | `(tactic| walk_at "ro") => `(tactic| repeat walk_at "so")
local macro_rules | `(tactic| walk_at "run") => `(tactic| repeat walk_at "st")

section
variable {K : PySem.W.Frag} {C : Addr} {H H' : Hp} {ρ ρ' : Addr → Nat} {L : LA} {A : NA} {R : Regs} {E E2 : List Ent} {made last lost : Int} {N : Nat} {y : V}
theorem Lw.drops (lw : Lw H ρ L R E made lost) {fk ik : List (L2.Key × V)} (hf : H L.Fd = some (.dK fk)) (hi : H L.Rd = some (.dK ik)) (n : Int) :
    Lw (upd (upd H L.Fd (.dK (dropK fk (Sum.inl n : L2.Key)))) L.Rd (.dK (dropK ik (Sum.inl n : L2.Key)))) ρ L R (withoutE E n) made lost ∧ TS H (upd (upd H L.Fd (.dK (dropK fk (Sum.inl n : L2.Key)))) L.Rd (.dK (dropK ik (Sum.inl n : L2.Key)))) ∧
    ∀ b o, H b = some o → ρ b ≠ 11 → ρ b ≠ 15 → (upd (upd H L.Fd (.dK (dropK fk (Sum.inl n : L2.Key)))) L.Rd (.dK (dropK ik (Sum.inl n : L2.Key)))) b = some o := by
  obtain ⟨fk', f1, alf⟩ := lw.fs
  rw [hf] at f1
  cases f1
  obtain ⟨ik', i1, ali⟩ := lw.ri
  rw [hi] at i1
  cases i1
  generalize eo : (HO.dK (dropK fk (Sum.inl n : L2.Key)) : HO) = o1
  generalize eo2 : (HO.dK (dropK ik (Sum.inl n : L2.Key)) : HO) = o2
  have nFR : L.Fd ≠ L.Rd := ne_lab lw.lFd lw.lRd (by decide)
  have oth : ∀ b o, H b = some o → ρ b ≠ 11 → ρ b ≠ 15 → (upd (upd H L.Fd o1) L.Rd o2) b = some o := fun b o e h1 h2 => by
    rw [upd_ne (fun z => h2 (by rw [z]; exact lw.lRd)), upd_ne (fun z => h1 (by rw [z]; exact lw.lFd))]; exact e
  have ts : TS H (upd (upd H L.Fd o1) L.Rd o2) := fun b xs e => by
    rw [upd_ne (ne_of e hi (by intro z; cases z)), upd_ne (ne_of e hf (by intro z; cases z))]; exact e
  obtain ⟨rv, r1, r2⟩ := lw.rg
  exact ⟨⟨lw.tape.keep (fun o e => oth _ _ e (by rw [lw.ltp]; decide) (by rw [lw.ltp]; decide)) (fun o e => oth _ _ e (by rw [lw.lts]; decide) (by rw [lw.lts]; decide)), oth _ _ lw.w (by rw [lw.lW]; decide) (by rw [lw.lW]; decide), ⟨rv, oth _ _ r1 (by rw [lw.lRg]; decide) (by rw [lw.lRg]; decide), r2.ts ts⟩,
    ⟨_, by rw [upd_ne nFR, ← eo]; exact upd_same, (alf.imp fun e v q => q.ts ts (entD_tonly e)).drop n⟩, ⟨_, by rw [← eo2]; exact upd_same, (ali.imp fun e v q => q.keep (fun b o e' l => oth b o e' (by rw [l]; decide) (by rw [l]; decide)) ts fun _ _ _ => rfl).drop n⟩, lw.ltp, lw.lts, lw.lRg, lw.lW, lw.lFd, lw.lRd⟩, ts, oth⟩
end
theorem due7_ok {K : PySem.W.Frag} {H : Hp} {ρ : Addr → Nat} {L : LA} {R : Regs} {E : List Ent} {made lost : Int} {n : Int} {ev : Nat} {σ : L2.St} {Q : VK} (lw : Lw H ρ L R E made lost) (h1 : σ[1]? = some (some (.ref L.W))) (h3 : σ[3]? = some (some (.int (ev : Int)))) (h4 : σ[4]? = some (some (.int n)))
    (q : Q (.bl (isMine E ev n)) H) : tAndV (tDIn (tVar 4) (tDGet (tVar 1) (tC (.str "filters")))) (tOp rEq (tOp (rIxT K) (tDGet (tDGet (tVar 1) (tC (.str "filters"))) (tVar 4)) (tC (.int 0))) (tVar 3)) σ H Q := by
  unfold isMine at q
  obtain ⟨fk, hf, al⟩ := lw.fs
  cases he : findE E n with
  | none =>
    rw [he] at q
    have dg := DGet.k (k := (Sum.inl n : L2.Key)) hf
    rw [al.none n he] at dg
    refine ⟨_, h4, _, h1, L.W, _, rfl, w_filters lw.w, L.Fd, _, rfl, dg, _, rfl, ?_⟩
    exact iteF q
  | some e =>
    rw [he] at q
    obtain ⟨v, hv, hdv⟩ := al.some n he
    obtain ⟨t, u, rfl, ht, hu⟩ := ent_open hdv
    refine ⟨_, h4, _, h1, L.W, _, rfl, w_filters lw.w, L.Fd, _, rfl, dgetE hf hv, _, rfl, ?_⟩
    refine iteT ?_
    refine ⟨_, h1, L.W, _, rfl, w_filters lw.w, _, h4, L.Fd, _, rfl, dgetE hf hv, ?_⟩
    refine ⟨_, _, _, _, rfl, rfl, SqT.of ht, atC 0 rfl rfl, _, h3, rfl, ?_⟩
    rw [intV]
    exact q
def takeF (K : PySem.W.Frag) (C : Addr) (L : LA) (A : NA) (R : Regs) (E : List Ent) (last lost : Int) (N : Nat) (y : V) (ev : Nat) (n : Int) : L2.St → Hp → Prop := fun σ H' => ∃ (ρ : Addr → Nat) (due v6 : V), σ = [some (.ref L.tp), some (.ref L.W), some (.ref A.x), some (.int (ev : Int)), some (.int n), some due, some v6] ∧ NtOk K C H' ρ A R E last lost [] N y ∧
  (((isMine E ev n = false ∨ ringE E n = []) ∧ due = .non ∧ Lw H' ρ L R E last lost) ∨ ∃ ws rest, isMine E ev n = true ∧ ringE E n = ws :: rest ∧ Dt H' due (pD ws) ∧ Lw H' ρ L R (setRg E n rest) last lost)
section
variable {P : Program} {w : World} {K : PySem.W.Frag} {mg : Str → Option Value} {base : Heap} {C_Net C_NotValid : Addr}{A_EMPTY : Addr}
abbrev s_law_taken : Stmt := topS 45
abbrev ns_law_taken : List Str := ["draws", "w", "net", "environment", "name", "due", "rings"]
theorem sc_law_taken : FnScope ns_law_taken ["draws", "w", "net"] (defScope s_law_taken) := ⟨rfl, rfl, rfl, by decide +kernel, rfl, by decide +kernel, by decide +kernel⟩

theorem ok_law_taken {f : Addr} {fd : FuncData} (F : Fun K "_law_taken" "_law_taken" s_law_taken f fd) (T : Txt K mg C_Net C_NotValid A_EMPTY) (D_law_draw : Dfn P w K mg base CX0 1 "_law_draw" ["draws", "many"] spNext) (D_Net_next : Mth P w K mg base CX0 6 C_Net "next" ["self", "environment", "name"] (spNextP K C_Net)) : FnOk P w K mg base CX0 7 f fd ["draws", "w", "net"] (spStep K C_Net) := by
  have ho_Net := T.o_Net; have hn_Net__regions := T.n_Net__regions; have hn_Net__enrolled := T.n_Net__enrolled; have hn_Net__rings := T.n_Net__rings; have hn_Net__tree := T.n_Net__tree; have hn_Net__last_name := T.n_Net__last_name; have hn_Net__sent := T.n_Net__sent; have hn_Net__lost := T.n_Net__lost
  refine F.ok sc_law_taken (fun vs H Q E h => ?_) (fun cdv A outer s H vs Q E hr h => ?_)
  · obtain ⟨ρ, L, A, R, N, E', last, lost, rfl, _⟩ := h
    rfl
  · obtain ⟨ρ, L, A', R, N, E', last, lost, rfl, j, hN, k⟩ := h
    refine ⟨_, (pss_cons (ps_set (i := 3) sc_law_taken.nd rfl (Or.inl rfl) (pe_dcall D_law_draw (hr.mono (by decide)) (by rfl) pass0 (pa_cons (pv 0) (pa_cons pe_int pa_nil))))
  (pss_cons (ps_set (i := 4) sc_law_taken.nd rfl (Or.inl rfl) (pe_op op_add pe_int (pe_dcall D_law_draw (hr.mono (by decide)) (by rfl) pass0 (pa_cons (pv 0) (pa_cons (pe_op op_add (pe_dget (units1 hr) (pv 1) pe_str (fun _ _ => rfl)) pe_int) pa_nil)))))
  (pss_cons (ps_set (i := 5) sc_law_taken.nd rfl (Or.inl rfl) pe_non)
  (pss_cons (ps_set (i := 6) sc_law_taken.nd rfl (Or.inl rfl) (pe_dget (units1 hr) (pv 1) pe_str (fun _ _ => rfl)))
  (C8.pss_cut (ps_if (PW.pt (pw_and (pt_cmp (pc_din (units1 hr) (pv 4) (pv 6))) (pw_and (pt_cmpR op_eq (pe_ix (kIxT K) (pe_dget (units1 hr) (pe_dget (units1 hr) (pv 1) pe_str (fun _ _ => rfl)) (pv 4) (fun _ _ => rfl)) pe_int (fun _ _ => rfl)) (pv 3) (nomark _)) (pw_and1 (pt_cmpR op_gt (pe_callB (kLen K) (by rfl) T.b_len (by decide +kernel) (pa_cons (pe_dget (units1 hr) (pv 6) (pv 4) (fun _ _ => rfl)) pa_nil)) pe_int (nomark _)))))) (pss_cons (ps_set (i := 5) sc_law_taken.nd rfl (Or.inl rfl) (pe_ix (kIxL K) (pe_dget (units1 hr) (pv 6) (pv 4) (fun _ _ => rfl)) pe_int (fun _ _ => rfl)))
  (pss_one (ps_dput (units1 hr) (pv 6) (pv 4) (pe_slice (kSlL K) (pe_dget (units1 hr) (pv 6) (pv 4) (fun _ _ => rfl)) (po_some pe_int) po_none) rfl))) pss_nil)
  (pss_one (ps_ret (pe_cmpR (kEqD K hr.units) (pe_dmeth (pv 2) D_Net_next (hr.mono (by decide)) pass0 (pa_cons (pv 3) (pa_cons (pv 4) pa_nil))) (pv 5) (nomark _))))))))), ?_⟩
    refine ⟨_, rfl, L.tp, L.ts, 4, rfl, by decide, by decide, j.lw.tape, fun evv H1 e0 e4 t1 c1 => ?_⟩
    obtain ⟨ev, rfl⟩ := Int.eq_ofNat_of_zero_le e0
    have j1 := j.draw t1 c1
    have ev4 : ev < 4 := by omega
    have l0 : 0 ≤ last := by obtain ⟨y, nt⟩ := j.nt; exact nt.l0
    have lN := j.ll
    refine ⟨_, rfl, _, rfl, L.W, _, rfl, w_made j1.lw.w, _, _, rfl, rfl, L.tp, L.ts, last + 2, rfl, by omega, by omega, t1, fun z H2 z0 z8 t2 c2 => ?_⟩
    have j2 := j1.draw t2 c2
    clear j1 t1 c1 t2 c2 j
    obtain ⟨y, nt⟩ := j2.nt
    obtain ⟨ik, hi, ali⟩ := j2.lw.ri
    obtain ⟨fk, hf, alf⟩ := j2.lw.fs
    have hw := j2.lw.w
    refine ⟨_, _, rfl, rfl, ?_⟩
    refine ⟨_, rfl, L.W, _, rfl, w_rings hw, ?_⟩
    refine ⟨takeF K C_Net L A' R E' last lost N y ev (1 + z), ?_, ?_⟩
    · have no : (isMine E' ev (1 + z) = false ∨ ringE E' (1 + z) = []) → takeF K C_Net L A' R E' last lost N y ev (1 + z) [some (V.ref L.tp), some (V.ref L.W), some (V.ref A'.x), some (V.int (ev : Int)), some (V.int (1 + z)), some V.non, some (V.ref L.Rd)] H2 := fun h => ⟨ρ, .non, _, rfl, nt, .inl ⟨h, rfl, j2.lw⟩⟩
      cases he : findE E' (1 + z) with
      | none =>
        have hm : isMine E' ev (1 + z) = false := by unfold isMine; rw [he]
        have dg := DGet.k (k := (Sum.inl (1 + z) : L2.Key)) hi
        rw [ali.none (1 + z) he] at dg
        refine ⟨_, rfl, _, rfl, L.Rd, _, rfl, dg, _, rfl, ?_⟩
        exact iteF (no (.inl hm))
      | some e =>
        obtain ⟨m1, m2⟩ := findE_mem he
        obtain ⟨v, hv, a, ps, rfl, ra, ha, hps⟩ := ali.some (1 + z) he
        obtain ⟨v2, hv2, hdv⟩ := alf.some (1 + z) he
        obtain ⟨t, u, rfl, ht, hu⟩ := ent_open hdv
        have er := ringE_some he
        refine ⟨_, rfl, _, rfl, L.Rd, _, rfl, dgetE hi hv, _, rfl, ?_⟩
        refine iteT ?_
        refine ⟨_, rfl, L.W, _, rfl, w_filters hw, _, rfl, L.Fd, _, rfl, dgetE hf hv2, ?_⟩
        refine ⟨_, _, _, _, rfl, rfl, SqT.of ht, atC 0 rfl rfl, _, rfl, rfl, _, rfl, ?_⟩
        rw [intV]
        refine iteD (fun e4' => ?_) (fun e4' => ?_)
        · have hm : isMine E' ev (1 + z) = true := by unfold isMine; rw [he]; exact decide_eq_true e4'
          refine ⟨_, rfl, _, rfl, L.Rd, _, rfl, dgetE hi hv, a, ps, rfl, .inl (SqL.of ha), _, _, rfl, rfl, _, rfl, ?_⟩
          cases erg : e.rg with
          | nil =>
            rw [erg] at hps
            cases hps
            refine iteD (fun h => absurd h (by decide)) (fun _ => no (.inr (by rw [er, erg])))
          | cons ws rest =>
            rw [erg] at hps
            cases hps with
            | @cons p0 ps0 _ _ h0 hrest =>
              refine iteD (fun _ => ?_) (fun h => absurd (by simp) h)
              refine ⟨_, rfl, _, rfl, L.Rd, _, rfl, dgetE hi hv, ?_⟩
              refine ⟨_, _, _, _, rfl, rfl, SqL.of ha, atC 0 rfl rfl, ?_⟩
              refine ⟨_, rfl, _, rfl, L.Rd, _, rfl, dgetE hi hv, _, rfl, a, _, rfl, SqL.of ha, fun lr hlr => ?_⟩
              have x2 := Same.new (o := .lst (cutV (p0 :: ps0) (some 1) none)) hlr
              have hl2 : (upd H2 lr (.lst (cutV (p0 :: ps0) (some 1) none))) lr = some (.lst ps0) := by rw [upd_same, show (1 : Int) = ((1 : Nat) : Int) from rfl, cut_drop]; rfl
              have j10 : JB K C_Net (upd H2 lr (.lst (cutV (p0 :: ps0) (some 1) none))) (fun b => if b = lr then 13 else ρ b) L A' R N E' last lost := j2.relab x2 fun b o e => if_neg (ne_of_none e hlr)
              have l10 : (fun b => if b = lr then 13 else ρ b) lr = 13 := if_pos rfl
              have nt10 : NtOk K C_Net (upd H2 lr (.lst (cutV (p0 :: ps0) (some 1) none))) (fun b => if b = lr then 13 else ρ b) A' R E' last lost [] N y := nt.keep (fun b o e _ => x2 b o e) (Same.ts x2) fun b o e => if_neg (ne_of_none e hlr)
              have hi10 := x2 _ _ hi
              have hr10 := hrest.same x2
              have h010 := h0.same x2
              generalize upd H2 lr (.lst (cutV (p0 :: ps0) (some 1) none)) = H10 at x2 hl2 j10 nt10 hi10 hr10 h010
              generalize (fun b => if b = lr then 13 else ρ b) = ρ10 at j10 l10 nt10
              have dp := DPut.k (k := (Sum.inl (1 + z) : L2.Key)) (v := .ref lr) hi10 (szt (by rw [ali.len]; have := j2.len; have := j2.n; omega))
              refine ⟨_, rfl, _, rfl, L.Rd, _, rfl, dp, ?_⟩
              obtain ⟨lw11, ts11, oth⟩ := j10.lw.ring hi10 he (ps := ps0) (rg := rest) hl2 l10 hr10
              exact ⟨ρ10, p0, _, rfl, nt10.keep (fun b o e z => oth b o e (by unfold netL at z; omega)) ts11 (fun _ _ _ => rfl), .inr ⟨ws, rest, hm, by rw [er, erg], h010.ts ts11 (pD_tonly _), lw11⟩⟩
        · have hm : isMine E' ev (1 + z) = false := by unfold isMine; rw [he]; exact decide_eq_false e4'
          exact iteF (no (.inl hm))
    · rintro σ H5 ⟨ρ5, due, v6, rfl, nt5, hcase⟩
      refine ⟨_, rfl, A'.x, A'.dx, _, rfl, nt5.ins, rfl, _, rfl, _, rfl, ρ5, A', R, E', last, lost, [], N, y, (1 + z), ev, rfl, ev4, nt5, fun hno => ?_, fun ws rest v H6 hm hr6 nt6 nc ts6 hv6 => ?_⟩
      · rcases hcase with ⟨_, rfl, lw5⟩ | ⟨ws, rest, hm, hrr, _⟩
        · refine ⟨_, rfl, .none, .none, .non, .non, (Sh.none 0).ok, (Sh.none 0).ok, ?_⟩
          rw [PySem.SeqAt.eqv_refl _ (Sh.none 0).1]
          exact k ρ5 H5 E' last lost (JB.more ⟨⟨_, nt5⟩, lw5, j2.len, j2.ll, j2.n⟩ hN)
        · rcases hno with q | q
          · rw [hm] at q; cases q
          · rw [hrr] at q; cases q
      · rcases hcase with ⟨q, _⟩ | ⟨ws', rest', hm', hrr, hdue, lw5⟩
        · rcases q with q | q
          · rw [hm] at q; cases q
          · rw [hr6] at q; cases q
        · rw [hr6] at hrr
          cases hrr
          refine ⟨_, rfl, pD ws, pD ws, hv6.dp, (hdue.ts ts6 (pD_tonly _)).dp, (pD_sh1 ws).ok (by decide), (pD_sh1 ws).ok (by decide), ?_⟩
          rw [PySem.SeqAt.eqv_refl _ (pD_sh1 ws).1]
          exact k ρ5 H6 _ last lost (JB.more ⟨⟨_, nt6⟩, lw5.net nc ts6 fun _ _ _ => rfl, by unfold setRg; rw [List.length_map]; exact j2.len, j2.ll, j2.n⟩ hN)
abbrev s_law_given_up : Stmt := topS 46
abbrev ns_law_given_up : List Str := ["draws", "w", "net", "environment", "name", "due"]
theorem sc_law_given_up : FnScope ns_law_given_up ["draws", "w", "net"] (defScope s_law_given_up) := ⟨rfl, rfl, rfl, by decide +kernel, rfl, by decide +kernel, by decide +kernel⟩

theorem ok_law_given_up {f : Addr} {fd : FuncData} (F : Fun K "_law_given_up" "_law_given_up" s_law_given_up f fd) (T : Txt K mg C_Net C_NotValid A_EMPTY) (D_law_draw : Dfn P w K mg base CX0 1 "_law_draw" ["draws", "many"] spNext) (D_Net_give_up : Mth P w K mg base CX0 10 C_Net "give_up" ["self", "environment", "name"] (spGive K C_Net)) : FnOk P w K mg base CX0 11 f fd ["draws", "w", "net"] (spStep K C_Net) := by
  have ho_Net := T.o_Net; have hn_Net__regions := T.n_Net__regions; have hn_Net__enrolled := T.n_Net__enrolled; have hn_Net__rings := T.n_Net__rings; have hn_Net__tree := T.n_Net__tree; have hn_Net__last_name := T.n_Net__last_name; have hn_Net__sent := T.n_Net__sent; have hn_Net__lost := T.n_Net__lost
  refine F.ok sc_law_given_up (fun vs H Q E h => ?_) (fun cdv A outer s H vs Q E hr h => ?_)
  · obtain ⟨ρ, L, A, R, N, E', last, lost, rfl, _⟩ := h
    rfl
  · obtain ⟨ρ, L, A', R, N, E', last, lost, rfl, j, hN, k⟩ := h
    refine ⟨_, (pss_cons (ps_set (i := 3) sc_law_given_up.nd rfl (Or.inl rfl) (pe_dcall D_law_draw (hr.mono (by decide)) (by rfl) pass0 (pa_cons (pv 0) (pa_cons pe_int pa_nil))))
  (pss_cons (ps_set (i := 4) sc_law_given_up.nd rfl (Or.inl rfl) (pe_op op_add pe_int (pe_dcall D_law_draw (hr.mono (by decide)) (by rfl) pass0 (pa_cons (pv 0) (pa_cons (pe_op op_add (pe_dget (units1 hr) (pv 1) pe_str (fun _ _ => rfl)) pe_int) pa_nil)))))
  (pss_cons (ps_set (i := 5) sc_law_given_up.nd rfl (Or.inl rfl) (pe_and (pe_cmp (pc_din (units1 hr) (pv 4) (pe_dget (units1 hr) (pv 1) pe_str (fun _ _ => rfl)))) (pe_one (pe_cmpR op_eq (pe_ix (kIxT K) (pe_dget (units1 hr) (pe_dget (units1 hr) (pv 1) pe_str (fun _ _ => rfl)) (pv 4) (fun _ _ => rfl)) pe_int (fun _ _ => rfl)) (pv 3) (nomark _)))))
  (C8.pss_cut (ps_if (pt_val (pv 5)) (pss_cons (ps_expr (pe_dpop1 (pe_dget (units1 hr) (pv 1) pe_str (fun _ _ => rfl)) (pv 4) ⟨rfl, rfl, rfl, rfl⟩))
  (pss_one (ps_expr (pe_dpop1 (pe_dget (units1 hr) (pv 1) pe_str (fun _ _ => rfl)) (pv 4) ⟨rfl, rfl, rfl, rfl⟩)))) pss_nil)
  (pss_one (ps_ret (pe_cmpR op_eq (pe_dmeth (pv 2) D_Net_give_up (hr.mono (by decide)) pass0 (pa_cons (pv 3) (pa_cons (pv 4) pa_nil))) (pv 5) (nomark _)))))))), ?_⟩
    refine ⟨_, rfl, L.tp, L.ts, 4, rfl, by decide, by decide, j.lw.tape, fun evv H1 e0 e4 t1 c1 => ?_⟩
    obtain ⟨ev, rfl⟩ := Int.eq_ofNat_of_zero_le e0
    have j1 := j.draw t1 c1
    have ev4 : ev < 4 := by omega
    have l0 : 0 ≤ last := by obtain ⟨y, nt⟩ := j.nt; exact nt.l0
    have lN := j.ll
    refine ⟨_, rfl, _, rfl, L.W, _, rfl, w_made j1.lw.w, _, _, rfl, rfl, L.tp, L.ts, last + 2, rfl, by omega, by omega, t1, fun z H2 z0 z8 t2 c2 => ?_⟩
    have j2 := j1.draw t2 c2
    clear j1 t1 c1 t2 c2 j
    obtain ⟨y, nt⟩ := j2.nt
    obtain ⟨ik, hi, ali⟩ := j2.lw.ri
    obtain ⟨fk, hf, alf⟩ := j2.lw.fs
    have hw := j2.lw.w
    refine ⟨_, _, rfl, rfl, ?_⟩
    refine due7_ok (n := 1 + z) (ev := ev) j2.lw rfl rfl rfl ?_
    refine ⟨fun σ H' => σ = [some (.ref L.tp), some (.ref L.W), some (.ref A'.x), some (.int (ev : Int)), some (.int (1 + z)), some (.bl (isMine E' ev (1 + z)))] ∧ NtOk K C_Net H' ρ A' R E' last lost [] N y ∧ Lw H' ρ L R (if isMine E' ev (1 + z) = true then withoutE E' (1 + z) else E') last lost, ?_, ?_⟩
    · refine ⟨_, rfl, _, rfl, ?_⟩
      cases hm : isMine E' ev (1 + z) with
      | false => exact iteF ⟨rfl, nt, by rw [if_neg Bool.false_ne_true]; exact j2.lw⟩
      | true =>
        refine iteT ?_
        obtain ⟨e, he⟩ : ∃ e, findE E' (1 + z) = some e := by
          unfold isMine at hm
          cases he : findE E' (1 + z) with
          | none => rw [he] at hm; cases hm
          | some e => exact ⟨e, rfl⟩
        obtain ⟨v1, hv1, _⟩ := alf.some (1 + z) he
        obtain ⟨v2, hv2, _⟩ := ali.some (1 + z) he
        have nFR : L.Rd ≠ L.Fd := ne_lab j2.lw.lRd j2.lw.lFd (by decide)
        have nWF : L.W ≠ L.Fd := ne_lab j2.lw.lW j2.lw.lFd (by decide)
        obtain ⟨lw5, ts5, oth⟩ := j2.lw.drops hf hi (1 + z)
        refine ⟨_, rfl, L.W, _, rfl, w_filters hw, L.Fd, rfl, .inl ⟨fk, .inl hf⟩, _, rfl, fk, Sum.inl (1 + z), v1, hf, rfl, hv1, ?_⟩
        have hw3 : (upd H2 L.Fd (.dK (dropK fk (Sum.inl (1 + z) : L2.Key)))) L.W = some (.dK (wK L last lost)) := by rw [upd_ne nWF]; exact hw
        have hi3 : (upd H2 L.Fd (.dK (dropK fk (Sum.inl (1 + z) : L2.Key)))) L.Rd = some (.dK ik) := by rw [upd_ne nFR]; exact hi
        refine ⟨_, rfl, L.W, _, rfl, w_rings hw3, L.Rd, rfl, .inl ⟨ik, .inl hi3⟩, _, rfl, ik, Sum.inl (1 + z), v2, hi3, rfl, hv2, ?_⟩
        exact ⟨rfl, nt.keep (fun b o e q => oth b o e (by unfold netL at q; omega) (by unfold netL at q; omega)) ts5 (fun _ _ _ => rfl), by rw [if_pos rfl]; exact lw5⟩
    · rintro σ H5 ⟨rfl, nt5, lw5⟩
      have hE := j2.len
      have hn := j2.n
      refine ⟨_, rfl, A'.x, A'.dx, _, rfl, nt5.ins, rfl, _, rfl, _, rfl, ρ, A', R, E', last, lost, [], N, y, 1 + z, ev, rfl, ev4, nt5, by omega, fun hm => ?_, fun hm y' I6 nt6 nc ts6 => ?_⟩
      · rw [hm, if_neg Bool.false_ne_true] at lw5
        refine ⟨_, rfl, rfl, ?_⟩
        rw [decide_eq_true (by rw [hm])]
        exact k ρ H5 E' last lost ⟨⟨_, nt5.more (Nat.le_succ N) (by omega)⟩, lw5, by omega, by omega, by omega⟩
      · rw [hm, if_pos rfl] at lw5
        refine ⟨_, rfl, rfl, ?_⟩
        rw [decide_eq_true (by rw [hm])]
        refine k ρ I6 (withoutE E' (1 + z)) last lost ⟨⟨_, nt6⟩, lw5.net nc ts6 fun _ _ _ => rfl, ?_, by omega, by omega⟩
        have := List.length_filter_le (fun e : Ent => decide (e.nm ≠ 1 + z)) E'
        unfold withoutE
        omega
end
end My

namespace My
open PySem L2
local macro_rules | `(tactic| walk_at "ne") => `(tactic| first | assumption | exact Ne.symm (by assumption) | exact ne_of_none (by assumption) (by assumption) | exact Ne.symm (ne_of_none (by assumption) (by assumption)))
local macro_rules | `(tactic| walk_at "hp") => `(tactic| first | assumption | with_reducible exact upd_same | (with_reducible refine Eq.trans (upd_ne ?_) ?_; rotate_left; walk_at "hp"; walk_at "ne"))
local macro_rules | `(tactic| walk_at "cnd") => `(tactic| first | omega | (show (0 : Int) < _; omega) | exact ⟨by omega, by omega⟩ | exact Or.inl ⟨by omega, by omega⟩ | exact Or.inr ⟨by omega, by omega⟩ | exact ⟨by omega, by omega, by decide⟩ | exact ⟨by omega, by omega, by omega⟩)
local macro_rules | `(tactic| walk_at "at") => `(tactic| first | exact atC 0 rfl rfl | exact atC 1 rfl rfl | exact atC 2 rfl rfl | exact atC 3 rfl rfl | exact atC 4 rfl rfl | exact atC 5 rfl rfl | exact atC 6 rfl rfl | exact atC 7 rfl rfl)
local macro_rules | `(tactic| walk_at "ix") => `(tactic| first | exact ixC 0 rfl (Nat.le_of_ble_eq_true rfl) | exact ixC 1 rfl (Nat.le_of_ble_eq_true rfl) | exact ixC 2 rfl (Nat.le_of_ble_eq_true rfl) | exact ixC 3 rfl (Nat.le_of_ble_eq_true rfl) | exact ixC 4 rfl (Nat.le_of_ble_eq_true rfl) | exact ixC 5 rfl (Nat.le_of_ble_eq_true rfl))
local macro_rules | `(tactic| walk_at "st") => `(tactic| first
  | refine ⟨_, rfl, ?_⟩
  | refine ⟨_, _, rfl, rfl, (by walk_at "cnd" : (_ : Prop)), ?_⟩
  | refine ⟨_, _, rfl, rfl, ?_⟩
  | refine ⟨rfl, ?_⟩
  | refine Or.inl ⟨_, rfl, ?_⟩
  | refine ⟨_, _, _, _, rfl, rfl, by exact SqL.of (by walk_at "hp"), by walk_at "at", ?_⟩
  | refine ⟨_, _, _, _, rfl, rfl, by exact SqT.of (by walk_at "hp"), by walk_at "at", ?_⟩
  | refine ⟨_, _, _, _, rfl, rfl, by walk_at "hp", by walk_at "ix", ?_⟩
  | refine ⟨_, _, rfl, Or.inl (by exact SqL.of (by walk_at "hp")), ?_⟩
  | refine ⟨_, _, rfl, Or.inr (by exact SqT.of (by walk_at "hp")), ?_⟩)
local macro_rules | `(tactic| walk_at "so") => `(tactic| first
  | refine ⟨_, _, _, _, _, rfl, by walk_at "hp", by assumption, by assumption, rfl, ?_⟩
  | refine ⟨_, _, _, _, rfl, by walk_at "hp", by assumption, by assumption, Nat.le_of_ble_eq_true rfl, ?_⟩
  | refine ⟨_, _, _, rfl, by walk_at "hp", rfl, ?_⟩
  | walk_at "st")
local macro_rules | `(tactic| walk_at "ro") => `(tactic| repeat walk_at "so")
local macro_rules | `(tactic| walk_at "run") => `(tactic| repeat walk_at "st")

theorem RegsV.nil (H : Hp) : RegsV H [] [] := ⟨rfl, fun j r e => by simp at e⟩
theorem RegsV.snoc {H : Hp} {vs : List V} {R : Regs} {v : V} {r : Option (List Row3)} (h : RegsV H vs R) (hv : (r = none ∧ v = .non) ∨ ∃ p, r = some p ∧ Dt H v (fD p)) : RegsV H (vs ++ [v]) (R ++ [r]) := ⟨by simp [h.len], fun j r' e => by
  rcases Nat.lt_or_ge j R.length with l | l
  · rw [List.getElem?_append_left l] at e
    obtain ⟨v', a, b⟩ := h.at_ j r' e
    exact ⟨v', by rw [List.getElem?_append_left (by rw [h.len]; exact l)]; exact a, b⟩
  · rw [List.getElem?_append_right l] at e
    have e0 : j - R.length = 0 := by
      rcases Nat.eq_zero_or_pos (j - R.length) with z | z
      · exact z
      · rw [List.getElem?_eq_none (by simp; omega)] at e; cases e
    rw [e0] at e
    cases e
    refine ⟨v, ?_, hv⟩
    rw [List.getElem?_append_right (by rw [h.len]; exact l), h.len, e0]; rfl⟩
structure Nd (H : Hp) (l : List Addr) : Prop where
  nd : l.Nodup
  al : ∀ b ∈ l, ∃ o, H b = some o
theorem Nd.new {H : Hp} {l : List Addr} {a : Addr} {o : HO} (h : Nd H l) (ha : H a = none) : Nd (upd H a o) (a :: l) := ⟨List.nodup_cons.mpr ⟨fun q => (by
    obtain ⟨o, e⟩ := h.al a q
    rw [ha] at e
    cases e), h.nd⟩, fun b hb => by
  rcases List.mem_cons.mp hb with rfl | q
  · exact ⟨_, upd_same⟩
  · obtain ⟨o', e⟩ := h.al b q
    exact ⟨o', Same.new ha _ _ e⟩⟩
theorem Nd.same {H H' : Hp} {l : List Addr} (h : Nd H l) (s : Same H H') : Nd H' l := ⟨h.nd, fun b hb => by
  obtain ⟨o, e⟩ := h.al b hb
  exact ⟨o, s _ _ e⟩⟩
theorem Nd.chg {H H' : Hp} {l : List Addr} {a : Addr} (h : Nd H l) (c : Chg a H H') (ha : ∃ o, H' a = some o) : Nd H' l := ⟨h.nd, fun b hb => by
  obtain ⟨o, e⟩ := h.al b hb
  by_cases q : b = a
  · rw [q]; exact ha
  · exact ⟨o, c _ _ q e⟩⟩
theorem nd_app {H : Hp} {x : Addr} {l1 l2 : List Addr} (h1 : (x :: l1).Nodup) (h2 : Nd H (x :: l2)) (hf : ∀ b ∈ l1, H b = none) : (x :: (l1 ++ l2)).Nodup := by
  obtain ⟨a1, a2⟩ := List.nodup_cons.mp h1
  obtain ⟨b1, b2⟩ := List.nodup_cons.mp h2.nd
  refine List.nodup_cons.mpr ⟨fun q => ?_, List.pairwise_append.mpr ⟨a2, b2, fun a ha b hb e => ?_⟩⟩
  · rcases List.mem_append.mp q with q | q
    · exact a1 q
    · exact b1 q
  · subst e
    obtain ⟨o, eo⟩ := h2.al a (List.mem_cons_of_mem _ hb)
    rw [hf a ha] at eo
    cases eo
theorem intI (a b : Int) : decide (V.int a = V.int b) = decide (a = b) := decide_eq_decide.mpr ⟨fun h => by injection h, fun h => by rw [h]⟩
def lb : List Addr → List Nat → Addr → Nat
  | a :: as, n :: ns, b => if b = a then n else lb as ns b
  | _, _, _ => 0
theorem lb_at : ∀ {l : List Addr} {ns : List Nat} {i : Nat} {a : Addr} {n : Nat}, l.Nodup → l[i]? = some a → ns[i]? = some n → lb l ns a = n
  | [], _, i, _, _, _, h, _ => by simp at h
  | _ :: _, [], i, _, _, _, _, h => by simp at h
  | x :: l, m :: ns, 0, a, n, _, h1, h2 => by
    cases h1; cases h2
    exact if_pos rfl
  | x :: l, m :: ns, i + 1, a, n, hd, h1, h2 => by
    have h1' : l[i]? = some a := by simpa using h1
    have h2' : ns[i]? = some n := by simpa using h2
    obtain ⟨d1, d2⟩ := List.nodup_cons.mp hd
    show (if a = x then m else lb l ns a) = n
    rw [if_neg (fun z => d1 (by rw [← z]; exact List.mem_of_getElem? h1'))]
    exact lb_at d2 h1' h2'
def rowsD (E : List Ent) : PyData := .list (E.map fun e => .tuple [.int e.nm, .int e.ev, fD e.ts])
theorem rows_ton (l : List Ent) : tonlyAll (l.map fun e => PyData.tuple [.int e.nm, .int e.ev, fD e.ts]) = true := by
  induction l with
  | nil => rfl
  | cons e l ih =>
    rw [List.map_cons]
    unfold tonlyAll
    rw [ih, Bool.and_true]
    show tonlyAll [.int e.nm, .int e.ev, fD e.ts] = true
    unfold tonlyAll
    rw [show tonly (.int e.nm) = true from rfl]
    unfold tonlyAll
    rw [show tonly (.int (e.ev : Int)) = true from rfl]
    unfold tonlyAll
    rw [fD_tonly]; rfl
theorem fD_sh (p : List Row3) : Sh 2 (fD p) := Sh.tup (n := 1) fun d hd => by
  obtain ⟨r, _, rfl⟩ := List.mem_map.mp hd
  exact Sh.tup (n := 0) fun d hd => by
    simp only [List.mem_cons, List.not_mem_nil, or_false] at hd
    rcases hd with rfl | rfl | rfl <;> exact Sh.int _ _
theorem rowsD_sh (E : List Ent) : Sh 4 (rowsD E) := Sh.lst (n := 3) fun d hd => by
  obtain ⟨e, _, rfl⟩ := List.mem_map.mp hd
  refine Sh.tup (n := 2) fun d hd => ?_
  simp only [List.mem_cons, List.not_mem_nil, or_false] at hd
  rcases hd with rfl | rfl | rfl
  · exact Sh.int _ _
  · exact Sh.int _ _
  · exact fD_sh _
theorem pksD_sh (l : List (List Nat)) : Sh 2 (.list (l.map pD)) := Sh.lst (n := 1) fun d hd => by
  obtain ⟨ws, _, rfl⟩ := List.mem_map.mp hd
  exact Sh.tup (n := 0) fun d hd => by obtain ⟨nn, _, rfl⟩ := List.mem_map.mp hd; exact Sh.int _ _
theorem good_of {x y : Nat} (hx : x < 4) (hy : y < 4) (a b : Bool) : Good ((if a then [(0, 3, x)] else []) ++ (if b then [(1, 15, y)] else [])) := by
  have gx : ∀ x : Nat, x < 4 → x &&& 3 = x := by decide
  have gy : ∀ x : Nat, x < 4 → x &&& 15 = x := by decide
  refine ⟨?_, ?_, ?_⟩
  · cases a <;> cases b <;> simp
  · cases a <;> cases b <;> simp [gx x hx, gy y hy]
  · cases a <;> cases b <;> simp

def R0 : Regs := (List.range 4).map fun j => some [(0, 3, j)]
theorem R0_ok : RegOk R0 := fun r hr p hp => by
  unfold R0 at hr
  obtain ⟨j, hj, rfl⟩ := List.mem_map.mp hr
  cases hp
  have := List.mem_range.mp hj
  exact good_of (x := j) (y := 0) (by omega) (by decide) true false
theorem R0_set (i : Nat) : RegOk (R0.set i none) := fun r hr p hp => by
  rcases List.mem_or_eq_of_mem_set hr with q | q
  · exact R0_ok r q p hp
  · rw [q] at hp; cases hp
theorem R0_are : areR R0 = true := by decide
theorem R0_sare : ∀ i < 4, areR (R0.set i none) = true := by decide
theorem RegsV.setNon {H : Hp} {vs : List V} {R : Regs} (h : RegsV H vs R) (i : Nat) : RegsV H (vs.set i .non) (R.set i none) := ⟨by simp [h.len], fun j r e => by
  by_cases q : i = j
  · subst q
    have hl : i < R.length := by
      have := (List.getElem?_eq_some_iff.mp e).1
      simpa using this
    rw [List.getElem?_set_self hl] at e
    cases e
    exact ⟨.non, List.getElem?_set_self (by rw [h.len]; exact hl), .inl ⟨rfl, rfl⟩⟩
  · rw [List.getElem?_set_ne q] at e
    obtain ⟨v, a, b⟩ := h.at_ j r e
    exact ⟨v, by rw [List.getElem?_set_ne q]; exact a, b⟩⟩
theorem RegsV.upd {H : Hp} {vs : List V} {R : Regs} {D : Addr} {xs ys : List V} (h : RegsV H vs R) (hd : H D = some (.lst xs)) : RegsV (upd H D (.lst ys)) vs R := h.ts (Chg.ts Chg.upd hd)
theorem wK_merge (L : LA) : mergeK [] (wK L 0 0) = wK L 0 0 := by
  rw [mergeK_new _ _ ?_]; rfl
  show ([Sum.inr ("regions" : Str), Sum.inr ("filters" : Str), Sum.inr ("rings" : Str), Sum.inr ("made" : Str), Sum.inr ("lost" : Str)] : List L2.Key).Nodup
  decide +kernel
end My

namespace My
open PySem L2
local macro_rules | `(tactic| walk_at "ne") => `(tactic| first | assumption | exact Ne.symm (by assumption) | exact ne_of_none (by assumption) (by assumption) | exact Ne.symm (ne_of_none (by assumption) (by assumption)))
local macro_rules | `(tactic| walk_at "hp") => `(tactic| first | assumption | with_reducible exact upd_same | (with_reducible refine Eq.trans (upd_ne ?_) ?_; rotate_left; walk_at "hp"; walk_at "ne"))
local macro_rules | `(tactic| walk_at "cnd") => `(tactic| first | omega | (show (0 : Int) < _; omega) | exact ⟨by omega, by omega⟩ | exact Or.inl ⟨by omega, by omega⟩ | exact Or.inr ⟨by omega, by omega⟩ | exact ⟨by omega, by omega, by decide⟩ | exact ⟨by omega, by omega, by omega⟩)
local macro_rules | `(tactic| walk_at "at") => `(tactic| first | exact atC 0 rfl rfl | exact atC 1 rfl rfl | exact atC 2 rfl rfl | exact atC 3 rfl rfl | exact atC 4 rfl rfl | exact atC 5 rfl rfl | exact atC 6 rfl rfl | exact atC 7 rfl rfl)
local macro_rules | `(tactic| walk_at "ix") => `(tactic| first | exact ixC 0 rfl (Nat.le_of_ble_eq_true rfl) | exact ixC 1 rfl (Nat.le_of_ble_eq_true rfl) | exact ixC 2 rfl (Nat.le_of_ble_eq_true rfl) | exact ixC 3 rfl (Nat.le_of_ble_eq_true rfl) | exact ixC 4 rfl (Nat.le_of_ble_eq_true rfl) | exact ixC 5 rfl (Nat.le_of_ble_eq_true rfl))
local macro_rules | `(tactic| walk_at "st") => `(tactic| first
  | refine ⟨_, rfl, ?_⟩
  | refine ⟨_, _, rfl, rfl, (by walk_at "cnd" : (_ : Prop)), ?_⟩
  | refine ⟨_, _, rfl, rfl, ?_⟩
  | refine ⟨rfl, ?_⟩
  | refine Or.inl ⟨_, rfl, ?_⟩
  | refine ⟨_, _, _, _, rfl, rfl, by exact SqL.of (by walk_at "hp"), by walk_at "at", ?_⟩
  | refine ⟨_, _, _, _, rfl, rfl, by exact SqT.of (by walk_at "hp"), by walk_at "at", ?_⟩
  | refine ⟨_, _, _, _, rfl, rfl, by walk_at "hp", by walk_at "ix", ?_⟩
  | refine ⟨_, _, rfl, Or.inl (by exact SqL.of (by walk_at "hp")), ?_⟩
  | refine ⟨_, _, rfl, Or.inr (by exact SqT.of (by walk_at "hp")), ?_⟩)
local macro_rules | `(tactic| walk_at "so") => `(tactic| first
  | refine ⟨_, _, _, _, _, rfl, by walk_at "hp", by assumption, by assumption, rfl, ?_⟩
  | refine ⟨_, _, _, _, rfl, by walk_at "hp", by assumption, by assumption, Nat.le_of_ble_eq_true rfl, ?_⟩
  | refine ⟨_, _, _, rfl, by walk_at "hp", rfl, ?_⟩
  | walk_at "st")
local macro_rules | `(tactic| walk_at "ro") => `(tactic| repeat walk_at "so")
local macro_rules | `(tactic| walk_at "run") => `(tactic| repeat walk_at "st")

def spLaw (K : PySem.W.Frag) : Sp := fun vs H Q _ => ∃ (a : Addr) (ns : List Int), vs = [.ref a] ∧ SqL K H a (ns.map V.int) ∧ ∀ H', Q (.bl true) H'
section
variable {P : Program} {w : World} {K : PySem.W.Frag} {mg : Str → Option Value} {base : Heap} {C_Net C_NotValid : Addr}{A_EMPTY : Addr}
abbrev s_law : Stmt := topS 47
abbrev ns_law : List Str := ["script", "draws", "regions", "one", "net", "w", "turn", "kind", "good", "name"]
theorem sc_law : FnScope ns_law ["script"] (defScope s_law) := ⟨rfl, rfl, rfl, by decide +kernel, rfl, by decide +kernel, by decide +kernel⟩

theorem ok_law {f : Addr} {fd : FuncData} (F : Fun K "law" "law" s_law f fd) (T : Txt K mg C_Net C_NotValid A_EMPTY) (D_law_draws : Dfn P w K mg base CX0 1 "_law_draws" ["script"] (spDraws K)) (D_law_draw : Dfn P w K mg base CX0 1 "_law_draw" ["draws", "many"] spNext) (M_Net : Mkr P w K mg base (L2.CX P w) 7 "Net" C_Net ["self", "regions"] (spInitN K C_Net C_NotValid))
    (D_law_enrolled : Dfn P w K mg base CX0 11 "_law_enrolled" ["draws", "w", "net"] (spStep K C_Net)) (D_law_come : Dfn P w K mg base CX0 11 "_law_come" ["draws", "w", "net"] (spStep K C_Net)) (D_law_taken : Dfn P w K mg base CX0 7 "_law_taken" ["draws", "w", "net"] (spStep K C_Net)) (D_law_given_up : Dfn P w K mg base CX0 11 "_law_given_up" ["draws", "w", "net"] (spStep K C_Net))
    (D_Net_filters : Mth P w K mg base CX0 1 C_Net "filters" ["self"] (spFilters K C_Net)) (D_Net_lost : Mth P w K mg base CX0 1 C_Net "lost" ["self"] (spLost K C_Net)) (D_Net_ring : Mth P w K mg base CX0 3 C_Net "ring" ["self", "name"] (spRing K C_Net)) : FnOk P w K mg base CX0 12 f fd ["script"] (spLaw K) := by
  have ho_Net := T.o_Net; have hn_Net__regions := T.n_Net__regions; have hn_Net__enrolled := T.n_Net__enrolled; have hn_Net__rings := T.n_Net__rings; have hn_Net__tree := T.n_Net__tree; have hn_Net__last_name := T.n_Net__last_name; have hn_Net__sent := T.n_Net__sent; have hn_Net__lost := T.n_Net__lost
  refine F.ok sc_law (fun vs H Q E h => ?_) (fun cdv A outer s H vs Q E hr h => ?_)
  · obtain ⟨a, ns, rfl, _⟩ := h
    rfl
  · obtain ⟨a, ns, rfl, hS, k⟩ := h
    refine ⟨_, (pss_cons (ps_set (i := 1) sc_law.nd rfl (Or.inl rfl) (pe_dcall D_law_draws (hr.mono (by decide)) (by rfl) pass0 (pa_cons (pv 0) pa_nil)))
  (pss_cons (ps_setLc (i := 2) (own := [("one", 3)]) (by rfl) sc_law.nd rfl rfl (sw_true rfl rfl rfl (by decide +kernel)) (pi_range1 (by rfl) T.b_range (pa_cons pe_int pa_nil)) (blkOk_by (N := ns_law) (sc := defScope s_law) (by decide +kernel)) (fun _ _ _ _ _ => (pg_name (i := 3) sc_law.nd rfl (Or.inl rfl))) (fun _ _ _ _ _ => pts_nil) (fun _ _ _ _ _ => (pe_tup (pa_cons (pe_tup (pa_cons pe_int (pa_cons pe_int (pa_cons (pv 3) pa_nil)))) pa_nil))))
  (C8.pss_cut (ps_if (pt_cmpR op_eq (pe_dcall D_law_draw (hr.mono (by decide)) (by rfl) pass0 (pa_cons (pv 1) (pa_cons pe_int pa_nil))) pe_int (nomark _)) (pss_one (ps_asg pe_non (pg_sub (pv 2) (pe_dcall D_law_draw (hr.mono (by decide)) (by rfl) pass0 (pa_cons (pv 1) (pa_cons pe_int pa_nil))) set_list))) pss_nil)
  (pss_cons (ps_set (i := 4) sc_law.nd rfl (Or.inr rfl) (pe_dmake M_Net (hr.mono (by decide)) (by rfl) passL (pa_cons (pe_callTy (kListOf K) (by rfl) T.b_list (by decide +kernel) (pa_cons (pv 2) pa_nil)) pa_nil)))
  (pss_cons (ps_set (i := 5) sc_law.nd rfl (Or.inr rfl) (pe_disp (pps_cons pe_str (pv 2) (pps_cons pe_str pe_dnewK (pps_cons pe_str pe_dnewK (pps_cons pe_str pe_int (pps_cons pe_str pe_int pps_nil))))) (by rfl) (by rfl) (by intro z; cases z) (by decide)))
  (pss_cons (ps_for PassesOwn.never (by rfl) (pi_range1 (by rfl) T.b_range (pa_cons (pe_op op_add pe_int (pe_dcall D_law_draw (hr.mono (by decide)) (by rfl) pass0 (pa_cons (pv 1) (pa_cons pe_int pa_nil)))) pa_nil)) (pg_name (i := 6) sc_law.nd rfl (Or.inl rfl)) (pss_cons (ps_set (i := 7) sc_law.nd rfl (Or.inl rfl) (pe_dcall D_law_draw (hr.mono (by decide)) (by rfl) pass0 (pa_cons (pv 1) (pa_cons pe_int pa_nil))))
  (C8.pss_cut (ps_if (PW.pt (pw_or (pt_cmpR op_lt (pv 7) pe_int (nomark _)) (pw_or1 (pt_cmpR op_lt (pv 6) pe_int (nomark _))))) (pss_one (ps_set (i := 8) sc_law.nd rfl (Or.inl rfl) (pe_dcall D_law_enrolled (hr.mono (by decide)) (by rfl) pass0 (pa_cons (pv 1) (pa_cons (pv 5) (pa_cons (pv 4) pa_nil)))))) (pss_one (ps_if (pt_cmpR op_lt (pv 7) pe_int (nomark _)) (pss_one (ps_set (i := 8) sc_law.nd rfl (Or.inl rfl) (pe_dcall D_law_come (hr.mono (by decide)) (by rfl) pass0 (pa_cons (pv 1) (pa_cons (pv 5) (pa_cons (pv 4) pa_nil)))))) (pss_one (ps_if (pt_cmpR op_lt (pv 7) pe_int (nomark _)) (pss_one (ps_set (i := 8) sc_law.nd rfl (Or.inl rfl) (pe_dcall D_law_taken (hr.mono (by decide)) (by rfl) pass0 (pa_cons (pv 1) (pa_cons (pv 5) (pa_cons (pv 4) pa_nil)))))) (pss_one (ps_set (i := 8) sc_law.nd rfl (Or.inl rfl) (pe_dcall D_law_given_up (hr.mono (by decide)) (by rfl) pass0 (pa_cons (pv 1) (pa_cons (pv 5) (pa_cons (pv 4) pa_nil)))))))))))
  (pss_one (ps_if (pt_not (pt_val (pv 8))) (pss_one (ps_ret pe_bl)) pss_nil)))))
  (pss_cons (ps_if (PW.pt (pw_or (pt_cmpR (kNeD K hr.units) (pe_dmeth0 (pv 4) D_Net_filters (hr.mono (by decide)) pass0 ) (pe_lc (own := [("name", 9)]) (by rfl) sc_law.nd (kpiL K (pe_callB (call_sortedDO (by rfl)) (by rfl) T.b_sorted (by decide +kernel) (pa_cons (pe_dget (units1 hr) (pv 5) pe_str (fun _ _ => rfl)) pa_nil))) (blkOk_by (N := ns_law) (sc := defScope s_law) (by decide +kernel)) (fun _ _ _ _ _ => (pg_name (i := 9) sc_law.nd rfl (Or.inl rfl))) (fun _ _ _ _ _ => pts_nil) (fun _ _ _ _ _ => (pe_op (kCatT K) (pe_tup (pa_cons (pv 9) pa_nil)) (pe_dget (units1 hr) (pe_dget (units1 hr) (pv 5) pe_str (fun _ _ => rfl)) (pv 9) (fun _ _ => rfl))))) (nomark _)) (pw_or1 (pt_cmpR op_ne (pe_dmeth0 (pv 4) D_Net_lost (hr.mono (by decide)) pass0 ) (pe_dget (units1 hr) (pv 5) pe_str (fun _ _ => rfl)) (nomark _))))) (pss_one (ps_ret pe_bl)) pss_nil)
  (pss_one (ps_ret (pe_cmpR op_eq (pe_callB (kLen K) (by rfl) T.b_len (by decide +kernel) (pa_cons (pe_lc (own := [("name", 9)]) (by rfl) sc_law.nd (pi_range2 (by rfl) T.b_range (pa_cons pe_int (pa_cons (pe_op op_add (pe_dget (units1 hr) (pv 5) pe_str (fun _ _ => rfl)) pe_int) pa_nil))) (blkOk_by (N := ns_law) (sc := defScope s_law) (by decide +kernel)) (fun _ _ _ _ _ => (pg_name (i := 9) sc_law.nd rfl (Or.inl rfl))) (fun _ _ _ _ _ => (pts_one (pt_cmpR (kNeD K hr.units) (pe_dmeth (pv 4) D_Net_ring (hr.mono (by decide)) pass0 (pa_cons (pv 9) pa_nil)) (pe_dget2 (units1 hr) (pe_dget (units1 hr) (pv 5) pe_str (fun _ _ => rfl)) (pv 9) (pe_lst pa_nil) ⟨rfl, rfl, rfl, rfl⟩) (nomark _)))) (fun _ _ _ _ _ => (pv 9))) pa_nil)) pe_int (nomark _))))))))))), ?_⟩
    refine ⟨_, rfl, a, ns, rfl, hS, fun tp p G0 ntp htp hp T0 => ?_⟩
    have nd0 : Nd G0 [tp, p] := by
      obtain ⟨o1, o2, e1, e2⟩ := T0.al
      refine ⟨by simp [ntp], fun b hb => ?_⟩
      simp only [List.mem_cons, List.not_mem_nil, or_false] at hb
      rcases hb with rfl | rfl
      · exact ⟨_, e1⟩
      · exact ⟨_, e2⟩
    refine ⟨4, rfl, by decide, by decide, fun D hD => ?_⟩
    have nD1 := T0.at hD
    have nD2 := T0.at2 hD
    refine lc_range (fun i H' => ∃ (vs : List V), H' D = some (.lst vs) ∧ RegsV H' vs (R0.take i) ∧ vs.length = i ∧ Tape H' tp p ∧ Nd H' [D, tp, p]) ?_ ?_ ?_
    · exact ⟨[], upd_same, RegsV.nil _, rfl, T0.same (Same.new hD), nd0.new hD⟩
    · rintro i H1 hi ⟨vs, hd, hrv, vl, t1, nd1⟩
      have hi4 : i < 4 := hi
      refine ⟨rfl, _, rfl, szl rfl, fun q1 h1 => ⟨szl rfl, fun q2 h2 => ?_⟩⟩
      have z1 := Same.new (o := .tup [.int 0, .int 3, .int (0 + (i : Int))]) h1
      have z2 := Same.new (o := .tup [.ref q1]) h2
      have hq1 := z2 _ _ (upd_same : (upd H1 q1 (.tup [.int 0, .int 3, .int (0 + (i : Int))])) q1 = some (.tup [.int 0, .int 3, .int (0 + (i : Int))]))
      have hq2 : (upd (upd H1 q1 (.tup [.int 0, .int 3, .int (0 + (i : Int))])) q2 (.tup [.ref q1])) q2 = some (.tup [.ref q1]) := upd_same
      have zz := z1.trans z2
      generalize upd (upd H1 q1 (.tup [.int 0, .int 3, .int (0 + (i : Int))])) q2 (.tup [.ref q1]) = H3 at zz hq1 hq2
      have hd3 := zz _ _ hd
      have hp3 : Dt H3 (.ref q2) (fD [(0, 3, i)]) := by
        rw [show (0 : Int) + (i : Int) = ((i : Nat) : Int) by omega] at hq1
        exact .tup (xs := [.ref q1]) hq2 (.cons (.tup (xs := [.int 0, .int 3, .int (i : Int)]) hq1 (.cons (.int _) (.cons (.int _) (.cons (.int _) .nil)))) .nil)
      refine ⟨_, hd3, szt (by omega), vs ++ [.ref q2], upd_same, ?_, by simp [vl], (t1.same zz).upd nD1 nD2, (nd1.same zz).chg Chg.upd ⟨_, upd_same⟩⟩
      have er : R0[i]? = some (some [(0, 3, i)]) := by
        unfold R0
        rw [List.getElem?_map, List.getElem?_range hi4]; rfl
      rw [← take_snoc er]
      exact ((hrv.ts (Same.ts zz)).snoc (.inr ⟨_, rfl, hp3⟩)).upd hd3
    rintro H1 ⟨vs, hd, hrv, vl, t1, nd1⟩
    have vl4 : vs.length = 4 := vl
    have hrv1 : RegsV H1 vs R0 := hrv
    clear hrv vl
    refine ⟨fun σ H' => σ = [some (.ref a), some (.ref tp), some (.ref D), none, none, none, none, none, none, none] ∧ ∃ (vs : List V) (R : Regs), H' D = some (.lst vs) ∧ RegsV H' vs R ∧ RegOk R ∧ areR R = true ∧ R.length = 4 ∧ Tape H' tp p ∧ Nd H' [D, tp, p], ?_, ?_⟩
    · refine ⟨_, rfl, tp, p, 2, rfl, by decide, by decide, t1, fun m H2 m0 m2 t2 c2 => ?_⟩
      have hd2 := c2 D _ nD1 hd
      have hrv2 := hrv1.ts (t1.ts c2)
      have nd2 := nd1.chg c2 (by obtain ⟨_, e⟩ := t2.lst; exact ⟨_, e⟩)
      refine ⟨rfl, _, rfl, ?_⟩
      rw [intI]
      refine iteD (fun _ => ?_) (fun _ => ⟨rfl, vs, R0, hd2, hrv2, R0_ok, R0_are, rfl, t2, nd2⟩)
      refine ⟨_, rfl, _, rfl, tp, p, 4, rfl, by decide, by decide, t2, fun z H3 z0 z4 t3 c3 => ?_⟩
      obtain ⟨zn, rfl⟩ := Int.eq_ofNat_of_zero_le z0
      have hd3 := c3 D _ nD1 hd2
      have hrv3 := hrv2.ts (t2.ts c3)
      have nd3 := nd2.chg c3 (by obtain ⟨_, e⟩ := t3.lst; exact ⟨_, e⟩)
      refine ⟨D, _, _, _, rfl, rfl, hd3, ixC zn rfl (by omega), ?_⟩
      exact ⟨rfl, vs.set zn .non, R0.set zn none, upd_same, (hrv3.setNon zn).upd hd3, R0_set zn, R0_sare zn (by omega), by simp; rfl, t3.upd nD1 nD2, nd3.chg Chg.upd ⟨_, upd_same⟩⟩
    rintro σ H2 ⟨rfl, vs, R, hd2, hrv2, hok, har, hR4, t2, nd2⟩
    clear hrv1 hd t1 nd1 vl4 nd0
    refine ⟨_, rfl, _, _, rfl, .inl (SqL.of hd2), fun l hl => fun x dx hx hdx ne => ?_⟩
    have z1 := Same.new (o := .lst vs) hl
    have z2 := Same.new (o := .own x) hdx
    have hx2 : (upd (upd H2 l (.lst vs)) dx (.own x)) x = none := by rw [upd_ne ne.symm]; exact hx
    have z3 := Same.new (o := .ins C_Net dx []) hx2
    have nd3 := ((nd2.same z1).same z2).new (o := .ins C_Net dx []) hx2
    have hl3 := z3 _ _ (z2 _ _ (upd_same : (upd H2 l (.lst vs)) l = some (.lst vs)))
    have hx3 : (upd (upd (upd H2 l (.lst vs)) dx (.own x)) x (.ins C_Net dx [])) x = some (.ins C_Net dx []) := upd_same
    have zz := (z1.trans z2).trans z3
    generalize upd (upd (upd H2 l (.lst vs)) dx (.own x)) x (.ins C_Net dx []) = H3 at nd3 hl3 hx3 zz
    have hrv3 := hrv2.ts (Same.ts zz)
    refine ⟨x, dx, l, vs, R, rfl, hx3, hl3, hrv3, hok, by omega, fun z => (by rw [har] at z; cases z), fun _ A' y H4 hAx hAd hnd hfr hnt c4 => ⟨rfl, ?_⟩⟩
    subst hAx
    subst hAd
    have ndl := nd_app (l1 := [A'.De, A'.Dr, A'.Ls, A'.Lr]) hnd nd3 hfr
    have ts4 := c4.ts' hx3
    have nx : ∀ b ∈ [D, tp, p], b ≠ A'.x := fun b hb e => (List.nodup_cons.mp nd3.nd).1 (by rw [← e]; exact hb)
    have hd4 := c4 D _ (nx D (by simp)) (zz _ _ hd2)
    have t4 := (t2.same zz).keep (fun o e => c4 _ _ (nx tp (by simp)) e) (fun o e => c4 _ _ (nx p (by simp)) e)
    have hrv4 := hrv3.ts ts4
    have nd4 : Nd H4 [A'.x, A'.De, A'.Dr, A'.Ls, A'.Lr, D, tp, p] := by
      refine ⟨ndl, fun b hb => ?_⟩
      have nt0 := hnt (lb [A'.x, A'.De, A'.Dr, A'.Ls, A'.Lr] [1, 2, 3, 4, 5]) (lb_at (i := 0) hnd rfl rfl) (lb_at (i := 1) hnd rfl rfl) (lb_at (i := 2) hnd rfl rfl) (lb_at (i := 3) hnd rfl rfl) (lb_at (i := 4) hnd rfl rfl)
      obtain ⟨_, e1, _⟩ := nt0.en
      obtain ⟨_, e2, _⟩ := nt0.ri
      obtain ⟨_, e3, _⟩ := nt0.se
      obtain ⟨_, e4, _⟩ := nt0.rg
      obtain ⟨o1, o2, e5, e6⟩ := t4.al
      simp only [List.mem_cons, List.not_mem_nil, or_false] at hb
      rcases hb with rfl | rfl | rfl | rfl | rfl | rfl | rfl | rfl
      · exact ⟨_, nt0.ins⟩
      · exact ⟨_, e1⟩
      · exact ⟨_, e2⟩
      · exact ⟨_, e3⟩
      · exact ⟨_, e4⟩
      · exact ⟨_, hd4⟩
      · exact ⟨_, e5⟩
      · exact ⟨_, e6⟩
    clear ndl hnd hfr nd3 hx3 hl3 nx hd2 c4 zz z1 z2 z3 hx2 hx hdx hl hrv3 hrv2
    refine fun W hW => ?_
    refine ⟨_, rfl, fun Fd hFd => fun Rd hRd => ?_⟩
    have nd5 := ((nd4.new (o := .dK []) hW).new (o := .dK []) hFd).new (o := .dK []) hRd
    have y1 := Same.new (o := .dK []) hW
    have y2 := Same.new (o := .dK []) hFd
    have y3 := Same.new (o := .dK []) hRd
    have yy := (y1.trans y2).trans y3
    have gW := (y2.trans y3) _ _ (upd_same : (upd H4 W (.dK [])) W = some (.dK []))
    have gF := y3 _ _ (upd_same : (upd (upd H4 W (.dK [])) Fd (.dK [])) Fd = some (.dK []))
    have gR : (upd (upd (upd H4 W (.dK [])) Fd (.dK [])) Rd (.dK [])) Rd = some (.dK []) := upd_same
    generalize upd (upd (upd H4 W (.dK [])) Fd (.dK [])) Rd (.dK []) = H5 at nd5 yy gW gF gR
    obtain ⟨L, rfl, rfl, rfl, rfl, rfl, rfl⟩ : ∃ L : LA, L.tp = tp ∧ L.ts = p ∧ L.W = W ∧ L.Rg = D ∧ L.Fd = Fd ∧ L.Rd = Rd := ⟨⟨tp, p, W, D, Fd, Rd⟩, rfl, rfl, rfl, rfl, rfl, rfl⟩
    refine ⟨gW, wK L 0 0, rfl, show (5 : Nat) ≤ 15 by decide, ?_⟩
    rw [wK_merge]
    have jb : ∃ ρ, JB K C_Net (upd H5 L.W (.dK (wK L 0 0))) ρ L A' R 0 [] 0 0 := by
      have oth : ∀ b o, H5 b = some o → b ≠ L.W → (upd H5 L.W (.dK (wK L 0 0))) b = some o := fun b o e h => by rw [upd_ne h]; exact e
      have ts : TS H5 (upd H5 L.W (.dK (wK L 0 0))) := fun b xs e => oth b _ e (ne_of e gW (by intro z; cases z))
      have lab : ∀ (i : Nat) (b : Addr) (n : Nat), [L.Rd, L.Fd, L.W, A'.x, A'.De, A'.Dr, A'.Ls, A'.Lr, L.Rg, L.tp, L.ts][i]? = some b → [15, 11, 9, 1, 2, 3, 4, 5, 8, 6, 7][i]? = some n → lb [L.Rd, L.Fd, L.W, A'.x, A'.De, A'.Dr, A'.Ls, A'.Lr, L.Rg, L.tp, L.ts] [15, 11, 9, 1, 2, 3, 4, 5, 8, 6, 7] b = n := fun i b n h1 h2 => lb_at nd5.nd h1 h2
      have lW := lab 2 _ _ rfl rfl
      have nt5 := (hnt _ (lab 3 _ _ rfl rfl) (lab 4 _ _ rfl rfl) (lab 5 _ _ rfl rfl) (lab 6 _ _ rfl rfl) (lab 7 _ _ rfl rfl)).same yy
      have t5 := t4.same yy
      refine ⟨_, ⟨⟨y, nt5.keep (fun b o e z => oth b o e (fun q => by rw [q, lW] at z; unfold netL at z; omega)) ts fun _ _ _ => rfl⟩,
        ⟨t5.keep (fun o e => oth _ _ e (ne_lab (lab 9 _ _ rfl rfl) lW (by decide))) (fun o e => oth _ _ e (ne_lab (lab 10 _ _ rfl rfl) lW (by decide))), upd_same, ⟨vs, oth _ _ (yy _ _ hd4) (ne_lab (lab 8 _ _ rfl rfl) lW (by decide)), (hrv4.ts (Same.ts yy)).ts ts⟩, ⟨[], oth _ _ gF (ne_lab (lab 1 _ _ rfl rfl) lW (by decide)), .nil⟩, ⟨[], oth _ _ gR (ne_lab (lab 0 _ _ rfl rfl) lW (by decide)), .nil⟩,
          lab 9 _ _ rfl rfl, lab 10 _ _ rfl rfl, lab 8 _ _ rfl rfl, lW, lab 1 _ _ rfl rfl, lab 0 _ _ rfl rfl⟩, by decide, by decide, by decide⟩⟩
    generalize upd H5 L.W (.dK (wK L 0 0)) = H6 at jb
    clear gW gF gR yy y1 y2 y3 nd5 hRd hFd hW nd4 hrv4 t4 hd4 ts4 hnt nd2 t2 T0 hD nD1 nD2 htp hp ntp ne H5 H4 H3
    obtain ⟨ρ, jb⟩ := jb
    refine ⟨_, rfl, L.tp, L.ts, 70, rfl, by decide, by decide, jb.lw.tape, fun tn H7 n0 n70 t7 c7 => ?_⟩
    have j7 := jb.draw t7 c7
    clear jb t7 c7
    refine ⟨_, _, rfl, rfl, _, rfl, by omega, by omega, for_range (fun i σ H' => ∃ (v6 v7 v8 : Option V) (ρ : Addr → Nat) (E : List Ent) (last lost : Int), σ = [some (.ref a), some (.ref L.tp), some (.ref L.Rg), none, some (.ref A'.x), some (.ref L.W), v6, v7, v8, none] ∧ JB K C_Net H' ρ L A' R i E last lost) ?_ ?_ ?_⟩
    · exact ⟨none, none, none, ρ, [], 0, 0, rfl, j7⟩
    · clear j7
      rintro i σ I1 hi ⟨v6, v7, v8, ρ, E', last, lost, rfl, j⟩
      have hi119 : i < 119 := by have : i < (50 + tn).toNat := hi; omega
      refine ⟨_, rfl, L.tp, L.ts, 12, rfl, by decide, by decide, j.lw.tape, fun kd I2 k0 k9 t2 c2 => ?_⟩
      have j2 := j.draw t2 c2
      clear j t2 c2
      refine ⟨fun σ H' => ∃ (v6 v7 : Option V) (ρ : Addr → Nat) (E : List Ent) (last lost : Int), σ = [some (.ref a), some (.ref L.tp), some (.ref L.Rg), none, some (.ref A'.x), some (.ref L.W), v6, v7, some (.bl true), none] ∧ JB K C_Net H' ρ L A' R (i + 1) E last lost, ?_, ?_⟩
      · refine ⟨_, rfl, _, _, rfl, rfl, _, rfl, ?_⟩
        refine iteD (fun _ => ?_) (fun _ => ?_)
        · refine iteT ?_
          exact ⟨_, rfl, _, rfl, _, rfl, ρ, L, A', R, i, E', last, lost, rfl, j2, by omega, fun ρ' H' E2 last' lost' j' => ⟨_, _, ρ', E2, last', lost', rfl, j'⟩⟩
        refine ⟨_, rfl, _, _, rfl, rfl, _, rfl, ?_⟩
        refine iteD (fun _ => ?_) (fun _ => ?_)
        · exact ⟨_, rfl, _, rfl, _, rfl, ρ, L, A', R, i, E', last, lost, rfl, j2, by omega, fun ρ' H' E2 last' lost' j' => ⟨_, _, ρ', E2, last', lost', rfl, j'⟩⟩
        refine ⟨_, rfl, _, _, rfl, rfl, _, rfl, ?_⟩
        refine iteD (fun _ => ?_) (fun _ => ?_)
        · exact ⟨_, rfl, _, rfl, _, rfl, ρ, L, A', R, i, E', last, lost, rfl, j2, by omega, fun ρ' H' E2 last' lost' j' => ⟨_, _, ρ', E2, last', lost', rfl, j'⟩⟩
        refine ⟨_, rfl, _, _, rfl, rfl, _, rfl, ?_⟩
        refine iteD (fun _ => ?_) (fun _ => ?_)
        · exact ⟨_, rfl, _, rfl, _, rfl, ρ, L, A', R, i, E', last, lost, rfl, j2, by omega, fun ρ' H' E2 last' lost' j' => ⟨_, _, ρ', E2, last', lost', rfl, j'⟩⟩
        · exact ⟨_, rfl, _, rfl, _, rfl, ρ, L, A', R, i, E', last, lost, rfl, j2, by omega, fun ρ' H' E2 last' lost' j' => ⟨_, _, ρ', E2, last', lost', rfl, j'⟩⟩
      · rintro σ I3 ⟨v6', v7', ρ3, E3, last3, lost3, rfl, j3⟩
        refine ⟨_, rfl, _, rfl, ?_⟩
        exact iteF ⟨_, _, _, ρ3, E3, last3, lost3, rfl, j3⟩
    · rintro σ I3 ⟨v6, v7, v8, ρ3, E3, last3, lost3, rfl, j3⟩
      clear j7
      generalize (50 + tn).toNat = N at j3
      obtain ⟨y, nt⟩ := j3.nt
      have hE := j3.len
      have hN := j3.n
      have hll := j3.ll
      have l0 := nt.l0
      refine ⟨_, rfl, A'.x, A'.dx, _, rfl, nt.ins, rfl, ρ3, A', R, E3, last3, lost3, [], N, y, rfl, nt, fun v I4 s4 hv => ?_⟩
      have j4 := j3.same s4
      obtain ⟨fk, hf, al⟩ := j4.lw.fs
      refine ⟨_, rfl, L.W, _, rfl, w_filters j4.lw.w, L.Fd, fk, E3.map (·.nm), rfl, .inl hf, al.keys, fun ys l hperm hsrt hl => ?_⟩
      have eys := asc_sorted nt.asc hperm hsrt
      subst eys
      have sl := Same.new (o := .lst ((E3.map (·.nm)).map V.int)) hl
      have hll5 : (upd I4 l (.lst ((E3.map (·.nm)).map V.int))) l = some (.lst ((E3.map (·.nm)).map V.int)) := upd_same
      generalize upd I4 l (.lst ((E3.map (·.nm)).map V.int)) = I5 at sl hll5
      have hv5 := hv.same sl
      have j5 := j4.same sl
      have hf5 := sl _ _ hf
      refine ⟨l, rfl, ⟨_, SqL.of hll5⟩, fun M hM => lc_list (xs := (E3.map (·.nm)).map V.int) (fun i H' => Same I5 H' ∧ ∃ ys, H' M = some (.lst ys) ∧ DtAll H' ys ((E3.take i).map fun e => .tuple [.int e.nm, .int e.ev, fD e.ts])) ?_ ?_ ?_ ?_⟩
      · exact ⟨Same.new hM, [], upd_same, .nil⟩
      · rintro j H' _ ⟨s, _⟩
        exact SqL.of (s _ _ hll5)
      · rintro j x I6 hj ⟨s6, ys, hys, hdt⟩
        obtain ⟨nm, hnm, rfl⟩ := map_get hj
        obtain ⟨e, he, rfl⟩ := map_get hnm
        have em := List.mem_of_getElem? he
        obtain ⟨v, hv, hdv⟩ := al.some e.nm (findE_of nt.asc em)
        obtain ⟨t, u, rfl, ht, hu⟩ := ent_open hdv
        have s46 := sl.trans s6
        refine ⟨rfl, _, rfl, szl rfl, fun q1 h1 => ?_⟩
        have x1 := Same.new (o := .tup [.int e.nm]) h1
        have hq1 : (upd I6 q1 (.tup [.int e.nm])) q1 = some (.tup [.int e.nm]) := upd_same
        generalize upd I6 q1 (.tup [.int e.nm]) = I7 at x1 hq1
        have s7 := s46.trans x1
        refine ⟨_, rfl, L.W, _, rfl, w_filters (s7 _ _ j4.lw.w), _, rfl, L.Fd, _, rfl, dgetE (s7 _ _ hf) hv, ?_⟩
        have ydl : ys.length ≤ 130 := by
          have l3 := List.length_take_le' j E3
          rw [hdt.len, List.length_map]; omega
        refine ⟨q1, t, _, _, rfl, rfl, SqT.of hq1, SqT.of (s7 _ _ ht), (show (3 : Nat) ≤ sizeLine by decide), fun z => (by cases z), fun _ z => (by cases z), fun _ _ q hq => ?_⟩
        have z7 := Same.new (o := .tup ([.int e.nm] ++ [.int (e.ev : Int), u])) hq
        have hq8 : (upd I7 q (.tup ([.int e.nm] ++ [.int (e.ev : Int), u]))) q = some (.tup [.int e.nm, .int (e.ev : Int), u]) := upd_same
        generalize upd I7 q (.tup ([.int e.nm] ++ [.int (e.ev : Int), u])) = I8 at z7 hq8
        have z68 := x1.trans z7
        have s48 := s46.trans z68
        have hys8 := z68 _ _ hys
        have ts8 : TS I8 (upd I8 M (.lst (ys ++ [.ref q]))) := Chg.ts Chg.upd hys8
        refine ⟨_, hys8, szt (by omega), Same.mut (s6.trans z68) hM, _, upd_same, ?_⟩
        rw [← take_snoc he, List.map_append]
        exact DtAll.append ((hdt.same z68).ts ts8 (rows_ton _)) (.cons (.tup (ts8 _ _ hq8) (.cons (.int _) (.cons (.int _) (.cons ((hu.same s48).ts ts8 (fD_tonly _)) .nil)))) .nil)
      rintro I6 ⟨s6, ys, hys, hdt⟩
      rw [show E3.take ((E3.map (·.nm)).map V.int).length = E3 by rw [List.length_map, List.length_map, List.take_length]] at hdt
      refine ⟨rowsD E3, rowsD E3, (hv5.same s6).dp, (Dt.lst hys hdt).dp, (rowsD_sh E3).ok (by decide), (rowsD_sh E3).ok (by decide), _, rfl, ?_⟩
      rw [PySem.SeqAt.eqv_refl _ (rowsD_sh E3).1]
      refine iteF ?_
      have j6 := j5.same s6
      clear hv hv5 hdt hys s6 hf5 j5 hll5 sl hl al hf j4 s4 hperm hsrt
      obtain ⟨y6, nt6⟩ := j6.nt
      refine ⟨_, rfl, A'.x, A'.dx, _, rfl, nt6.ins, rfl, ρ3, A', R, E3, last3, lost3, [], N, y6, rfl, nt6, _, rfl, L.W, _, rfl, w_lost j6.lw.w, rfl, _, rfl, ?_⟩
      rw [decide_eq_true rfl]
      refine iteF ?_
      refine ⟨_, rfl, L.W, _, rfl, w_made j6.lw.w, _, _, rfl, rfl, _, _, rfl, ⟨by decide, by decide, by omega, by omega⟩, fun D2 hD2 => lc_range (fun i H' => Same I6 H' ∧ H' D2 = some (.lst [])) ?_ ?_ ?_⟩
      · exact ⟨Same.new hD2, upd_same⟩
      · rintro i I7 hi ⟨s7, hd7⟩
        have j7 := j6.same s7
        obtain ⟨y7, nt7⟩ := j7.nt
        refine ⟨rfl, ?_⟩
        refine ⟨_, rfl, A'.x, A'.dx, _, rfl, nt7.ins, rfl, _, rfl, ρ3, A', R, E3, last3, lost3, [], N, y7, 1 + (i : Int), rfl, nt7, fun v I8 s8 hv => ?_⟩
        have j8 := j7.same s8
        obtain ⟨ik, hi8, ali⟩ := j8.lw.ri
        have hd8 := s8 _ _ hd7
        refine ⟨_, rfl, L.W, _, rfl, w_rings j8.lw.w, L.Rd, rfl, .inl ⟨ik, .inl hi8⟩, _, rfl, szl rfl, fun q hq => ?_⟩
        have z9 := Same.new (o := .lst []) hq
        have hq9 : (upd I8 q (.lst [])) q = some (.lst []) := upd_same
        generalize upd I8 q (.lst []) = I9 at z9 hq9
        have s9 := (s7.trans s8).trans z9
        have hi9 := z9 _ _ hi8
        have fin : Same I6 I9 ∧ I9 D2 = some (.lst []) := ⟨s9, z9 _ _ hd8⟩
        cases he : findE E3 (1 + (i : Int)) with
        | none =>
          have dg := DGet.k (k := (Sum.inl (1 + (i : Int)) : L2.Key)) hi9
          rw [ali.none (1 + (i : Int)) he] at dg
          refine ⟨_, dg, ?_⟩
          have er : ringE E3 (1 + (i : Int)) = [] := by unfold ringE; rw [he]
          rw [er] at hv
          refine ⟨.list (([] : List (List Nat)).map pD), .list (([] : List (List Nat)).map pD), (hv.same z9).dp, (Dt.lst hq9 .nil).dp, (pksD_sh []).ok (by decide), (pksD_sh []).ok (by decide), _, rfl, ?_⟩
          have ee := PySem.SeqAt.eqv_refl _ (pksD_sh []).1
          rw [ee]
          exact iteF fin
        | some e =>
          obtain ⟨v', hv', a', ps, rfl, ra, ha, hps⟩ := ali.some (1 + (i : Int)) he
          refine ⟨_, dgetE hi9 hv', ?_⟩
          rw [ringE_some he] at hv
          refine ⟨_, _, (hv.same z9).dp, (Dt.lst (z9 _ _ ha) (hps.same z9)).dp, (pksD_sh _).ok (by decide), (pksD_sh _).ok (by decide), _, rfl, ?_⟩
          rw [PySem.SeqAt.eqv_refl _ (pksD_sh _).1]
          exact iteF fin
      · rintro I7 ⟨s7, hd7⟩
        refine ⟨_, _, rfl, .inl (SqL.of hd7), rfl, ?_⟩
        exact k I7
end
end My

namespace My
open PySem L2
/-! ### what the top has written, and the end -/
/-- an error of the class at S is what an except of S names -/
theorem exm_self {K : PySem.W.Frag} {S : Addr} (h1 : PySem.W.subIn K (.ref S) (.type "BaseException") = some true) (h2 : PySem.W.isClsIn K S = true) (h3 : PySem.W.typeIn K (.ref S) = some (.type "type")) (h4 : PySem.W.subIn K (.ref S) (.ref S) = some true) : PySem.W.exmOne K (.ref S) (.ref S) = some true := by
  have e1 : (PySem.W.subIn K (.ref S) (.type "BaseException") == some true) = true := by rw [h1] <;> rfl
  have e2 : ((PySem.W.clsIn K S).isSome && PySem.W.typeIn K (.ref S) == some (.type "type")) = true := by
    have h2' : (PySem.W.clsIn K S).isSome = true := h2
    rw [h2', h3] <;> rfl
  unfold PySem.W.exmOne PySem.W.kitCls
  refine (if_pos e1).trans ((if_pos e2).trans ?_)
  exact h4
theorem all_mk {l : PySem.W.OpenLaw} {w : World} {K : PySem.W.Frag} {h : Heap} {mg : Str → Option Value} {fa : Addr} (X : K.In h) (G : h.Ns mainGlobals mg) (hfa : mg "law" = some (.ref fa))
    {C_Net C_NotValid : Addr}
    {f_is_at_least : Addr} {od_is_at_least an_is_at_least : Option Addr} {sl_is_at_least : Array (Option Value)} {oc_is_at_least kV_is_at_least dc_is_at_least pm_is_at_least cd_is_at_least ct_is_at_least : Value}
    {f_is_between : Addr} {od_is_between an_is_between : Option Addr} {sl_is_between : Array (Option Value)} {oc_is_between kV_is_between dc_is_between pm_is_between cd_is_between ct_is_between : Value}
    {f_is_index : Addr} {od_is_index an_is_index : Option Addr} {sl_is_index : Array (Option Value)} {oc_is_index kV_is_index dc_is_index pm_is_index cd_is_index ct_is_index : Value}
    {f_is_word : Addr} {od_is_word an_is_word : Option Addr} {sl_is_word : Array (Option Value)} {oc_is_word kV_is_word dc_is_word pm_is_word cd_is_word ct_is_word : Value}
    {f_is_packet : Addr} {od_is_packet an_is_packet : Option Addr} {sl_is_packet : Array (Option Value)} {oc_is_packet kV_is_packet dc_is_packet pm_is_packet cd_is_packet ct_is_packet : Value}
    {f_is_test : Addr} {od_is_test an_is_test : Option Addr} {sl_is_test : Array (Option Value)} {oc_is_test kV_is_test dc_is_test pm_is_test cd_is_test ct_is_test : Value}
    {f_is_filter : Addr} {od_is_filter an_is_filter : Option Addr} {sl_is_filter : Array (Option Value)} {oc_is_filter kV_is_filter dc_is_filter pm_is_filter cd_is_filter ct_is_filter : Value}
    {f_common : Addr} {od_common an_common : Option Addr} {sl_common : Array (Option Value)} {oc_common kV_common dc_common pm_common cd_common ct_common : Value}
    {f_children : Addr} {od_children an_children : Option Addr} {sl_children : Array (Option Value)} {oc_children kV_children dc_children pm_children cd_children ct_children : Value}
    {f_child : Addr} {od_child an_child : Option Addr} {sl_child : Array (Option Value)} {oc_child kV_child dc_child pm_child cd_child ct_child : Value}
    {f_names_behind : Addr} {od_names_behind an_names_behind : Option Addr} {sl_names_behind : Array (Option Value)} {oc_names_behind kV_names_behind dc_names_behind pm_names_behind cd_names_behind ct_names_behind : Value}
    {f_with_child : Addr} {od_with_child an_with_child : Option Addr} {sl_with_child : Array (Option Value)} {oc_with_child kV_with_child dc_with_child pm_with_child cd_with_child ct_with_child : Value}
    {f_with_branch : Addr} {od_with_branch an_with_branch : Option Addr} {sl_with_branch : Array (Option Value)} {oc_with_branch kV_with_branch dc_with_branch pm_with_branch cd_with_branch ct_with_branch : Value}
    {f_with_names_behind : Addr} {od_with_names_behind an_with_names_behind : Option Addr} {sl_with_names_behind : Array (Option Value)} {oc_with_names_behind kV_with_names_behind dc_with_names_behind pm_with_names_behind cd_with_names_behind ct_with_names_behind : Value}
    {f_names_met : Addr} {od_names_met an_names_met : Option Addr} {sl_names_met : Array (Option Value)} {oc_names_met kV_names_met dc_names_met pm_names_met cd_names_met ct_names_met : Value}
    {f_with_filter : Addr} {od_with_filter an_with_filter : Option Addr} {sl_with_filter : Array (Option Value)} {oc_with_filter kV_with_filter dc_with_filter pm_with_filter cd_with_filter ct_with_filter : Value}
    {f_without_filter : Addr} {od_without_filter an_without_filter : Option Addr} {sl_without_filter : Array (Option Value)} {oc_without_filter kV_without_filter dc_without_filter pm_without_filter cd_without_filter ct_without_filter : Value}
    {f_found : Addr} {od_found an_found : Option Addr} {sl_found : Array (Option Value)} {oc_found kV_found dc_found pm_found cd_found ct_found : Value}
    {f_is_environment : Addr} {od_is_environment an_is_environment : Option Addr} {sl_is_environment : Array (Option Value)} {oc_is_environment kV_is_environment dc_is_environment pm_is_environment cd_is_environment ct_is_environment : Value}
    {f_Net_is_name : Addr} {od_Net_is_name an_Net_is_name : Option Addr} {sl_Net_is_name : Array (Option Value)} {oc_Net_is_name kV_Net_is_name dc_Net_is_name pm_Net_is_name cd_Net_is_name ct_Net_is_name : Value}
    {f_Net_is_enrolled : Addr} {od_Net_is_enrolled an_Net_is_enrolled : Option Addr} {sl_Net_is_enrolled : Array (Option Value)} {oc_Net_is_enrolled kV_Net_is_enrolled dc_Net_is_enrolled pm_Net_is_enrolled cd_Net_is_enrolled ct_Net_is_enrolled : Value}
    {f_Net_ring : Addr} {od_Net_ring an_Net_ring : Option Addr} {sl_Net_ring : Array (Option Value)} {oc_Net_ring kV_Net_ring dc_Net_ring pm_Net_ring cd_Net_ring ct_Net_ring : Value}
    {f_Net_lost : Addr} {od_Net_lost an_Net_lost : Option Addr} {sl_Net_lost : Array (Option Value)} {oc_Net_lost kV_Net_lost dc_Net_lost pm_Net_lost cd_Net_lost ct_Net_lost : Value}
    {f_Net_next : Addr} {od_Net_next an_Net_next : Option Addr} {sl_Net_next : Array (Option Value)} {oc_Net_next kV_Net_next dc_Net_next pm_Net_next cd_Net_next ct_Net_next : Value}
    {f_Net_filters : Addr} {od_Net_filters an_Net_filters : Option Addr} {sl_Net_filters : Array (Option Value)} {oc_Net_filters kV_Net_filters dc_Net_filters pm_Net_filters cd_Net_filters ct_Net_filters : Value}
    {f_Net_send : Addr} {od_Net_send an_Net_send : Option Addr} {sl_Net_send : Array (Option Value)} {oc_Net_send kV_Net_send dc_Net_send pm_Net_send cd_Net_send ct_Net_send : Value}
    {f_Net_give_up : Addr} {od_Net_give_up an_Net_give_up : Option Addr} {sl_Net_give_up : Array (Option Value)} {oc_Net_give_up kV_Net_give_up dc_Net_give_up pm_Net_give_up cd_Net_give_up ct_Net_give_up : Value}
    {f_Net_shared_packet : Addr} {od_Net_shared_packet an_Net_shared_packet : Option Addr} {sl_Net_shared_packet : Array (Option Value)} {oc_Net_shared_packet kV_Net_shared_packet dc_Net_shared_packet pm_Net_shared_packet cd_Net_shared_packet ct_Net_shared_packet : Value}
    {f_Net_enroll : Addr} {od_Net_enroll an_Net_enroll : Option Addr} {sl_Net_enroll : Array (Option Value)} {oc_Net_enroll kV_Net_enroll dc_Net_enroll pm_Net_enroll cd_Net_enroll ct_Net_enroll : Value}
    {f_Net_come : Addr} {od_Net_come an_Net_come : Option Addr} {sl_Net_come : Array (Option Value)} {oc_Net_come kV_Net_come dc_Net_come pm_Net_come cd_Net_come ct_Net_come : Value}
    {f_are_regions : Addr} {od_are_regions an_are_regions : Option Addr} {sl_are_regions : Array (Option Value)} {oc_are_regions kV_are_regions dc_are_regions pm_are_regions cd_are_regions ct_are_regions : Value}
    {f_Net_init : Addr} {od_Net_init an_Net_init : Option Addr} {sl_Net_init : Array (Option Value)} {oc_Net_init kV_Net_init dc_Net_init pm_Net_init cd_Net_init ct_Net_init : Value}
    {f_law_draws : Addr} {od_law_draws an_law_draws : Option Addr} {sl_law_draws : Array (Option Value)} {oc_law_draws kV_law_draws dc_law_draws pm_law_draws cd_law_draws ct_law_draws : Value}
    {f_law_draw : Addr} {od_law_draw an_law_draw : Option Addr} {sl_law_draw : Array (Option Value)} {oc_law_draw kV_law_draw dc_law_draw pm_law_draw cd_law_draw ct_law_draw : Value}
    {f_law_common : Addr} {od_law_common an_law_common : Option Addr} {sl_law_common : Array (Option Value)} {oc_law_common kV_law_common dc_law_common pm_law_common cd_law_common ct_law_common : Value}
    {f_law_meets : Addr} {od_law_meets an_law_meets : Option Addr} {sl_law_meets : Array (Option Value)} {oc_law_meets kV_law_meets dc_law_meets pm_law_meets cd_law_meets ct_law_meets : Value}
    {f_law_filter : Addr} {od_law_filter an_law_filter : Option Addr} {sl_law_filter : Array (Option Value)} {oc_law_filter kV_law_filter dc_law_filter pm_law_filter cd_law_filter ct_law_filter : Value}
    {f_law_due : Addr} {od_law_due an_law_due : Option Addr} {sl_law_due : Array (Option Value)} {oc_law_due kV_law_due dc_law_due pm_law_due cd_law_due ct_law_due : Value}
    {f_law_enrolled : Addr} {od_law_enrolled an_law_enrolled : Option Addr} {sl_law_enrolled : Array (Option Value)} {oc_law_enrolled kV_law_enrolled dc_law_enrolled pm_law_enrolled cd_law_enrolled ct_law_enrolled : Value}
    {f_law_come : Addr} {od_law_come an_law_come : Option Addr} {sl_law_come : Array (Option Value)} {oc_law_come kV_law_come dc_law_come pm_law_come cd_law_come ct_law_come : Value}
    {f_law_taken : Addr} {od_law_taken an_law_taken : Option Addr} {sl_law_taken : Array (Option Value)} {oc_law_taken kV_law_taken dc_law_taken pm_law_taken cd_law_taken ct_law_taken : Value}
    {f_law_given_up : Addr} {od_law_given_up an_law_given_up : Option Addr} {sl_law_given_up : Array (Option Value)} {oc_law_given_up kV_law_given_up dc_law_given_up pm_law_given_up cd_law_given_up ct_law_given_up : Value}
    {f_law : Addr} {od_law an_law : Option Addr} {sl_law : Array (Option Value)} {oc_law kV_law dc_law pm_law cd_law ct_law : Value}
    {A_EMPTY A_E1 A_E2 : Addr} {od_EM od_E1 od_E2 : Option Addr} {n_EM n_E1 n_E2 : Nat} {sl_EM sl_E1 sl_E2 : Array (Option Value)}
    {t_ENVIRONMENTS : Tok}
    {t_FIELDS : Tok}
    {t_RING : Tok}
    {t_TOP : Tok}
    (a_Net : PySem.W.nsIn K mainGlobals "Net" = some (some (.ref C_Net)))
    (g1_Net : PySem.W.plainGet K C_Net Str.empty = true)
    (g2_Net : PySem.W.hasDictIn K C_Net = true)
    (g3_Net : PySem.W.plainOver K C_Net = true)
    (g4_Net : PySem.W.findIn K (.ref C_Net) "__setattr__" = some (some (.builtin "object.__setattr__")))
    (m_Net : PySem.W.makesIn K C_Net = true)
    (k_Net : PySem.W.keepIn K (.ref C_Net) = true)
    (n_Net__regions : PySem.W.findIn K (.ref C_Net) "_regions" = some none)
    (n_Net__enrolled : PySem.W.findIn K (.ref C_Net) "_enrolled" = some none)
    (n_Net__rings : PySem.W.findIn K (.ref C_Net) "_rings" = some none)
    (n_Net__tree : PySem.W.findIn K (.ref C_Net) "_tree" = some none)
    (n_Net__last_name : PySem.W.findIn K (.ref C_Net) "_last_name" = some none)
    (n_Net__sent : PySem.W.findIn K (.ref C_Net) "_sent" = some none)
    (n_Net__lost : PySem.W.findIn K (.ref C_Net) "_lost" = some none)
    (a_NotValid : PySem.W.nsIn K mainGlobals "NotValid" = some (some (.ref C_NotValid)))
    (k_NotValid : PySem.W.keepIn K (.ref C_NotValid) = true)
    (x_NotValid : PySem.W.excIn K C_NotValid [.type "ValueError", .type "Exception", .type "BaseException", .type "object"] "ValueError.__new__" = true)
    (e1_NotValid : PySem.W.subIn K (.ref C_NotValid) (.type "BaseException") = some true)
    (e2_NotValid : PySem.W.isClsIn K C_NotValid = true)
    (e3_NotValid : PySem.W.typeIn K (.ref C_NotValid) = some (.type "type"))
    (e4_NotValid : PySem.W.subIn K (.ref C_NotValid) (.ref C_NotValid) = some true)
    (a_is_at_least : PySem.W.nsIn K mainGlobals "is_at_least" = some (some (.ref f_is_at_least)))
    (l_is_at_least : K.lookup f_is_at_least = some ⟨oc_is_at_least, od_is_at_least, .func (PySem.W.fnOf "is_at_least" "is_at_least" (defArgs s_is_at_least) (defBody s_is_at_least) (defScope s_is_at_least) .none kV_is_at_least dc_is_at_least pm_is_at_least an_is_at_least cd_is_at_least ct_is_at_least), sl_is_at_least⟩)
    (q_is_at_least : PySem.W.codeIn K cd_is_at_least "is_at_least" = true)
    (k_is_at_least : PySem.W.keepIn K (.ref f_is_at_least) = true)
    (a_is_between : PySem.W.nsIn K mainGlobals "is_between" = some (some (.ref f_is_between)))
    (l_is_between : K.lookup f_is_between = some ⟨oc_is_between, od_is_between, .func (PySem.W.fnOf "is_between" "is_between" (defArgs s_is_between) (defBody s_is_between) (defScope s_is_between) .none kV_is_between dc_is_between pm_is_between an_is_between cd_is_between ct_is_between), sl_is_between⟩)
    (q_is_between : PySem.W.codeIn K cd_is_between "is_between" = true)
    (k_is_between : PySem.W.keepIn K (.ref f_is_between) = true)
    (a_is_index : PySem.W.nsIn K mainGlobals "is_index" = some (some (.ref f_is_index)))
    (l_is_index : K.lookup f_is_index = some ⟨oc_is_index, od_is_index, .func (PySem.W.fnOf "is_index" "is_index" (defArgs s_is_index) (defBody s_is_index) (defScope s_is_index) .none kV_is_index dc_is_index pm_is_index an_is_index cd_is_index ct_is_index), sl_is_index⟩)
    (q_is_index : PySem.W.codeIn K cd_is_index "is_index" = true)
    (k_is_index : PySem.W.keepIn K (.ref f_is_index) = true)
    (a_is_word : PySem.W.nsIn K mainGlobals "is_word" = some (some (.ref f_is_word)))
    (l_is_word : K.lookup f_is_word = some ⟨oc_is_word, od_is_word, .func (PySem.W.fnOf "is_word" "is_word" (defArgs s_is_word) (defBody s_is_word) (defScope s_is_word) .none kV_is_word dc_is_word pm_is_word an_is_word cd_is_word ct_is_word), sl_is_word⟩)
    (q_is_word : PySem.W.codeIn K cd_is_word "is_word" = true)
    (k_is_word : PySem.W.keepIn K (.ref f_is_word) = true)
    (a_is_packet : PySem.W.nsIn K mainGlobals "is_packet" = some (some (.ref f_is_packet)))
    (l_is_packet : K.lookup f_is_packet = some ⟨oc_is_packet, od_is_packet, .func (PySem.W.fnOf "is_packet" "is_packet" (defArgs s_is_packet) (defBody s_is_packet) (defScope s_is_packet) .none kV_is_packet dc_is_packet pm_is_packet an_is_packet cd_is_packet ct_is_packet), sl_is_packet⟩)
    (q_is_packet : PySem.W.codeIn K cd_is_packet "is_packet" = true)
    (k_is_packet : PySem.W.keepIn K (.ref f_is_packet) = true)
    (a_is_test : PySem.W.nsIn K mainGlobals "_is_test" = some (some (.ref f_is_test)))
    (l_is_test : K.lookup f_is_test = some ⟨oc_is_test, od_is_test, .func (PySem.W.fnOf "_is_test" "_is_test" (defArgs s_is_test) (defBody s_is_test) (defScope s_is_test) .none kV_is_test dc_is_test pm_is_test an_is_test cd_is_test ct_is_test), sl_is_test⟩)
    (q_is_test : PySem.W.codeIn K cd_is_test "_is_test" = true)
    (k_is_test : PySem.W.keepIn K (.ref f_is_test) = true)
    (a_is_filter : PySem.W.nsIn K mainGlobals "is_filter" = some (some (.ref f_is_filter)))
    (l_is_filter : K.lookup f_is_filter = some ⟨oc_is_filter, od_is_filter, .func (PySem.W.fnOf "is_filter" "is_filter" (defArgs s_is_filter) (defBody s_is_filter) (defScope s_is_filter) .none kV_is_filter dc_is_filter pm_is_filter an_is_filter cd_is_filter ct_is_filter), sl_is_filter⟩)
    (q_is_filter : PySem.W.codeIn K cd_is_filter "is_filter" = true)
    (k_is_filter : PySem.W.keepIn K (.ref f_is_filter) = true)
    (a_common : PySem.W.nsIn K mainGlobals "common" = some (some (.ref f_common)))
    (l_common : K.lookup f_common = some ⟨oc_common, od_common, .func (PySem.W.fnOf "common" "common" (defArgs s_common) (defBody s_common) (defScope s_common) .none kV_common dc_common pm_common an_common cd_common ct_common), sl_common⟩)
    (q_common : PySem.W.codeIn K cd_common "common" = true)
    (k_common : PySem.W.keepIn K (.ref f_common) = true)
    (a_children : PySem.W.nsIn K mainGlobals "_children" = some (some (.ref f_children)))
    (l_children : K.lookup f_children = some ⟨oc_children, od_children, .func (PySem.W.fnOf "_children" "_children" (defArgs s_children) (defBody s_children) (defScope s_children) .none kV_children dc_children pm_children an_children cd_children ct_children), sl_children⟩)
    (q_children : PySem.W.codeIn K cd_children "_children" = true)
    (k_children : PySem.W.keepIn K (.ref f_children) = true)
    (a_child : PySem.W.nsIn K mainGlobals "_child" = some (some (.ref f_child)))
    (l_child : K.lookup f_child = some ⟨oc_child, od_child, .func (PySem.W.fnOf "_child" "_child" (defArgs s_child) (defBody s_child) (defScope s_child) .none kV_child dc_child pm_child an_child cd_child ct_child), sl_child⟩)
    (q_child : PySem.W.codeIn K cd_child "_child" = true)
    (k_child : PySem.W.keepIn K (.ref f_child) = true)
    (a_names_behind : PySem.W.nsIn K mainGlobals "_names_behind" = some (some (.ref f_names_behind)))
    (l_names_behind : K.lookup f_names_behind = some ⟨oc_names_behind, od_names_behind, .func (PySem.W.fnOf "_names_behind" "_names_behind" (defArgs s_names_behind) (defBody s_names_behind) (defScope s_names_behind) .none kV_names_behind dc_names_behind pm_names_behind an_names_behind cd_names_behind ct_names_behind), sl_names_behind⟩)
    (q_names_behind : PySem.W.codeIn K cd_names_behind "_names_behind" = true)
    (k_names_behind : PySem.W.keepIn K (.ref f_names_behind) = true)
    (a_with_child : PySem.W.nsIn K mainGlobals "_with_child" = some (some (.ref f_with_child)))
    (l_with_child : K.lookup f_with_child = some ⟨oc_with_child, od_with_child, .func (PySem.W.fnOf "_with_child" "_with_child" (defArgs s_with_child) (defBody s_with_child) (defScope s_with_child) .none kV_with_child dc_with_child pm_with_child an_with_child cd_with_child ct_with_child), sl_with_child⟩)
    (q_with_child : PySem.W.codeIn K cd_with_child "_with_child" = true)
    (k_with_child : PySem.W.keepIn K (.ref f_with_child) = true)
    (a_with_branch : PySem.W.nsIn K mainGlobals "_with_branch" = some (some (.ref f_with_branch)))
    (l_with_branch : K.lookup f_with_branch = some ⟨oc_with_branch, od_with_branch, .func (PySem.W.fnOf "_with_branch" "_with_branch" (defArgs s_with_branch) (defBody s_with_branch) (defScope s_with_branch) .none kV_with_branch dc_with_branch pm_with_branch an_with_branch cd_with_branch ct_with_branch), sl_with_branch⟩)
    (q_with_branch : PySem.W.codeIn K cd_with_branch "_with_branch" = true)
    (k_with_branch : PySem.W.keepIn K (.ref f_with_branch) = true)
    (a_with_names_behind : PySem.W.nsIn K mainGlobals "_with_names_behind" = some (some (.ref f_with_names_behind)))
    (l_with_names_behind : K.lookup f_with_names_behind = some ⟨oc_with_names_behind, od_with_names_behind, .func (PySem.W.fnOf "_with_names_behind" "_with_names_behind" (defArgs s_with_names_behind) (defBody s_with_names_behind) (defScope s_with_names_behind) .none kV_with_names_behind dc_with_names_behind pm_with_names_behind an_with_names_behind cd_with_names_behind ct_with_names_behind), sl_with_names_behind⟩)
    (q_with_names_behind : PySem.W.codeIn K cd_with_names_behind "_with_names_behind" = true)
    (k_with_names_behind : PySem.W.keepIn K (.ref f_with_names_behind) = true)
    (a_names_met : PySem.W.nsIn K mainGlobals "_names_met" = some (some (.ref f_names_met)))
    (l_names_met : K.lookup f_names_met = some ⟨oc_names_met, od_names_met, .func (PySem.W.fnOf "_names_met" "_names_met" (defArgs s_names_met) (defBody s_names_met) (defScope s_names_met) .none kV_names_met dc_names_met pm_names_met an_names_met cd_names_met ct_names_met), sl_names_met⟩)
    (q_names_met : PySem.W.codeIn K cd_names_met "_names_met" = true)
    (k_names_met : PySem.W.keepIn K (.ref f_names_met) = true)
    (a_with_filter : PySem.W.nsIn K mainGlobals "with_filter" = some (some (.ref f_with_filter)))
    (l_with_filter : K.lookup f_with_filter = some ⟨oc_with_filter, od_with_filter, .func (PySem.W.fnOf "with_filter" "with_filter" (defArgs s_with_filter) (defBody s_with_filter) (defScope s_with_filter) .none kV_with_filter dc_with_filter pm_with_filter an_with_filter cd_with_filter ct_with_filter), sl_with_filter⟩)
    (q_with_filter : PySem.W.codeIn K cd_with_filter "with_filter" = true)
    (k_with_filter : PySem.W.keepIn K (.ref f_with_filter) = true)
    (a_without_filter : PySem.W.nsIn K mainGlobals "without_filter" = some (some (.ref f_without_filter)))
    (l_without_filter : K.lookup f_without_filter = some ⟨oc_without_filter, od_without_filter, .func (PySem.W.fnOf "without_filter" "without_filter" (defArgs s_without_filter) (defBody s_without_filter) (defScope s_without_filter) .none kV_without_filter dc_without_filter pm_without_filter an_without_filter cd_without_filter ct_without_filter), sl_without_filter⟩)
    (q_without_filter : PySem.W.codeIn K cd_without_filter "without_filter" = true)
    (k_without_filter : PySem.W.keepIn K (.ref f_without_filter) = true)
    (a_found : PySem.W.nsIn K mainGlobals "found" = some (some (.ref f_found)))
    (l_found : K.lookup f_found = some ⟨oc_found, od_found, .func (PySem.W.fnOf "found" "found" (defArgs s_found) (defBody s_found) (defScope s_found) .none kV_found dc_found pm_found an_found cd_found ct_found), sl_found⟩)
    (q_found : PySem.W.codeIn K cd_found "found" = true)
    (k_found : PySem.W.keepIn K (.ref f_found) = true)
    (a_is_environment : PySem.W.nsIn K mainGlobals "is_environment" = some (some (.ref f_is_environment)))
    (l_is_environment : K.lookup f_is_environment = some ⟨oc_is_environment, od_is_environment, .func (PySem.W.fnOf "is_environment" "is_environment" (defArgs s_is_environment) (defBody s_is_environment) (defScope s_is_environment) .none kV_is_environment dc_is_environment pm_is_environment an_is_environment cd_is_environment ct_is_environment), sl_is_environment⟩)
    (q_is_environment : PySem.W.codeIn K cd_is_environment "is_environment" = true)
    (k_is_environment : PySem.W.keepIn K (.ref f_is_environment) = true)
    (a_Net_is_name : PySem.W.findIn K (.ref C_Net) "_is_name" = some (some (.ref f_Net_is_name)))
    (i_Net_is_name : PySem.W.isFn K (.ref f_Net_is_name) = true)
    (l_Net_is_name : K.lookup f_Net_is_name = some ⟨oc_Net_is_name, od_Net_is_name, .func (PySem.W.fnOf "_is_name" "Net._is_name" (defArgs s_Net_is_name) (defBody s_Net_is_name) (defScope s_Net_is_name) .none kV_Net_is_name dc_Net_is_name pm_Net_is_name an_Net_is_name cd_Net_is_name ct_Net_is_name), sl_Net_is_name⟩)
    (q_Net_is_name : PySem.W.codeIn K cd_Net_is_name "Net._is_name" = true)
    (k_Net_is_name : PySem.W.keepIn K (.ref f_Net_is_name) = true)
    (a_Net_is_enrolled : PySem.W.findIn K (.ref C_Net) "is_enrolled" = some (some (.ref f_Net_is_enrolled)))
    (i_Net_is_enrolled : PySem.W.isFn K (.ref f_Net_is_enrolled) = true)
    (l_Net_is_enrolled : K.lookup f_Net_is_enrolled = some ⟨oc_Net_is_enrolled, od_Net_is_enrolled, .func (PySem.W.fnOf "is_enrolled" "Net.is_enrolled" (defArgs s_Net_is_enrolled) (defBody s_Net_is_enrolled) (defScope s_Net_is_enrolled) .none kV_Net_is_enrolled dc_Net_is_enrolled pm_Net_is_enrolled an_Net_is_enrolled cd_Net_is_enrolled ct_Net_is_enrolled), sl_Net_is_enrolled⟩)
    (q_Net_is_enrolled : PySem.W.codeIn K cd_Net_is_enrolled "Net.is_enrolled" = true)
    (k_Net_is_enrolled : PySem.W.keepIn K (.ref f_Net_is_enrolled) = true)
    (a_Net_ring : PySem.W.findIn K (.ref C_Net) "ring" = some (some (.ref f_Net_ring)))
    (i_Net_ring : PySem.W.isFn K (.ref f_Net_ring) = true)
    (l_Net_ring : K.lookup f_Net_ring = some ⟨oc_Net_ring, od_Net_ring, .func (PySem.W.fnOf "ring" "Net.ring" (defArgs s_Net_ring) (defBody s_Net_ring) (defScope s_Net_ring) .none kV_Net_ring dc_Net_ring pm_Net_ring an_Net_ring cd_Net_ring ct_Net_ring), sl_Net_ring⟩)
    (q_Net_ring : PySem.W.codeIn K cd_Net_ring "Net.ring" = true)
    (k_Net_ring : PySem.W.keepIn K (.ref f_Net_ring) = true)
    (a_Net_lost : PySem.W.findIn K (.ref C_Net) "lost" = some (some (.ref f_Net_lost)))
    (i_Net_lost : PySem.W.isFn K (.ref f_Net_lost) = true)
    (l_Net_lost : K.lookup f_Net_lost = some ⟨oc_Net_lost, od_Net_lost, .func (PySem.W.fnOf "lost" "Net.lost" (defArgs s_Net_lost) (defBody s_Net_lost) (defScope s_Net_lost) .none kV_Net_lost dc_Net_lost pm_Net_lost an_Net_lost cd_Net_lost ct_Net_lost), sl_Net_lost⟩)
    (q_Net_lost : PySem.W.codeIn K cd_Net_lost "Net.lost" = true)
    (k_Net_lost : PySem.W.keepIn K (.ref f_Net_lost) = true)
    (a_Net_next : PySem.W.findIn K (.ref C_Net) "next" = some (some (.ref f_Net_next)))
    (i_Net_next : PySem.W.isFn K (.ref f_Net_next) = true)
    (l_Net_next : K.lookup f_Net_next = some ⟨oc_Net_next, od_Net_next, .func (PySem.W.fnOf "next" "Net.next" (defArgs s_Net_next) (defBody s_Net_next) (defScope s_Net_next) .none kV_Net_next dc_Net_next pm_Net_next an_Net_next cd_Net_next ct_Net_next), sl_Net_next⟩)
    (q_Net_next : PySem.W.codeIn K cd_Net_next "Net.next" = true)
    (k_Net_next : PySem.W.keepIn K (.ref f_Net_next) = true)
    (a_Net_filters : PySem.W.findIn K (.ref C_Net) "filters" = some (some (.ref f_Net_filters)))
    (i_Net_filters : PySem.W.isFn K (.ref f_Net_filters) = true)
    (l_Net_filters : K.lookup f_Net_filters = some ⟨oc_Net_filters, od_Net_filters, .func (PySem.W.fnOf "filters" "Net.filters" (defArgs s_Net_filters) (defBody s_Net_filters) (defScope s_Net_filters) .none kV_Net_filters dc_Net_filters pm_Net_filters an_Net_filters cd_Net_filters ct_Net_filters), sl_Net_filters⟩)
    (q_Net_filters : PySem.W.codeIn K cd_Net_filters "Net.filters" = true)
    (k_Net_filters : PySem.W.keepIn K (.ref f_Net_filters) = true)
    (a_Net_send : PySem.W.findIn K (.ref C_Net) "send" = some (some (.ref f_Net_send)))
    (i_Net_send : PySem.W.isFn K (.ref f_Net_send) = true)
    (l_Net_send : K.lookup f_Net_send = some ⟨oc_Net_send, od_Net_send, .func (PySem.W.fnOf "send" "Net.send" (defArgs s_Net_send) (defBody s_Net_send) (defScope s_Net_send) .none kV_Net_send dc_Net_send pm_Net_send an_Net_send cd_Net_send ct_Net_send), sl_Net_send⟩)
    (q_Net_send : PySem.W.codeIn K cd_Net_send "Net.send" = true)
    (k_Net_send : PySem.W.keepIn K (.ref f_Net_send) = true)
    (a_Net_give_up : PySem.W.findIn K (.ref C_Net) "give_up" = some (some (.ref f_Net_give_up)))
    (i_Net_give_up : PySem.W.isFn K (.ref f_Net_give_up) = true)
    (l_Net_give_up : K.lookup f_Net_give_up = some ⟨oc_Net_give_up, od_Net_give_up, .func (PySem.W.fnOf "give_up" "Net.give_up" (defArgs s_Net_give_up) (defBody s_Net_give_up) (defScope s_Net_give_up) .none kV_Net_give_up dc_Net_give_up pm_Net_give_up an_Net_give_up cd_Net_give_up ct_Net_give_up), sl_Net_give_up⟩)
    (q_Net_give_up : PySem.W.codeIn K cd_Net_give_up "Net.give_up" = true)
    (k_Net_give_up : PySem.W.keepIn K (.ref f_Net_give_up) = true)
    (a_Net_shared_packet : PySem.W.findIn K (.ref C_Net) "_shared_packet" = some (some (.ref f_Net_shared_packet)))
    (i_Net_shared_packet : PySem.W.isFn K (.ref f_Net_shared_packet) = true)
    (l_Net_shared_packet : K.lookup f_Net_shared_packet = some ⟨oc_Net_shared_packet, od_Net_shared_packet, .func (PySem.W.fnOf "_shared_packet" "Net._shared_packet" (defArgs s_Net_shared_packet) (defBody s_Net_shared_packet) (defScope s_Net_shared_packet) .none kV_Net_shared_packet dc_Net_shared_packet pm_Net_shared_packet an_Net_shared_packet cd_Net_shared_packet ct_Net_shared_packet), sl_Net_shared_packet⟩)
    (q_Net_shared_packet : PySem.W.codeIn K cd_Net_shared_packet "Net._shared_packet" = true)
    (k_Net_shared_packet : PySem.W.keepIn K (.ref f_Net_shared_packet) = true)
    (a_Net_enroll : PySem.W.findIn K (.ref C_Net) "enroll" = some (some (.ref f_Net_enroll)))
    (i_Net_enroll : PySem.W.isFn K (.ref f_Net_enroll) = true)
    (l_Net_enroll : K.lookup f_Net_enroll = some ⟨oc_Net_enroll, od_Net_enroll, .func (PySem.W.fnOf "enroll" "Net.enroll" (defArgs s_Net_enroll) (defBody s_Net_enroll) (defScope s_Net_enroll) .none kV_Net_enroll dc_Net_enroll pm_Net_enroll an_Net_enroll cd_Net_enroll ct_Net_enroll), sl_Net_enroll⟩)
    (q_Net_enroll : PySem.W.codeIn K cd_Net_enroll "Net.enroll" = true)
    (k_Net_enroll : PySem.W.keepIn K (.ref f_Net_enroll) = true)
    (a_Net_come : PySem.W.findIn K (.ref C_Net) "come" = some (some (.ref f_Net_come)))
    (i_Net_come : PySem.W.isFn K (.ref f_Net_come) = true)
    (l_Net_come : K.lookup f_Net_come = some ⟨oc_Net_come, od_Net_come, .func (PySem.W.fnOf "come" "Net.come" (defArgs s_Net_come) (defBody s_Net_come) (defScope s_Net_come) .none kV_Net_come dc_Net_come pm_Net_come an_Net_come cd_Net_come ct_Net_come), sl_Net_come⟩)
    (q_Net_come : PySem.W.codeIn K cd_Net_come "Net.come" = true)
    (k_Net_come : PySem.W.keepIn K (.ref f_Net_come) = true)
    (a_are_regions : PySem.W.nsIn K mainGlobals "_are_regions" = some (some (.ref f_are_regions)))
    (l_are_regions : K.lookup f_are_regions = some ⟨oc_are_regions, od_are_regions, .func (PySem.W.fnOf "_are_regions" "_are_regions" (defArgs s_are_regions) (defBody s_are_regions) (defScope s_are_regions) .none kV_are_regions dc_are_regions pm_are_regions an_are_regions cd_are_regions ct_are_regions), sl_are_regions⟩)
    (q_are_regions : PySem.W.codeIn K cd_are_regions "_are_regions" = true)
    (k_are_regions : PySem.W.keepIn K (.ref f_are_regions) = true)
    (a_Net_init : PySem.W.findIn K (.ref C_Net) "__init__" = some (some (.ref f_Net_init)))
    (i_Net_init : PySem.W.isFn K (.ref f_Net_init) = true)
    (l_Net_init : K.lookup f_Net_init = some ⟨oc_Net_init, od_Net_init, .func (PySem.W.fnOf "__init__" "Net.__init__" (defArgs s_Net_init) (defBody s_Net_init) (defScope s_Net_init) .none kV_Net_init dc_Net_init pm_Net_init an_Net_init cd_Net_init ct_Net_init), sl_Net_init⟩)
    (q_Net_init : PySem.W.codeIn K cd_Net_init "Net.__init__" = true)
    (k_Net_init : PySem.W.keepIn K (.ref f_Net_init) = true)
    (a_law_draws : PySem.W.nsIn K mainGlobals "_law_draws" = some (some (.ref f_law_draws)))
    (l_law_draws : K.lookup f_law_draws = some ⟨oc_law_draws, od_law_draws, .func (PySem.W.fnOf "_law_draws" "_law_draws" (defArgs s_law_draws) (defBody s_law_draws) (defScope s_law_draws) .none kV_law_draws dc_law_draws pm_law_draws an_law_draws cd_law_draws ct_law_draws), sl_law_draws⟩)
    (q_law_draws : PySem.W.codeIn K cd_law_draws "_law_draws" = true)
    (k_law_draws : PySem.W.keepIn K (.ref f_law_draws) = true)
    (a_law_draw : PySem.W.nsIn K mainGlobals "_law_draw" = some (some (.ref f_law_draw)))
    (l_law_draw : K.lookup f_law_draw = some ⟨oc_law_draw, od_law_draw, .func (PySem.W.fnOf "_law_draw" "_law_draw" (defArgs s_law_draw) (defBody s_law_draw) (defScope s_law_draw) .none kV_law_draw dc_law_draw pm_law_draw an_law_draw cd_law_draw ct_law_draw), sl_law_draw⟩)
    (q_law_draw : PySem.W.codeIn K cd_law_draw "_law_draw" = true)
    (k_law_draw : PySem.W.keepIn K (.ref f_law_draw) = true)
    (a_law_common : PySem.W.nsIn K mainGlobals "_law_common" = some (some (.ref f_law_common)))
    (l_law_common : K.lookup f_law_common = some ⟨oc_law_common, od_law_common, .func (PySem.W.fnOf "_law_common" "_law_common" (defArgs s_law_common) (defBody s_law_common) (defScope s_law_common) .none kV_law_common dc_law_common pm_law_common an_law_common cd_law_common ct_law_common), sl_law_common⟩)
    (q_law_common : PySem.W.codeIn K cd_law_common "_law_common" = true)
    (k_law_common : PySem.W.keepIn K (.ref f_law_common) = true)
    (a_law_meets : PySem.W.nsIn K mainGlobals "_law_meets" = some (some (.ref f_law_meets)))
    (l_law_meets : K.lookup f_law_meets = some ⟨oc_law_meets, od_law_meets, .func (PySem.W.fnOf "_law_meets" "_law_meets" (defArgs s_law_meets) (defBody s_law_meets) (defScope s_law_meets) .none kV_law_meets dc_law_meets pm_law_meets an_law_meets cd_law_meets ct_law_meets), sl_law_meets⟩)
    (q_law_meets : PySem.W.codeIn K cd_law_meets "_law_meets" = true)
    (k_law_meets : PySem.W.keepIn K (.ref f_law_meets) = true)
    (a_law_filter : PySem.W.nsIn K mainGlobals "_law_filter" = some (some (.ref f_law_filter)))
    (l_law_filter : K.lookup f_law_filter = some ⟨oc_law_filter, od_law_filter, .func (PySem.W.fnOf "_law_filter" "_law_filter" (defArgs s_law_filter) (defBody s_law_filter) (defScope s_law_filter) .none kV_law_filter dc_law_filter pm_law_filter an_law_filter cd_law_filter ct_law_filter), sl_law_filter⟩)
    (q_law_filter : PySem.W.codeIn K cd_law_filter "_law_filter" = true)
    (k_law_filter : PySem.W.keepIn K (.ref f_law_filter) = true)
    (a_law_due : PySem.W.nsIn K mainGlobals "_law_due" = some (some (.ref f_law_due)))
    (l_law_due : K.lookup f_law_due = some ⟨oc_law_due, od_law_due, .func (PySem.W.fnOf "_law_due" "_law_due" (defArgs s_law_due) (defBody s_law_due) (defScope s_law_due) .none kV_law_due dc_law_due pm_law_due an_law_due cd_law_due ct_law_due), sl_law_due⟩)
    (q_law_due : PySem.W.codeIn K cd_law_due "_law_due" = true)
    (k_law_due : PySem.W.keepIn K (.ref f_law_due) = true)
    (a_law_enrolled : PySem.W.nsIn K mainGlobals "_law_enrolled" = some (some (.ref f_law_enrolled)))
    (l_law_enrolled : K.lookup f_law_enrolled = some ⟨oc_law_enrolled, od_law_enrolled, .func (PySem.W.fnOf "_law_enrolled" "_law_enrolled" (defArgs s_law_enrolled) (defBody s_law_enrolled) (defScope s_law_enrolled) .none kV_law_enrolled dc_law_enrolled pm_law_enrolled an_law_enrolled cd_law_enrolled ct_law_enrolled), sl_law_enrolled⟩)
    (q_law_enrolled : PySem.W.codeIn K cd_law_enrolled "_law_enrolled" = true)
    (k_law_enrolled : PySem.W.keepIn K (.ref f_law_enrolled) = true)
    (a_law_come : PySem.W.nsIn K mainGlobals "_law_come" = some (some (.ref f_law_come)))
    (l_law_come : K.lookup f_law_come = some ⟨oc_law_come, od_law_come, .func (PySem.W.fnOf "_law_come" "_law_come" (defArgs s_law_come) (defBody s_law_come) (defScope s_law_come) .none kV_law_come dc_law_come pm_law_come an_law_come cd_law_come ct_law_come), sl_law_come⟩)
    (q_law_come : PySem.W.codeIn K cd_law_come "_law_come" = true)
    (k_law_come : PySem.W.keepIn K (.ref f_law_come) = true)
    (a_law_taken : PySem.W.nsIn K mainGlobals "_law_taken" = some (some (.ref f_law_taken)))
    (l_law_taken : K.lookup f_law_taken = some ⟨oc_law_taken, od_law_taken, .func (PySem.W.fnOf "_law_taken" "_law_taken" (defArgs s_law_taken) (defBody s_law_taken) (defScope s_law_taken) .none kV_law_taken dc_law_taken pm_law_taken an_law_taken cd_law_taken ct_law_taken), sl_law_taken⟩)
    (q_law_taken : PySem.W.codeIn K cd_law_taken "_law_taken" = true)
    (k_law_taken : PySem.W.keepIn K (.ref f_law_taken) = true)
    (a_law_given_up : PySem.W.nsIn K mainGlobals "_law_given_up" = some (some (.ref f_law_given_up)))
    (l_law_given_up : K.lookup f_law_given_up = some ⟨oc_law_given_up, od_law_given_up, .func (PySem.W.fnOf "_law_given_up" "_law_given_up" (defArgs s_law_given_up) (defBody s_law_given_up) (defScope s_law_given_up) .none kV_law_given_up dc_law_given_up pm_law_given_up an_law_given_up cd_law_given_up ct_law_given_up), sl_law_given_up⟩)
    (q_law_given_up : PySem.W.codeIn K cd_law_given_up "_law_given_up" = true)
    (k_law_given_up : PySem.W.keepIn K (.ref f_law_given_up) = true)
    (a_law : PySem.W.nsIn K mainGlobals "law" = some (some (.ref f_law)))
    (l_law : K.lookup f_law = some ⟨oc_law, od_law, .func (PySem.W.fnOf "law" "law" (defArgs s_law) (defBody s_law) (defScope s_law) .none kV_law dc_law pm_law an_law cd_law ct_law), sl_law⟩)
    (q_law : PySem.W.codeIn K cd_law "law" = true)
    (k_law : PySem.W.keepIn K (.ref f_law) = true)
    (y_EMPTY : PySem.W.nsIn K mainGlobals "EMPTY" = some (some (.ref A_EMPTY)))
    (l_EMPTY : K.lookup A_EMPTY = some ⟨.type "tuple", od_EM, .seq #[.ref A_E1, .ref A_E2] n_EM, sl_EM⟩)
    (l_E1 : K.lookup A_E1 = some ⟨.type "tuple", od_E1, .seq #[] n_E1, sl_E1⟩)
    (l_E2 : K.lookup A_E2 = some ⟨.type "tuple", od_E2, .seq #[] n_E2, sl_E2⟩)
    (z_abs : PySem.W.nsIn K mainGlobals "abs" = some none)
    (z_all : PySem.W.nsIn K mainGlobals "all" = some none)
    (z_bool : PySem.W.nsIn K mainGlobals "bool" = some none)
    (z_dict : PySem.W.nsIn K mainGlobals "dict" = some none)
    (z_enumerate : PySem.W.nsIn K mainGlobals "enumerate" = some none)
    (z_int : PySem.W.nsIn K mainGlobals "int" = some none)
    (z_isinstance : PySem.W.nsIn K mainGlobals "isinstance" = some none)
    (z_len : PySem.W.nsIn K mainGlobals "len" = some none)
    (z_list : PySem.W.nsIn K mainGlobals "list" = some none)
    (z_range : PySem.W.nsIn K mainGlobals "range" = some none)
    (z_sorted : PySem.W.nsIn K mainGlobals "sorted" = some none)
    (z_tuple : PySem.W.nsIn K mainGlobals "tuple" = some none)
    (y_ENVIRONMENTS : PySem.W.nsIn K mainGlobals "ENVIRONMENTS" = some (some (.int 4 t_ENVIRONMENTS)))
    (y_FIELDS : PySem.W.nsIn K mainGlobals "FIELDS" = some (some (.int 6 t_FIELDS)))
    (y_RING : PySem.W.nsIn K mainGlobals "RING" = some (some (.int 8 t_RING)))
    (y_TOP : PySem.W.nsIn K mainGlobals "TOP" = some (some (.int 4294967295 t_TOP))) :
    ∃ fd : FuncData, (∀ (s : Shared) (v : Value), BindsTo s fd ⟨[v], []⟩ [("script", v)]) ∧ ∀ base : Heap, K.In base → base.Ns mainGlobals mg → FnOk l.prog w K mg base CX0 12 fa fd ["script"] (spLaw K) := by
  have e := hfa.symm.trans (PySem.W.mg_of X G a_law)
  cases e
  have T : Txt K mg C_Net C_NotValid A_EMPTY := ⟨PySem.W.mg_none_of X G z_abs, PySem.W.mg_none_of X G z_all, PySem.W.mg_none_of X G z_bool, PySem.W.mg_none_of X G z_dict, PySem.W.mg_none_of X G z_enumerate, PySem.W.mg_none_of X G z_int, PySem.W.mg_none_of X G z_isinstance, PySem.W.mg_none_of X G z_len, PySem.W.mg_none_of X G z_list, PySem.W.mg_none_of X G z_range, PySem.W.mg_none_of X G z_sorted, PySem.W.mg_none_of X G z_tuple, ⟨_, PySem.W.mg_of X G y_ENVIRONMENTS⟩, ⟨_, PySem.W.mg_of X G y_FIELDS⟩, ⟨_, PySem.W.mg_of X G y_RING⟩, ⟨_, PySem.W.mg_of X G y_TOP⟩, ⟨PySem.W.mg_of X G a_NotValid, k_NotValid, x_NotValid, e1_NotValid, e3_NotValid, exm_self e1_NotValid e2_NotValid e3_NotValid e4_NotValid⟩, ⟨g1_Net, g2_Net, g3_Net, g4_Net⟩, n_Net__regions, n_Net__enrolled, n_Net__rings, n_Net__tree, n_Net__last_name, n_Net__sent, n_Net__lost, PySem.W.mg_of X G y_EMPTY, empty_of l_EMPTY l_E1 l_E2⟩
  have F_is_at_least := fun_mk (st := s_is_at_least) l_is_at_least q_is_at_least k_is_at_least
  have B_is_at_least := F_is_at_least.binds (ps := ["value", "least"]) fun _ _ _ _ _ _ us hl => match us, hl with | [_, _], _ => rfl
  have F_is_between := fun_mk (st := s_is_between) l_is_between q_is_between k_is_between
  have B_is_between := F_is_between.binds (ps := ["value", "least", "most"]) fun _ _ _ _ _ _ us hl => match us, hl with | [_, _, _], _ => rfl
  have F_is_index := fun_mk (st := s_is_index) l_is_index q_is_index k_is_index
  have B_is_index := F_is_index.binds (ps := ["value", "many"]) fun _ _ _ _ _ _ us hl => match us, hl with | [_, _], _ => rfl
  have F_is_word := fun_mk (st := s_is_word) l_is_word q_is_word k_is_word
  have B_is_word := F_is_word.binds (ps := ["value"]) fun _ _ _ _ _ _ us hl => match us, hl with | [_], _ => rfl
  have F_is_packet := fun_mk (st := s_is_packet) l_is_packet q_is_packet k_is_packet
  have B_is_packet := F_is_packet.binds (ps := ["value"]) fun _ _ _ _ _ _ us hl => match us, hl with | [_], _ => rfl
  have F_is_test := fun_mk (st := s_is_test) l_is_test q_is_test k_is_test
  have B_is_test := F_is_test.binds (ps := ["value"]) fun _ _ _ _ _ _ us hl => match us, hl with | [_], _ => rfl
  have F_is_filter := fun_mk (st := s_is_filter) l_is_filter q_is_filter k_is_filter
  have B_is_filter := F_is_filter.binds (ps := ["value"]) fun _ _ _ _ _ _ us hl => match us, hl with | [_], _ => rfl
  have F_common := fun_mk (st := s_common) l_common q_common k_common
  have B_common := F_common.binds (ps := ["one", "other"]) fun _ _ _ _ _ _ us hl => match us, hl with | [_, _], _ => rfl
  have F_children := fun_mk (st := s_children) l_children q_children k_children
  have B_children := F_children.binds (ps := ["branches", "index", "mask"]) fun _ _ _ _ _ _ us hl => match us, hl with | [_, _, _], _ => rfl
  have F_child := fun_mk (st := s_child) l_child q_child k_child
  have B_child := F_child.binds (ps := ["children", "value"]) fun _ _ _ _ _ _ us hl => match us, hl with | [_, _], _ => rfl
  have F_names_behind := fun_mk (st := s_names_behind) l_names_behind q_names_behind k_names_behind
  have B_names_behind := F_names_behind.binds (ps := ["tree", "tests"]) fun _ _ _ _ _ _ us hl => match us, hl with | [_, _], _ => rfl
  have F_with_child := fun_mk (st := s_with_child) l_with_child q_with_child k_with_child
  have B_with_child := F_with_child.binds (ps := ["children", "value", "node"]) fun _ _ _ _ _ _ us hl => match us, hl with | [_, _, _], _ => rfl
  have F_with_branch := fun_mk (st := s_with_branch) l_with_branch q_with_branch k_with_branch
  have B_with_branch := F_with_branch.binds (ps := ["branches", "index", "mask", "children"]) fun _ _ _ _ _ _ us hl => match us, hl with | [_, _, _, _], _ => rfl
  have F_with_names_behind := fun_mk (st := s_with_names_behind) l_with_names_behind q_with_names_behind k_with_names_behind
  have B_with_names_behind := F_with_names_behind.binds (ps := ["tree", "tests", "names"]) fun _ _ _ _ _ _ us hl => match us, hl with | [_, _, _], _ => rfl
  have F_names_met := fun_mk (st := s_names_met) l_names_met q_names_met k_names_met
  have B_names_met := F_names_met.binds (ps := ["tree", "packet"]) fun _ _ _ _ _ _ us hl => match us, hl with | [_, _], _ => rfl
  have F_with_filter := fun_mk (st := s_with_filter) l_with_filter q_with_filter k_with_filter
  have B_with_filter := F_with_filter.binds (ps := ["tree", "name", "tests"]) fun _ _ _ _ _ _ us hl => match us, hl with | [_, _, _], _ => rfl
  have F_without_filter := fun_mk (st := s_without_filter) l_without_filter q_without_filter k_without_filter
  have B_without_filter := F_without_filter.binds (ps := ["tree", "name", "tests"]) fun _ _ _ _ _ _ us hl => match us, hl with | [_, _, _], _ => rfl
  have F_found := fun_mk (st := s_found) l_found q_found k_found
  have B_found := F_found.binds (ps := ["tree", "packet"]) fun _ _ _ _ _ _ us hl => match us, hl with | [_, _], _ => rfl
  have F_is_environment := fun_mk (st := s_is_environment) l_is_environment q_is_environment k_is_environment
  have B_is_environment := F_is_environment.binds (ps := ["value"]) fun _ _ _ _ _ _ us hl => match us, hl with | [_], _ => rfl
  have F_Net_is_name := fun_mk (st := s_Net_is_name) l_Net_is_name q_Net_is_name k_Net_is_name
  have B_Net_is_name := F_Net_is_name.binds (ps := ["self", "value"]) fun _ _ _ _ _ _ us hl => match us, hl with | [_, _], _ => rfl
  have F_Net_is_enrolled := fun_mk (st := s_Net_is_enrolled) l_Net_is_enrolled q_Net_is_enrolled k_Net_is_enrolled
  have B_Net_is_enrolled := F_Net_is_enrolled.binds (ps := ["self", "environment", "name"]) fun _ _ _ _ _ _ us hl => match us, hl with | [_, _, _], _ => rfl
  have F_Net_ring := fun_mk (st := s_Net_ring) l_Net_ring q_Net_ring k_Net_ring
  have B_Net_ring := F_Net_ring.binds (ps := ["self", "name"]) fun _ _ _ _ _ _ us hl => match us, hl with | [_, _], _ => rfl
  have F_Net_lost := fun_mk (st := s_Net_lost) l_Net_lost q_Net_lost k_Net_lost
  have B_Net_lost := F_Net_lost.binds (ps := ["self"]) fun _ _ _ _ _ _ us hl => match us, hl with | [_], _ => rfl
  have F_Net_next := fun_mk (st := s_Net_next) l_Net_next q_Net_next k_Net_next
  have B_Net_next := F_Net_next.binds (ps := ["self", "environment", "name"]) fun _ _ _ _ _ _ us hl => match us, hl with | [_, _, _], _ => rfl
  have F_Net_filters := fun_mk (st := s_Net_filters) l_Net_filters q_Net_filters k_Net_filters
  have B_Net_filters := F_Net_filters.binds (ps := ["self"]) fun _ _ _ _ _ _ us hl => match us, hl with | [_], _ => rfl
  have F_Net_send := fun_mk (st := s_Net_send) l_Net_send q_Net_send k_Net_send
  have B_Net_send := F_Net_send.binds (ps := ["self", "packet"]) fun _ _ _ _ _ _ us hl => match us, hl with | [_, _], _ => rfl
  have F_Net_give_up := fun_mk (st := s_Net_give_up) l_Net_give_up q_Net_give_up k_Net_give_up
  have B_Net_give_up := F_Net_give_up.binds (ps := ["self", "environment", "name"]) fun _ _ _ _ _ _ us hl => match us, hl with | [_, _, _], _ => rfl
  have F_Net_shared_packet := fun_mk (st := s_Net_shared_packet) l_Net_shared_packet q_Net_shared_packet k_Net_shared_packet
  have B_Net_shared_packet := F_Net_shared_packet.binds (ps := ["self", "environment", "tests"]) fun _ _ _ _ _ _ us hl => match us, hl with | [_, _, _], _ => rfl
  have F_Net_enroll := fun_mk (st := s_Net_enroll) l_Net_enroll q_Net_enroll k_Net_enroll
  have B_Net_enroll := F_Net_enroll.binds (ps := ["self", "environment", "tests"]) fun _ _ _ _ _ _ us hl => match us, hl with | [_, _, _], _ => rfl
  have F_Net_come := fun_mk (st := s_Net_come) l_Net_come q_Net_come k_Net_come
  have B_Net_come := F_Net_come.binds (ps := ["self", "packet"]) fun _ _ _ _ _ _ us hl => match us, hl with | [_, _], _ => rfl
  have F_are_regions := fun_mk (st := s_are_regions) l_are_regions q_are_regions k_are_regions
  have B_are_regions := F_are_regions.binds (ps := ["value"]) fun _ _ _ _ _ _ us hl => match us, hl with | [_], _ => rfl
  have F_Net_init := fun_mk (st := s_Net_init) l_Net_init q_Net_init k_Net_init
  have B_Net_init := F_Net_init.binds (ps := ["self", "regions"]) fun _ _ _ _ _ _ us hl => match us, hl with | [_, _], _ => rfl
  have F_law_draws := fun_mk (st := s_law_draws) l_law_draws q_law_draws k_law_draws
  have B_law_draws := F_law_draws.binds (ps := ["script"]) fun _ _ _ _ _ _ us hl => match us, hl with | [_], _ => rfl
  have F_law_draw := fun_mk (st := s_law_draw) l_law_draw q_law_draw k_law_draw
  have B_law_draw := F_law_draw.binds (ps := ["draws", "many"]) fun _ _ _ _ _ _ us hl => match us, hl with | [_, _], _ => rfl
  have F_law_common := fun_mk (st := s_law_common) l_law_common q_law_common k_law_common
  have B_law_common := F_law_common.binds (ps := ["one", "other"]) fun _ _ _ _ _ _ us hl => match us, hl with | [_, _], _ => rfl
  have F_law_meets := fun_mk (st := s_law_meets) l_law_meets q_law_meets k_law_meets
  have B_law_meets := F_law_meets.binds (ps := ["rows", "packet"]) fun _ _ _ _ _ _ us hl => match us, hl with | [_, _], _ => rfl
  have F_law_filter := fun_mk (st := s_law_filter) l_law_filter q_law_filter k_law_filter
  have B_law_filter := F_law_filter.binds (ps := ["draws", "environment"]) fun _ _ _ _ _ _ us hl => match us, hl with | [_, _], _ => rfl
  have F_law_due := fun_mk (st := s_law_due) l_law_due q_law_due k_law_due
  have B_law_due := F_law_due.binds (ps := ["w", "environment", "rows"]) fun _ _ _ _ _ _ us hl => match us, hl with | [_, _, _], _ => rfl
  have F_law_enrolled := fun_mk (st := s_law_enrolled) l_law_enrolled q_law_enrolled k_law_enrolled
  have B_law_enrolled := F_law_enrolled.binds (ps := ["draws", "w", "net"]) fun _ _ _ _ _ _ us hl => match us, hl with | [_, _, _], _ => rfl
  have F_law_come := fun_mk (st := s_law_come) l_law_come q_law_come k_law_come
  have B_law_come := F_law_come.binds (ps := ["draws", "w", "net"]) fun _ _ _ _ _ _ us hl => match us, hl with | [_, _, _], _ => rfl
  have F_law_taken := fun_mk (st := s_law_taken) l_law_taken q_law_taken k_law_taken
  have B_law_taken := F_law_taken.binds (ps := ["draws", "w", "net"]) fun _ _ _ _ _ _ us hl => match us, hl with | [_, _, _], _ => rfl
  have F_law_given_up := fun_mk (st := s_law_given_up) l_law_given_up q_law_given_up k_law_given_up
  have B_law_given_up := F_law_given_up.binds (ps := ["draws", "w", "net"]) fun _ _ _ _ _ _ us hl => match us, hl with | [_, _, _], _ => rfl
  have F_law := fun_mk (st := s_law) l_law q_law k_law
  refine ⟨PySem.W.fnOf "law" "law" (defArgs s_law) (defBody s_law) (defScope s_law) .none kV_law dc_law pm_law an_law cd_law ct_law, fun s v => .of_eq rfl, fun base _ _ => ?_⟩
  have D_is_at_least : Dfn l.prog w K mg base CX0 1 "is_at_least" ["value", "least"] spGe := ⟨f_is_at_least, _, ok_is_at_least F_is_at_least T , PySem.W.mg_of X G a_is_at_least, k_is_at_least, B_is_at_least⟩
  have D_is_between : Dfn l.prog w K mg base CX0 2 "is_between" ["value", "least", "most"] spBtw := ⟨f_is_between, _, ok_is_between F_is_between T D_is_at_least, PySem.W.mg_of X G a_is_between, k_is_between, B_is_between⟩
  have D_is_index : Dfn l.prog w K mg base CX0 3 "is_index" ["value", "many"] spIdx := ⟨f_is_index, _, ok_is_index F_is_index T D_is_between, PySem.W.mg_of X G a_is_index, k_is_index, B_is_index⟩
  have D_is_word : Dfn l.prog w K mg base CX0 3 "is_word" ["value"] spWord := ⟨f_is_word, _, ok_is_word F_is_word T D_is_between, PySem.W.mg_of X G a_is_word, k_is_word, B_is_word⟩
  have D_is_packet : Dfn l.prog w K mg base CX0 4 "is_packet" ["value"] spPk := ⟨f_is_packet, _, ok_is_packet F_is_packet T D_is_word, PySem.W.mg_of X G a_is_packet, k_is_packet, B_is_packet⟩
  have D_is_test : Dfn l.prog w K mg base CX0 4 "_is_test" ["value"] spTst := ⟨f_is_test, _, ok_is_test F_is_test T D_is_word D_is_index, PySem.W.mg_of X G a_is_test, k_is_test, B_is_test⟩
  have D_is_filter : Dfn l.prog w K mg base CX0 5 "is_filter" ["value"] spFl := ⟨f_is_filter, _, ok_is_filter F_is_filter T D_is_test, PySem.W.mg_of X G a_is_filter, k_is_filter, B_is_filter⟩
  have D_common : Dfn l.prog w K mg base CX0 1 "common" ["one", "other"] spCommon := ⟨f_common, _, ok_common F_common T , PySem.W.mg_of X G a_common, k_common, B_common⟩
  have D_children : Dfn l.prog w K mg base CX0 1 "_children" ["branches", "index", "mask"] (spChildren K) := ⟨f_children, _, ok_children F_children T , PySem.W.mg_of X G a_children, k_children, B_children⟩
  have D_child : Dfn l.prog w K mg base CX0 1 "_child" ["children", "value"] (spChild K) := ⟨f_child, _, ok_child F_child T , PySem.W.mg_of X G a_child, k_child, B_child⟩
  have D_names_behind : Dfn l.prog w K mg base CX0 2 "_names_behind" ["tree", "tests"] (spBehind K) := ⟨f_names_behind, _, ok_names_behind F_names_behind T D_children D_child, PySem.W.mg_of X G a_names_behind, k_names_behind, B_names_behind⟩
  have D_with_child : Dfn l.prog w K mg base CX0 1 "_with_child" ["children", "value", "node"] (spWithChild K) := ⟨f_with_child, _, ok_with_child F_with_child T , PySem.W.mg_of X G a_with_child, k_with_child, B_with_child⟩
  have D_with_branch : Dfn l.prog w K mg base CX0 1 "_with_branch" ["branches", "index", "mask", "children"] (spWithBranch K) := ⟨f_with_branch, _, ok_with_branch F_with_branch T , PySem.W.mg_of X G a_with_branch, k_with_branch, B_with_branch⟩
  have D_with_names_behind : Dfn l.prog w K mg base CX0 8 "_with_names_behind" ["tree", "tests", "names"] (spSet K 6) := ⟨f_with_names_behind, _, ok_with_names_behind F_with_names_behind T D_children D_child D_with_branch D_with_child ⟨PySem.W.mg_of X G a_with_names_behind, k_with_names_behind, B_with_names_behind⟩, PySem.W.mg_of X G a_with_names_behind, k_with_names_behind, B_with_names_behind⟩
  have D_names_met : Dfn l.prog w K mg base CX0 8 "_names_met" ["tree", "packet"] (spMet K 6) := ⟨f_names_met, _, ok_names_met F_names_met T D_child ⟨PySem.W.mg_of X G a_names_met, k_names_met, B_names_met⟩, PySem.W.mg_of X G a_names_met, k_names_met, B_names_met⟩
  have D_with_filter : Dfn l.prog w K mg base CX0 9 "with_filter" ["tree", "name", "tests"] (spWithFilter K) := ⟨f_with_filter, _, ok_with_filter F_with_filter T D_names_behind D_with_names_behind, PySem.W.mg_of X G a_with_filter, k_with_filter, B_with_filter⟩
  have D_without_filter : Dfn l.prog w K mg base CX0 9 "without_filter" ["tree", "name", "tests"] (spWithout K) := ⟨f_without_filter, _, ok_without_filter F_without_filter T D_names_behind D_with_names_behind, PySem.W.mg_of X G a_without_filter, k_without_filter, B_without_filter⟩
  have D_found : Dfn l.prog w K mg base CX0 9 "found" ["tree", "packet"] (spFound K) := ⟨f_found, _, ok_found F_found T D_names_met, PySem.W.mg_of X G a_found, k_found, B_found⟩
  have D_is_environment : Dfn l.prog w K mg base CX0 4 "is_environment" ["value"] spEnv := ⟨f_is_environment, _, ok_is_environment F_is_environment T D_is_index, PySem.W.mg_of X G a_is_environment, k_is_environment, B_is_environment⟩
  have D_Net_is_name : Mth l.prog w K mg base CX0 2 C_Net "_is_name" ["self", "value"] (spIsName K C_Net) := ⟨f_Net_is_name, _, ok_Net_is_name F_Net_is_name T D_is_at_least, ⟨a_Net_is_name, i_Net_is_name, k_Net_is_name⟩, B_Net_is_name, T.o_Net⟩
  have D_Net_is_enrolled : Mth l.prog w K mg base CX0 5 C_Net "is_enrolled" ["self", "environment", "name"] (spIsEn K C_Net) := ⟨f_Net_is_enrolled, _, ok_Net_is_enrolled F_Net_is_enrolled T D_is_environment D_Net_is_name, ⟨a_Net_is_enrolled, i_Net_is_enrolled, k_Net_is_enrolled⟩, B_Net_is_enrolled, T.o_Net⟩
  have D_Net_ring : Mth l.prog w K mg base CX0 3 C_Net "ring" ["self", "name"] (spRing K C_Net) := ⟨f_Net_ring, _, ok_Net_ring F_Net_ring T D_Net_is_name, ⟨a_Net_ring, i_Net_ring, k_Net_ring⟩, B_Net_ring, T.o_Net⟩
  have D_Net_lost : Mth l.prog w K mg base CX0 1 C_Net "lost" ["self"] (spLost K C_Net) := ⟨f_Net_lost, _, ok_Net_lost F_Net_lost T , ⟨a_Net_lost, i_Net_lost, k_Net_lost⟩, B_Net_lost, T.o_Net⟩
  have D_Net_next : Mth l.prog w K mg base CX0 6 C_Net "next" ["self", "environment", "name"] (spNextP K C_Net) := ⟨f_Net_next, _, ok_Net_next F_Net_next T D_Net_is_enrolled, ⟨a_Net_next, i_Net_next, k_Net_next⟩, B_Net_next, T.o_Net⟩
  have D_Net_filters : Mth l.prog w K mg base CX0 1 C_Net "filters" ["self"] (spFilters K C_Net) := ⟨f_Net_filters, _, ok_Net_filters F_Net_filters T , ⟨a_Net_filters, i_Net_filters, k_Net_filters⟩, B_Net_filters, T.o_Net⟩
  have D_Net_send : Mth l.prog w K mg base (L2.CX l.prog w) 5 C_Net "send" ["self", "packet"] (spSend K C_Net) := ⟨f_Net_send, _, ok_Net_send F_Net_send T D_is_packet, ⟨a_Net_send, i_Net_send, k_Net_send⟩, B_Net_send, T.o_Net⟩
  have D_Net_give_up : Mth l.prog w K mg base CX0 10 C_Net "give_up" ["self", "environment", "name"] (spGive K C_Net) := ⟨f_Net_give_up, _, ok_Net_give_up F_Net_give_up T D_Net_is_enrolled D_without_filter, ⟨a_Net_give_up, i_Net_give_up, k_Net_give_up⟩, B_Net_give_up, T.o_Net⟩
  have D_Net_shared_packet : Mth l.prog w K mg base CX0 2 C_Net "_shared_packet" ["self", "environment", "tests"] (spShared K C_Net) := ⟨f_Net_shared_packet, _, ok_Net_shared_packet F_Net_shared_packet T D_common, ⟨a_Net_shared_packet, i_Net_shared_packet, k_Net_shared_packet⟩, B_Net_shared_packet, T.o_Net⟩
  have D_Net_enroll : Mth l.prog w K mg base (L2.CX l.prog w) 10 C_Net "enroll" ["self", "environment", "tests"] (spEnroll K C_Net) := ⟨f_Net_enroll, _, ok_Net_enroll F_Net_enroll T D_is_environment D_is_filter D_Net_shared_packet D_with_filter, ⟨a_Net_enroll, i_Net_enroll, k_Net_enroll⟩, B_Net_enroll, T.o_Net⟩
  have D_Net_come : Mth l.prog w K mg base (L2.CX l.prog w) 10 C_Net "come" ["self", "packet"] (spCome K C_Net) := ⟨f_Net_come, _, ok_Net_come F_Net_come T D_is_packet D_found, ⟨a_Net_come, i_Net_come, k_Net_come⟩, B_Net_come, T.o_Net⟩
  have D_are_regions : Dfn l.prog w K mg base CX0 6 "_are_regions" ["value"] (spAreReg K) := ⟨f_are_regions, _, ok_are_regions F_are_regions T D_is_filter D_common, PySem.W.mg_of X G a_are_regions, k_are_regions, B_are_regions⟩
  have M_Net : Mkr l.prog w K mg base (L2.CX l.prog w) 7 "Net" C_Net ["self", "regions"] (spInitN K C_Net C_NotValid) := ⟨f_Net_init, _, ⟨m_Net, a_Net_init, i_Net_init, k_Net⟩, ok_Net_init F_Net_init T D_are_regions, B_Net_init, PySem.W.mg_of X G a_Net⟩
  have D_law_draws : Dfn l.prog w K mg base CX0 1 "_law_draws" ["script"] (spDraws K) := ⟨f_law_draws, _, ok_law_draws F_law_draws T , PySem.W.mg_of X G a_law_draws, k_law_draws, B_law_draws⟩
  have D_law_draw : Dfn l.prog w K mg base CX0 1 "_law_draw" ["draws", "many"] spNext := ⟨f_law_draw, _, ok_law_draw F_law_draw T , PySem.W.mg_of X G a_law_draw, k_law_draw, B_law_draw⟩
  have D_law_common : Dfn l.prog w K mg base CX0 1 "_law_common" ["one", "other"] (spLCom K) := ⟨f_law_common, _, ok_law_common F_law_common T , PySem.W.mg_of X G a_law_common, k_law_common, B_law_common⟩
  have D_law_meets : Dfn l.prog w K mg base CX0 1 "_law_meets" ["rows", "packet"] (spLMeets K) := ⟨f_law_meets, _, ok_law_meets F_law_meets T , PySem.W.mg_of X G a_law_meets, k_law_meets, B_law_meets⟩
  have D_law_filter : Dfn l.prog w K mg base CX0 2 "_law_filter" ["draws", "environment"] (spFil2 K) := ⟨f_law_filter, _, ok_law_filter F_law_filter T D_law_draw, PySem.W.mg_of X G a_law_filter, k_law_filter, B_law_filter⟩
  have D_law_due : Dfn l.prog w K mg base CX0 2 "_law_due" ["w", "environment", "rows"] (spDue K) := ⟨f_law_due, _, ok_law_due F_law_due T D_law_common, PySem.W.mg_of X G a_law_due, k_law_due, B_law_due⟩
  have D_law_enrolled : Dfn l.prog w K mg base CX0 11 "_law_enrolled" ["draws", "w", "net"] (spStep K C_Net) := ⟨f_law_enrolled, _, ok_law_enrolled F_law_enrolled T D_law_draw D_law_filter D_law_due D_Net_enroll, PySem.W.mg_of X G a_law_enrolled, k_law_enrolled, B_law_enrolled⟩
  have D_law_come : Dfn l.prog w K mg base CX0 11 "_law_come" ["draws", "w", "net"] (spStep K C_Net) := ⟨f_law_come, _, ok_law_come F_law_come T D_law_draw D_law_meets D_Net_come, PySem.W.mg_of X G a_law_come, k_law_come, B_law_come⟩
  have D_law_taken : Dfn l.prog w K mg base CX0 7 "_law_taken" ["draws", "w", "net"] (spStep K C_Net) := ⟨f_law_taken, _, ok_law_taken F_law_taken T D_law_draw D_Net_next, PySem.W.mg_of X G a_law_taken, k_law_taken, B_law_taken⟩
  have D_law_given_up : Dfn l.prog w K mg base CX0 11 "_law_given_up" ["draws", "w", "net"] (spStep K C_Net) := ⟨f_law_given_up, _, ok_law_given_up F_law_given_up T D_law_draw D_Net_give_up, PySem.W.mg_of X G a_law_given_up, k_law_given_up, B_law_given_up⟩
  exact ok_law F_law T D_law_draws D_law_draw M_Net D_law_enrolled D_law_come D_law_taken D_law_given_up D_Net_filters D_Net_lost D_Net_ring
theorem walk {l : PySem.W.OpenLaw} {q : Program} {loose : List Str} {XP : (Str → Option Value) → Heap → Prop} {YP : World → Heap → Prop} {d : DefRec} {K : Params → PySem.W.Frag} (hn : l.most = some 63) (hdf : d.params.defaults = [])
    (hY : ∀ (w : World) (h : Heap), YP w h → (K w.params).In h)
    (F : ∀ (w : World) (mg : Str → Option Value) (fa : Addr) (h : Heap), (K w.params).In h → h.Ns mainGlobals mg → mg d.name = some (.ref fa) →
      ∃ fd : FuncData, (∀ (s : Shared) (u : Value), BindsTo s fd ⟨[u], []⟩ [("script", u)]) ∧ ∀ base : Heap, (K w.params).In base → base.Ns mainGlobals mg → FnOk l.prog w (K w.params) mg base CX0 12 fa fd ["script"] (spLaw (K w.params))) :
    PySem.W.WalkO q loose XP YP l.row.toRowW d [] (fun f vs => PySem.call f vs) :=
  L2.walk_of (n := 63) (k := 12) (x := "script") (CX := fun _ => CX0) (sp := fun w => spLaw (K w.params)) hn (by decide) hdf ⟨rfl, by decide, by decide⟩ hY F (fun _ _ a ns hl _ hS => ⟨a, ns, rfl, hS, fun _ => rfl⟩) fun _ _ _ _ _ z => z
end My
open PySem PySem.W PyProof.Rows in
set_option maxRecDepth 100000 in
set_option maxHeartbeats 0 in
theorem PySem.Challenge.cw_steadhold_k07_net_of_many_filters_holds : PySem.Challenge.rw_steadhold_k07_net_of_many_filters.Holds := by
  w_on; o_law; k_head; (case hw => w_witness2)
  k_fill
  refine My.walk (l := PySem.Challenge.rw_steadhold_k07_net_of_many_filters) rfl rfl (fun w h Y => PySem.W.kIn_of Y) ?F
  case F =>
    intro w mg fa h KX G hmg
    refine' My.all_mk KX G hmg ?a_Net ?g1_Net ?g2_Net ?g3_Net ?g4_Net ?m_Net ?k_Net ?n_Net__regions ?n_Net__enrolled ?n_Net__rings ?n_Net__tree ?n_Net__last_name ?n_Net__sent ?n_Net__lost ?a_NotValid ?k_NotValid ?x_NotValid ?e1_NotValid ?e2_NotValid ?e3_NotValid ?e4_NotValid ?a_is_at_least ?l_is_at_least ?q_is_at_least ?k_is_at_least ?a_is_between ?l_is_between ?q_is_between ?k_is_between ?a_is_index ?l_is_index ?q_is_index ?k_is_index ?a_is_word ?l_is_word ?q_is_word ?k_is_word ?a_is_packet ?l_is_packet ?q_is_packet ?k_is_packet ?a_is_test ?l_is_test ?q_is_test ?k_is_test ?a_is_filter ?l_is_filter ?q_is_filter ?k_is_filter ?a_common ?l_common ?q_common ?k_common ?a_children ?l_children ?q_children ?k_children ?a_child ?l_child ?q_child ?k_child ?a_names_behind ?l_names_behind ?q_names_behind ?k_names_behind ?a_with_child ?l_with_child ?q_with_child ?k_with_child ?a_with_branch ?l_with_branch ?q_with_branch ?k_with_branch ?a_with_names_behind ?l_with_names_behind ?q_with_names_behind ?k_with_names_behind ?a_names_met ?l_names_met ?q_names_met ?k_names_met ?a_with_filter ?l_with_filter ?q_with_filter ?k_with_filter ?a_without_filter ?l_without_filter ?q_without_filter ?k_without_filter ?a_found ?l_found ?q_found ?k_found ?a_is_environment ?l_is_environment ?q_is_environment ?k_is_environment ?a_Net_is_name ?i_Net_is_name ?l_Net_is_name ?q_Net_is_name ?k_Net_is_name ?a_Net_is_enrolled ?i_Net_is_enrolled ?l_Net_is_enrolled ?q_Net_is_enrolled ?k_Net_is_enrolled ?a_Net_ring ?i_Net_ring ?l_Net_ring ?q_Net_ring ?k_Net_ring ?a_Net_lost ?i_Net_lost ?l_Net_lost ?q_Net_lost ?k_Net_lost ?a_Net_next ?i_Net_next ?l_Net_next ?q_Net_next ?k_Net_next ?a_Net_filters ?i_Net_filters ?l_Net_filters ?q_Net_filters ?k_Net_filters ?a_Net_send ?i_Net_send ?l_Net_send ?q_Net_send ?k_Net_send ?a_Net_give_up ?i_Net_give_up ?l_Net_give_up ?q_Net_give_up ?k_Net_give_up ?a_Net_shared_packet ?i_Net_shared_packet ?l_Net_shared_packet ?q_Net_shared_packet ?k_Net_shared_packet ?a_Net_enroll ?i_Net_enroll ?l_Net_enroll ?q_Net_enroll ?k_Net_enroll ?a_Net_come ?i_Net_come ?l_Net_come ?q_Net_come ?k_Net_come ?a_are_regions ?l_are_regions ?q_are_regions ?k_are_regions ?a_Net_init ?i_Net_init ?l_Net_init ?q_Net_init ?k_Net_init ?a_law_draws ?l_law_draws ?q_law_draws ?k_law_draws ?a_law_draw ?l_law_draw ?q_law_draw ?k_law_draw ?a_law_common ?l_law_common ?q_law_common ?k_law_common ?a_law_meets ?l_law_meets ?q_law_meets ?k_law_meets ?a_law_filter ?l_law_filter ?q_law_filter ?k_law_filter ?a_law_due ?l_law_due ?q_law_due ?k_law_due ?a_law_enrolled ?l_law_enrolled ?q_law_enrolled ?k_law_enrolled ?a_law_come ?l_law_come ?q_law_come ?k_law_come ?a_law_taken ?l_law_taken ?q_law_taken ?k_law_taken ?a_law_given_up ?l_law_given_up ?q_law_given_up ?k_law_given_up ?a_law ?l_law ?q_law ?k_law ?y_EMPTY ?l_EMPTY ?l_E1 ?l_E2 ?z_abs ?z_all ?z_bool ?z_dict ?z_enumerate ?z_int ?z_isinstance ?z_len ?z_list ?z_range ?z_sorted ?z_tuple ?y_ENVIRONMENTS ?y_FIELDS ?y_RING ?y_TOP
    (case a_Net => k_is)
    (case g1_Net => k_is)
    (case g2_Net => k_is)
    (case g3_Net => k_is)
    (case g4_Net => k_is)
    (case m_Net => k_is)
    (case k_Net => k_is)
    (case n_Net__regions => k_is)
    (case n_Net__enrolled => k_is)
    (case n_Net__rings => k_is)
    (case n_Net__tree => k_is)
    (case n_Net__last_name => k_is)
    (case n_Net__sent => k_is)
    (case n_Net__lost => k_is)
    (case a_NotValid => k_is)
    (case k_NotValid => k_is)
    (case x_NotValid => k_exc)
    (case e1_NotValid => k_is)
    (case e2_NotValid => k_is)
    (case e3_NotValid => k_is)
    (case e4_NotValid => first | rfl | k_is)
    (case a_is_at_least => k_is)
    (case l_is_at_least => k_is)
    (case q_is_at_least => k_is)
    (case k_is_at_least => k_is)
    (case a_is_between => k_is)
    (case l_is_between => k_is)
    (case q_is_between => k_is)
    (case k_is_between => k_is)
    (case a_is_index => k_is)
    (case l_is_index => k_is)
    (case q_is_index => k_is)
    (case k_is_index => k_is)
    (case a_is_word => k_is)
    (case l_is_word => k_is)
    (case q_is_word => k_is)
    (case k_is_word => k_is)
    (case a_is_packet => k_is)
    (case l_is_packet => k_is)
    (case q_is_packet => k_is)
    (case k_is_packet => k_is)
    (case a_is_test => k_is)
    (case l_is_test => k_is)
    (case q_is_test => k_is)
    (case k_is_test => k_is)
    (case a_is_filter => k_is)
    (case l_is_filter => k_is)
    (case q_is_filter => k_is)
    (case k_is_filter => k_is)
    (case a_common => k_is)
    (case l_common => k_is)
    (case q_common => k_is)
    (case k_common => k_is)
    (case a_children => k_is)
    (case l_children => k_is)
    (case q_children => k_is)
    (case k_children => k_is)
    (case a_child => k_is)
    (case l_child => k_is)
    (case q_child => k_is)
    (case k_child => k_is)
    (case a_names_behind => k_is)
    (case l_names_behind => k_is)
    (case q_names_behind => k_is)
    (case k_names_behind => k_is)
    (case a_with_child => k_is)
    (case l_with_child => k_is)
    (case q_with_child => k_is)
    (case k_with_child => k_is)
    (case a_with_branch => k_is)
    (case l_with_branch => k_is)
    (case q_with_branch => k_is)
    (case k_with_branch => k_is)
    (case a_with_names_behind => k_is)
    (case l_with_names_behind => k_is)
    (case q_with_names_behind => k_is)
    (case k_with_names_behind => k_is)
    (case a_names_met => k_is)
    (case l_names_met => k_is)
    (case q_names_met => k_is)
    (case k_names_met => k_is)
    (case a_with_filter => k_is)
    (case l_with_filter => k_is)
    (case q_with_filter => k_is)
    (case k_with_filter => k_is)
    (case a_without_filter => k_is)
    (case l_without_filter => k_is)
    (case q_without_filter => k_is)
    (case k_without_filter => k_is)
    (case a_found => k_is)
    (case l_found => k_is)
    (case q_found => k_is)
    (case k_found => k_is)
    (case a_is_environment => k_is)
    (case l_is_environment => k_is)
    (case q_is_environment => k_is)
    (case k_is_environment => k_is)
    (case a_Net_is_name => k_is)
    (case i_Net_is_name => k_is)
    (case l_Net_is_name => k_is)
    (case q_Net_is_name => k_is)
    (case k_Net_is_name => k_is)
    (case a_Net_is_enrolled => k_is)
    (case i_Net_is_enrolled => k_is)
    (case l_Net_is_enrolled => k_is)
    (case q_Net_is_enrolled => k_is)
    (case k_Net_is_enrolled => k_is)
    (case a_Net_ring => k_is)
    (case i_Net_ring => k_is)
    (case l_Net_ring => k_is)
    (case q_Net_ring => k_is)
    (case k_Net_ring => k_is)
    (case a_Net_lost => k_is)
    (case i_Net_lost => k_is)
    (case l_Net_lost => k_is)
    (case q_Net_lost => k_is)
    (case k_Net_lost => k_is)
    (case a_Net_next => k_is)
    (case i_Net_next => k_is)
    (case l_Net_next => k_is)
    (case q_Net_next => k_is)
    (case k_Net_next => k_is)
    (case a_Net_filters => k_is)
    (case i_Net_filters => k_is)
    (case l_Net_filters => k_is)
    (case q_Net_filters => k_is)
    (case k_Net_filters => k_is)
    (case a_Net_send => k_is)
    (case i_Net_send => k_is)
    (case l_Net_send => k_is)
    (case q_Net_send => k_is)
    (case k_Net_send => k_is)
    (case a_Net_give_up => k_is)
    (case i_Net_give_up => k_is)
    (case l_Net_give_up => k_is)
    (case q_Net_give_up => k_is)
    (case k_Net_give_up => k_is)
    (case a_Net_shared_packet => k_is)
    (case i_Net_shared_packet => k_is)
    (case l_Net_shared_packet => k_is)
    (case q_Net_shared_packet => k_is)
    (case k_Net_shared_packet => k_is)
    (case a_Net_enroll => k_is)
    (case i_Net_enroll => k_is)
    (case l_Net_enroll => k_is)
    (case q_Net_enroll => k_is)
    (case k_Net_enroll => k_is)
    (case a_Net_come => k_is)
    (case i_Net_come => k_is)
    (case l_Net_come => k_is)
    (case q_Net_come => k_is)
    (case k_Net_come => k_is)
    (case a_are_regions => k_is)
    (case l_are_regions => k_is)
    (case q_are_regions => k_is)
    (case k_are_regions => k_is)
    (case a_Net_init => k_is)
    (case i_Net_init => k_is)
    (case l_Net_init => k_is)
    (case q_Net_init => k_is)
    (case k_Net_init => k_is)
    (case a_law_draws => k_is)
    (case l_law_draws => k_is)
    (case q_law_draws => k_is)
    (case k_law_draws => k_is)
    (case a_law_draw => k_is)
    (case l_law_draw => k_is)
    (case q_law_draw => k_is)
    (case k_law_draw => k_is)
    (case a_law_common => k_is)
    (case l_law_common => k_is)
    (case q_law_common => k_is)
    (case k_law_common => k_is)
    (case a_law_meets => k_is)
    (case l_law_meets => k_is)
    (case q_law_meets => k_is)
    (case k_law_meets => k_is)
    (case a_law_filter => k_is)
    (case l_law_filter => k_is)
    (case q_law_filter => k_is)
    (case k_law_filter => k_is)
    (case a_law_due => k_is)
    (case l_law_due => k_is)
    (case q_law_due => k_is)
    (case k_law_due => k_is)
    (case a_law_enrolled => k_is)
    (case l_law_enrolled => k_is)
    (case q_law_enrolled => k_is)
    (case k_law_enrolled => k_is)
    (case a_law_come => k_is)
    (case l_law_come => k_is)
    (case q_law_come => k_is)
    (case k_law_come => k_is)
    (case a_law_taken => k_is)
    (case l_law_taken => k_is)
    (case q_law_taken => k_is)
    (case k_law_taken => k_is)
    (case a_law_given_up => k_is)
    (case l_law_given_up => k_is)
    (case q_law_given_up => k_is)
    (case k_law_given_up => k_is)
    (case a_law => k_is)
    (case l_law => k_is)
    (case q_law => k_is)
    (case k_law => k_is)
    (case y_EMPTY => k_is)
    (case l_EMPTY => k_is)
    (case l_E1 => k_is)
    (case l_E2 => k_is)
    (case z_abs => k_is)
    (case z_all => k_is)
    (case z_bool => k_is)
    (case z_dict => k_is)
    (case z_enumerate => k_is)
    (case z_int => k_is)
    (case z_isinstance => k_is)
    (case z_len => k_is)
    (case z_list => k_is)
    (case z_range => k_is)
    (case z_sorted => k_is)
    (case z_tuple => k_is)
    (case y_ENVIRONMENTS => k_is)
    (case y_FIELDS => k_is)
    (case y_RING => k_is)
    (case y_TOP => k_is)
