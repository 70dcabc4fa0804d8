import PyProof.Rows.All
import Wide.All
import OpenK.AllK
import Wide.FinOn
import HandS.ForMost
import HandS.IsInst
import HandS.Exc
import HandS.TryOnly
import HandS.ExcOwn
import HandS.WordsExc
import HandS.RaiseMore
import HandS.Codes
import HandS.TupAny
import PySem.Challenge.RW_steadhold_k03_types
import HandS.Zip
import HandS.TupMul
import HandS.TupLe
import HandS.Deep
set_option Elab.async false
set_option linter.all false
set_option maxRecDepth 100000
set_option maxHeartbeats 4000000
namespace My
open PySem L2
/-! ### rules that the layer lacks -/
section
variable {X : Cx}
/-- xs[i] as the read of xs[i] op= e -/
theorem get_list : PGet X (rIxL X.K) := fun pins s0 σ H o1 o2 u1 u2 Q I r1 r2 hh => by
  obtain ⟨l, xs, n, z, e1, e2, hl, hn, q⟩ := hh
  subst e1; subst e2
  cases r1
  obtain ⟨tk, e3⟩ := r2
  subst e3
  obtain ⟨us, rel, pll, _⟩ := I.list hl
  obtain ⟨j, c1, c2, _, c4, c5⟩ := atI_get hn
  obtain ⟨u, hu, ru⟩ := rel.get c2
  have len := rel.length
  have big := line63
  have goal : EP X pins σ Q u s0 := ⟨z, H, I, ru, q⟩
  rcases Int.lt_or_le n 0 with neg | pos
  · have hj : (n + (us.toArray.size : Int)).toNat = j := by
      rw [seqIndex_neg neg c4] at c1
      have c1' := Option.some.inj c1
      simpa [← len] using c1'
    exact PySem.wpAny_getItem_list_neg pll.isList neg (by simp; omega) (by omega) (by rw [hj]; simpa using hu) goal
  · have hj : n.toNat = j := by
      rw [seqIndex_of pos c5] at c1
      exact Option.some.inj c1
    exact PySem.wpAny_getItem_list pll.isList pos (by omega) (by rw [hj]; simpa using hu) goal
/-- a module's int, text -/
theorem pe_gint {x : Str} {i : Int} {pos : Pos} (hg : Gl X x) (hm : ∃ t, X.mg x = some (.int i t)) (hd : (x == ("__debug__" : Str)) = false := by decide) : PE X (.Name x pos) (tC (.int i)) := by
  obtain ⟨t, hm⟩ := hm
  exact pe_glob hg hm ⟨t, rfl⟩ hd
theorem pe_gstr {x i : Str} {pos : Pos} (hg : Gl X x) (hm : ∃ t, X.mg x = some (.str i t)) (hd : (x == ("__debug__" : Str)) = false := by decide) : PE X (.Name x pos) (tC (.str i)) := by
  obtain ⟨t, hm⟩ := hm
  exact pe_glob hg hm ⟨t, rfl⟩ hd
end
/-! ### rules with the written part named -/
def rLen (K : PySem.W.Frag) : List V → Hp → VK → Prop := fun xs H Q => ∃ p ys, xs = [.ref p] ∧ (SqL K H p ys ∨ SqT K H p ys) ∧ Q (.int ys.length) H
def rListOf (K : PySem.W.Frag) : List V → Hp → VK → Prop := fun xs H Q => ∃ p ys, xs = [.ref p] ∧ (SqL K H p ys ∨ SqT K H p ys) ∧ ∀ l, H l = none → Q (.ref l) (upd H l (.lst ys))
def rTupOf (K : PySem.W.Frag) : List V → Hp → VK → Prop := fun xs H Q => ∃ p ys, xs = [.ref p] ∧ ((SqL K H p ys ∧ ∀ l, H l = none → Q (.ref l) (upd H l (.tup ys))) ∨ (SqT K H p ys ∧ Q (.ref p) H))
section
variable {X : Cx} (K : PySem.W.Frag)
theorem kIxL (h : X.K = K := by rfl) : IxR X (rIxL K) := by subst h; exact ix_list
theorem kIxT (h : X.K = K := by rfl) : IxR X (rIxT K) := by subst h; exact ix_tup
theorem kGetL (h : X.K = K := by rfl) : PGet X (rIxL K) := by subst h; exact get_list
theorem kSlL (h : X.K = K := by rfl) : SlR X (rSlL K) := by subst h; exact sl_list
theorem kSlT (h : X.K = K := by rfl) : SlR X (rSlA K) := by subst h; exact sl_tupA
theorem kEqD (hu : X.A.units + 64 < cLine) (h : X.K = K := by rfl) : OpR X (compareOp .Eq) (rEqD K) := by subst h; exact op_eqD hu
theorem kNeD (hu : X.A.units + 64 < cLine) (h : X.K = K := by rfl) : OpR X (compareOp .NotEq) (rNeD K) := by subst h; exact op_neD hu
theorem kIn (h : X.K = K := by rfl) : OpR X (compareOp .In) (rIn K false) := by subst h; exact op_in_seq
theorem kNotIn (h : X.K = K := by rfl) : OpR X (compareOp .NotIn) (rIn K true) := by subst h; exact op_notIn_seq
theorem kCatT (h : X.K = K := by rfl) : OpR X (binaryOp .Add) (rCatA K) := by subst h; exact op_catA
theorem kLen (h : X.K = K := by rfl) : CallR X (.builtin "len") (rLen K) := by subst h; exact call_len_seq
theorem kListOf (h : X.K = K := by rfl) : CallR X (.type "list") (rListOf K) := by subst h; exact call_list_of
theorem kTupOf (h : X.K = K := by rfl) : CallR X (.type "tuple") (rTupOf K) := by subst h; exact call_tuple_of
theorem kIsi (h : X.K = K := by rfl) : CallR X (.builtin "isinstance") (rIsi K) := by subst h; exact call_isi
theorem kAll (hc : X.calm = true) (h : X.K = K := by rfl) : CallR X (.builtin "all") (rAll K) := by subst h; exact cr_all hc
theorem kAny (hc : X.calm = true) (h : X.K = K := by rfl) : CallR X (.builtin "any") (rAny K) := by subst h; exact cr_any hc
theorem kSum (hc : X.calm = true) (h : X.K = K := by rfl) : CallR X (.builtin "sum") (rSum K) := by subst h; exact cr_sum hc
theorem kSorted (h : X.K = K := by rfl) : CallR X (.builtin "sorted") (rSorted K) := by subst h; exact cr_sorted
theorem kIndex (h : X.K = K := by rfl) : MtR X "list.index" (rIndex K) := by subst h; exact mt_index
section
variable {tg l : Expr} {tl : TE} {pos : Pos}
theorem kpiL (hl : PE X l tl) (h : X.K = K := by rfl) : PI X tg l (iList K tl) := by subst h; exact pi_list hl
theorem kpiT (hl : PE X l tl) (h : X.K = K := by rfl) : PI X tg l (iTup K tl) := by subst h; exact pi_tup hl
theorem kpgT {es : List Expr} {k : Nat} {t : TGs} {n : Nat} (hc : X.calm = true) (hh : PGs X es t)
    (hn : (assignEach es X.env).length = n := by rfl) (hst : (assignEach es X.env).findIdx? (·.1) = none := by rfl) (h : X.K = K := by rfl) : PG X (.Tuple es k pos) (gTup K n t) := by subst h; exact pg_tup hc hh hn hst
theorem kBM0 {o : Expr} {to : TE} {name : Str} {apos cpos : Pos} {T id : String} {r : V → List V → Hp → VK → Prop} (pa : PlainAttrs T) (slot : Slot T name id) (hty : typeOf (.builtin id) = pure (.type "method_descriptor")) (hm : MtR X id r) (ho : PE X o to)
    (hbase : attributeBase o name X.env (eval o X.env) = eval o X.env := by rfl) (hline : (apos.endLine == cpos.line) = true := by rfl) (h : X.K = K := by rfl) : PE X (.Call (.Attribute o name apos) [] [] cpos) (tBM0 K T r to) := by
  subst h; exact pe_bm0 pa slot hty hm ho hbase hline
theorem kBM {o e : Expr} {es : List Expr} {to : TE} {t : TA} {name : Str} {apos cpos : Pos} {T id : String} {r : V → List V → Hp → VK → Prop} (pa : PlainAttrs T) (slot : Slot T name id) (hty : typeOf (.builtin id) = pure (.type "method_descriptor")) (hm : MtR X id r) (ho : PE X o to) (ha : PA X (e :: es) t)
    (hbase : attributeBase o name X.env (eval o X.env) = eval o X.env := by rfl)
    (hfew : ((backTo cpos (starEach (e :: es) X.env)).all (fun x => !x.1) && (backToKw cpos (keywordEach [] X.env)).all (fun x => x.1.isSome)
      && decide ((e :: es).length + ([] : List Keyword).length + (if ([] : List Keyword).isEmpty then 0 else 1) < 30)) = true := by rfl)
    (hline : (apos.endLine == cpos.line) = true := by rfl) (hs : starEach (e :: es) X.env = (false, eval e X.env) :: starEach es X.env := by rfl) (hplain : (backTo cpos (starEach es X.env)).any (·.1) = false := by rfl) (h : X.K = K := by rfl) :
    PE X (.Call (.Attribute o name apos) (e :: es) [] cpos) (tBM K T r to t) := by
  subst h; exact pe_bm pa slot hty hm ho ha hbase hfew hline hs hplain
theorem kSFld {o value : Expr} {f : Str} {pos' : Pos} {ta tv : TE} (ha : PE X o ta) (hv : PE X value tv) (hs : swapsWith value (some (.Attribute o f pos')) pos.line X.env = pure false) (h : X.K = K := by rfl) : PS X (.Assign [.Attribute o f pos'] value pos) (sFld K ta tv f) := by subst h; exact ps_fld ha hv hs
theorem kSFldA {o value : Expr} {f : Str} {tpos : Pos} {ta tv : TE} {op : Operator} {rd : V → V → Hp → VK → Prop} (ha : PE X o ta) (hv : PE X value tv) (hop : InOp X op rd) (h : X.K = K := by rfl) : PS X (.AugAssign (.Attribute o f tpos) op value pos) (sFldAug K ta tv rd f) := by subst h; exact ps_fldaug ha hv hop
theorem kFld {f : Str} (he : PE X l tl) (hb : attributeBase l f X.env (eval l X.env) = eval l X.env) (h : X.K = K := by rfl) : PE X (.Attribute l f pos) (tFld K tl f) := by subst h; exact pe_fld he hb
end
end
/-! ### xs.count(y), flat items -/
theorem countP_eqU {x : V} {v : Value} (rx : RelV x v) : ∀ {xs : List V} {us : List Value}, Vals xs us → xs.all flatV = true → us.countP (eqU x) = xs.countP fun y => eqV y x
  | _, _, .nil, _ => rfl
  | y :: xs, u :: us, .cons r t, f => by
    rw [List.all_cons, Bool.and_eq_true] at f
    rw [List.countP_cons, List.countP_cons, countP_eqU rx t f.2, eqU_of r f.1]
def rCount (K : PySem.W.Frag) : V → List V → Hp → VK → Prop := fun x vs H Q => ∃ (p : Addr) (xs : List V) (y : V), x = .ref p ∧ vs = [y] ∧ SqL K H p xs ∧ flatV y = true ∧ xs.all flatV = true ∧ Q (.int (xs.countP (fun z => eqV z y) : Nat)) H
theorem kCount {X : Cx} (K : PySem.W.Frag) (h : X.K = K := by rfl) : MtR X "list.count" (rCount K) := by
  subst h
  intro pins s0 σ H x vs u us Q I r1 r2 hh
  obtain ⟨p, xs, y, rfl, rfl, hl, fy, fx, q⟩ := hh
  cases r1
  cases r2 with
  | cons ry rn =>
    cases rn
    obtain ⟨ws, rel, ⟨⟨c0, d0, dat, sl0⟩, n, ho, hc, _, hd⟩, _⟩ := I.list hl
    dsimp only at hc hd
    subst hc hd
    refine call_meets PySem.F.slot_list_count ⟨_, ho, rfl⟩ PySem.F.entry_list_count (PySem.F.args_list_count_2 _ _)
      (SeqAt.list_countAt p ws.toArray n d0 sl0 _ (eqU y)) ⟨ho, fun z hz => mem_eqAt ry fy rel fx z (by simpa using hz), ?_⟩
    refine ⟨.int (xs.countP (fun z => eqV z y) : Nat), H, I.tok _, ⟨s0.toks, ?_⟩, q⟩
    rw [← countP_eqU ry rel fx]
/-! ### a def by its name -/
section
variable {P : Program} {w : World} {K : PySem.W.Frag} {mg : Str → Option Value} {base : Heap}
structure Dfn (P : Program) (w : World) (K : PySem.W.Frag) (mg : Str → Option Value) (base : Heap) (CX : CXT) (k : Nat) (x : Str) (ps : List Str) (sp : Sp) : Prop where
  ex : ∃ f fd, FnOk P w K mg base CX k f fd ps sp ∧ mg x = some (.ref f) ∧ PySem.W.keepIn K (.ref f) = true ∧ Binds K fd ps []
theorem Dfn.imp {CX : CXT} {k : Nat} {x : Str} {ps : List Str} {sp sp' : Sp} (D : Dfn P w K mg base CX k x ps sp) (h : ∀ vs H Q E, sp' vs H Q E → sp vs H Q E) : Dfn P w K mg base CX k x ps sp' := by
  obtain ⟨f, fd, F, a, b, c⟩ := D.ex
  exact ⟨f, fd, F.imp h, a, b, c⟩
end
section
variable {X : Cx} {CX : CXT} {k : Nat} {x : Str} {ps : List Str} {sp : Sp} {E : XK} {t : TA} {e : Expr} {es : List Expr} {p pos : Pos}
theorem pe_dcall (D : Dfn X.prog X.w X.K X.mg X.base CX k x ps sp) (hr : Room k X.A) (hg : Gl X x) (hx : Passes CX X E) (ha : PA X (e :: es) t) (hdb : (x == ("__debug__" : Str)) = false := by decide)
    (he : starEach (e :: es) X.env = (false, eval e X.env) :: starEach es X.env := by rfl) (hpl : (backTo pos (starEach es X.env)).any (·.1) = false := by rfl) : PE X (.Call (.Name x p) (e :: es) [] pos) (tCall sp [] E t) := by
  obtain ⟨f, fd, F, hm, hk, hb⟩ := D.ex
  exact pe_call F hr hg hm hk hb .nil hx ha hdb he hpl
theorem pe_dcall0 (D : Dfn X.prog X.w X.K X.mg X.base CX k x ps sp) (hr : Room k X.A) (hg : Gl X x) (hx : Passes CX X E) (hdb : (x == ("__debug__" : Str)) = false := by decide) : PE X (.Call (.Name x p) [] [] pos) (tCall sp [] E tNil) := by
  obtain ⟨f, fd, F, hm, hk, hb⟩ := D.ex
  exact pe_call0 F hr hg hm hk hb .nil hx hdb
end
/-! ### own errors, objects, methods by their names -/
/-- an own error class without an __init__, over ValueError -/
structure Exn (K : PySem.W.Frag) (mg : Str → Option Value) (x : Str) (C : Addr) : Prop where
  gC : mg x = some (.ref C)
  kC : PySem.W.keepIn K (.ref C) = true
  xI : PySem.W.excIn K C [.type "ValueError", .type "Exception", .type "BaseException", .type "object"] "ValueError.__new__" = true
  bE : PySem.W.subIn K (.ref C) (.type "BaseException") = some true
  tE : PySem.W.typeIn K (.ref C) = some (.type "type")
  eE : PySem.W.exmOne K (.ref C) (.ref C) = some true
section
variable {X : Cx} {C : Addr} {x : Str} {p pos : Pos}
/-- X() of such a class -/
theorem pmk_x (N : Exn X.K X.mg x C) (hg : Gl X x) (hdb : (x == ("__debug__" : Str)) = false := by decide) : PMk X (.Call (.Name x p) [] [] pos) (fun _ H Q => Q (.ref C) none H) := fun pins s σ H Q I h => by
  refine wpAny_Call_Name_kw (ld_glob I hg N.gC ?_ hdb)
  refine PySem.W.callWith_K0 (first := []) I.kIn N.kC ?_
  obtain ⟨m1, m2, m3, m4, m5, m6, m7, m8, m9, m10, m11, r0, r1, r2, r3, r4, mN, hC, hN, hi, tl⟩ := exc_obj I.kIn N.xI
  exact wpAny_call_exc_subT PySem.F.excBase_ValueError tl hC hN hi (fun _ _ made => mk_of I made (raises_own N.bE N.tE) h (I.hok.gone made.new)) (Nat.zero_le _)
end
section
variable {P : Program} {w : World} {K : PySem.W.Frag} {mg : Str → Option Value} {base : Heap}
/-- a method of the class at C -/
structure Mth (P : Program) (w : World) (K : PySem.W.Frag) (mg : Str → Option Value) (base : Heap) (CX : CXT) (k : Nat) (C : Addr) (m : Str) (ps : List Str) (sp : Sp) : Prop where
  ex : ∃ f fd, FnOk P w K mg base CX k f fd ps sp ∧ Meth K C m f ∧ Binds K fd ps [] ∧ Cls K C
/-- the making of its instances -/
structure Mkr (P : Program) (w : World) (K : PySem.W.Frag) (mg : Str → Option Value) (base : Heap) (CX : CXT) (k : Nat) (x : Str) (C : Addr) (ps : List Str) (sp : Sp) : Prop where
  ex : ∃ f fd, Mk K C f ∧ FnOk P w K mg base CX k f fd ps sp ∧ Binds K fd ps [] ∧ mg x = some (.ref C)
end
section
variable {X : Cx} {CX : CXT} {k : Nat} {C : Addr} {m x : Str} {ps : List Str} {sp : Sp} {E : XK} {t : TA} {ta : TE} {e o : Expr} {es : List Expr} {p pos apos : Pos}
theorem pe_dmeth {pl : Sem Bool} (he : PE X o ta) (D : Mth X.prog X.w X.K X.mg X.base CX k C m ps sp) (hr : Room k X.A) (hx : Passes CX X E) (ha : PA X (e :: es) t)
    (hst : starEach (e :: es) X.env = (false, eval e X.env) :: starEach es X.env := by rfl) (hpl : (backTo pos (starEach es X.env)).any (·.1) = false := by rfl)
    (ht : eval (.Call (.Attribute o m apos) (e :: es) [] pos) X.env = (do
      let ov ← eval o X.env
      standAt apos.atName
      let (f, first) ← holding [ov] (getMethod ov m pl)
      callWith pos f first (backTo pos (starEach (e :: es) X.env)) (backToKw pos (keywordEach [] X.env))) := by rfl) :
    PE X (.Call (.Attribute o m apos) (e :: es) [] pos) (tMeth C m sp [] E ta t) := by
  obtain ⟨f, fd, F, hm, hb, c⟩ := D.ex
  exact pe_meth (pl := pl) he c hm F hr hb .nil hx ha hst hpl ht
theorem pe_dmeth0 {pl : Sem Bool} (he : PE X o ta) (D : Mth X.prog X.w X.K X.mg X.base CX k C m ps sp) (hr : Room k X.A) (hx : Passes CX X E)
    (ht : eval (.Call (.Attribute o m apos) [] [] pos) X.env = (do
      let ov ← eval o X.env
      standAt apos.atName
      let (f, first) ← holding [ov] (getMethod ov m pl)
      callWith pos f first (backTo pos (starEach [] X.env)) (backToKw pos (keywordEach [] X.env))) := by rfl) :
    PE X (.Call (.Attribute o m apos) [] [] pos) (tMeth C m sp [] E ta tNil) := by
  obtain ⟨f, fd, F, hm, hb, c⟩ := D.ex
  exact pe_meth0 (pl := pl) he c hm F hr hb .nil hx ht
theorem pe_dmake (D : Mkr X.prog X.w X.K X.mg X.base CX k x C ps sp) (hr : Room (k + 1) X.A) (hg : Gl X x) (hx : Passes CX X E) (ha : PA X (e :: es) t) (hdb : (x == ("__debug__" : Str)) = false := by decide)
    (he : starEach (e :: es) X.env = (false, eval e X.env) :: starEach es X.env := by rfl) (hpl : (backTo pos (starEach es X.env)).any (·.1) = false := by rfl) : PE X (.Call (.Name x p) (e :: es) [] pos) (tMake C sp [] E t) := by
  obtain ⟨f, fd, M, F, hb, hm⟩ := D.ex
  exact pe_make M F hr hg hm hb .nil hx ha hdb he hpl
/-- out of a try's body: what is wished at all slots -/
abbrev EA (W : WX) : XK := fun cls d H => ∀ σ, W cls d σ H
theorem passT {W : WX} (tk : Takes X W) : Passes (L2.CX X.prog X.w) X (EA W) := passes_call tk fun _ _ σ _ h => h σ
end
/-! ### heaps -/
/-- all but a is kept -/
def Chg (a : Addr) (H H' : Hp) : Prop := ∀ b o, b ≠ a → H b = some o → H' b = some o
/-- tuples never change -/
def TS (H H' : Hp) : Prop := ∀ b xs, H b = some (.tup xs) → H' b = some (.tup xs)
theorem TS.refl (H : Hp) : TS H H := fun _ _ h => h
theorem TS.trans {H H1 H2 : Hp} (a : TS H H1) (b : TS H1 H2) : TS H H2 := fun c xs h => b c xs (a c xs h)
theorem Same.ts {H H' : Hp} (s : Same H H') : TS H H' := fun b xs h => s b _ h
theorem Chg.refl (a : Addr) (H : Hp) : Chg a H H := fun _ _ _ h => h
theorem Chg.trans {a : Addr} {H H1 H2 : Hp} (x : Chg a H H1) (y : Chg a H1 H2) : Chg a H H2 := fun b o n h => y b o n (x b o n h)
theorem Same.chg {a : Addr} {H H' : Hp} (s : Same H H') : Chg a H H' := fun b o _ h => s b o h
theorem Same.new {H : Hp} {p : Addr} {o : HO} (h : H p = none) : Same H (upd H p o) := fun b u e => by
  rw [upd_ne (ne_of_none e h)]
  exact e
theorem Chg.upd {a : Addr} {H : Hp} {o : HO} : Chg a H (upd H a o) := fun b u n e => by
  rw [upd_ne n]
  exact e
theorem Chg.ts {a : Addr} {H H' : Hp} {xs : List V} (c : Chg a H H') (h : H a = some (.lst xs)) : TS H H' := fun b ys e => c b _ (ne_of e h (by intro z; cases z)) e
/-- a new object may change at will -/
theorem Same.mut {H H' : Hp} {p : Addr} {o : HO} (s : Same H H') (h : H p = none) : Same H (L2.upd H' p o) := fun b u e => by
  rw [upd_ne (ne_of_none e h)]
  exact s b u e
theorem Chg.mut {a : Addr} {H H' : Hp} {p : Addr} {o : HO} (s : Chg a H H') (h : H p = none) : Chg a H (L2.upd H' p o) := fun b u n e => by
  rw [upd_ne (ne_of_none e h)]
  exact s b u n e
/-- a word that the steps do not look into -/
@[irreducible] def Hide (p : Prop) : Prop := p
theorem hide {p : Prop} (h : p) : Hide p := by unfold Hide; exact h
theorem Hide.out {p : Prop} (h : Hide p) : p := by unfold Hide at h; exact h
/-! ### small lemmas of readings -/
theorem iteD {c : Prop} [Decidable c] {A B : Prop} (h1 : c → A) (h2 : ¬ c → B) : if decide c = true then A else B := by
  by_cases h : c
  · rw [if_pos (decide_eq_true h)]; exact h1 h
  · rw [if_neg (by rw [decide_eq_false h]; decide)]; exact h2 h
theorem iteDn {c : Prop} [Decidable c] {A B : Prop} (h1 : ¬ c → A) (h2 : c → B) : if (!decide c) = true then A else B := by
  by_cases h : c
  · rw [if_neg (by rw [decide_eq_true h]; decide)]; exact h2 h
  · rw [if_pos (by rw [decide_eq_false h]; rfl)]; exact h1 h
theorem iteB {b : Bool} {A B : Prop} (h1 : b = true → A) (h2 : b = false → B) : if b = true then A else B := by
  cases b
  · rw [if_neg Bool.false_ne_true]; exact h2 rfl
  · rw [if_pos rfl]; exact h1 rfl
theorem at0 {a : V} {l : List V} : atI (a :: l) 0 = some a := by
  rw [show (0 : Int) = ((0 : Nat) : Int) from rfl]; exact atI_nat (by rfl)
theorem atC {xs : List V} {i : Int} {v : V} (j : Nat) (e : i = (j : Int)) (h : xs[j]? = some v) : atI xs i = some v := by rw [e]; exact atI_nat h
theorem ixC {n : Nat} {i : Int} (j : Nat) (e : i = (j : Int)) (h : j < n) : ixN n i = some j := by
  subst e
  unfold ixN
  rw [if_pos (by omega), if_pos (by omega)]
  simp
theorem szl {n : Nat} (h : Nat.ble n 100 = true) : n ≤ sizeLine := Nat.le_trans (Nat.le_of_ble_eq_true h) (by decide)
theorem szn {n : Nat} (h : n ≤ 100000) : n ≤ sizeLine := Nat.le_trans h (by decide)
theorem szt {n : Nat} (h : n < 100000) : n < sizeLine := Nat.lt_of_lt_of_le h (by decide)
/-! ### data over the heap -/
mutual
inductive Dt (H : Hp) : V → PyData → Prop
  | non : Dt H .non .none
  | bl (b : Bool) : Dt H (.bl b) (.bool b)
  | int (i : Int) : Dt H (.int i) (.int i)
  | str (x : Str) : Dt H (.str x) (.str x)
  | lst {a : Addr} {xs : List V} {ds : List PyData} : H a = some (.lst xs) → DtAll H xs ds → Dt H (.ref a) (.list ds)
  | tup {a : Addr} {xs : List V} {ds : List PyData} : H a = some (.tup xs) → DtAll H xs ds → Dt H (.ref a) (.tuple ds)
inductive DtAll (H : Hp) : List V → List PyData → Prop
  | nil : DtAll H [] []
  | cons {v : V} {vs : List V} {d : PyData} {ds : List PyData} : Dt H v d → DtAll H vs ds → DtAll H (v :: vs) (d :: ds)
end
mutual
def tonly : PyData → Bool
  | .list _ => false
  | .dict _ => false
  | .tuple xs => tonlyAll xs
  | _ => true
def tonlyAll : List PyData → Bool
  | [] => true
  | x :: xs => tonly x && tonlyAll xs
end
mutual
theorem Dt.same {H H' : Hp} (s : Same H H') : ∀ {d : PyData} {v : V}, Dt H v d → Dt H' v d
  | .none, _, h => by cases h; exact .non
  | .bool b, _, h => by cases h; exact .bl b
  | .int i, _, h => by cases h; exact .int i
  | .str x, _, h => by cases h; exact .str x
  | .list ds, _, h => by
    cases h with
    | lst ha hs => exact .lst (s _ _ ha) (DtAll.same s hs)
  | .tuple ds, _, h => by
    cases h with
    | tup ha hs => exact .tup (s _ _ ha) (DtAll.same s hs)
  | .dict _, _, h => by cases h
theorem DtAll.same {H H' : Hp} (s : Same H H') : ∀ {ds : List PyData} {vs : List V}, DtAll H vs ds → DtAll H' vs ds
  | [], _, h => by cases h; exact .nil
  | d :: ds, _, h => by
    cases h with
    | cons h1 h2 => exact .cons (Dt.same s h1) (DtAll.same s h2)
end
mutual
theorem Dt.ts {H H' : Hp} (s : TS H H') : ∀ {d : PyData} {v : V}, tonly d = true → Dt H v d → Dt H' v d
  | .none, _, _, h => by cases h; exact .non
  | .bool b, _, _, h => by cases h; exact .bl b
  | .int i, _, _, h => by cases h; exact .int i
  | .str x, _, _, h => by cases h; exact .str x
  | .list ds, _, t, h => by unfold tonly at t; cases t
  | .tuple ds, _, t, h => by
    unfold tonly at t
    cases h with
    | tup ha hs => exact .tup (s _ _ ha) (DtAll.ts s t hs)
  | .dict _, _, _, h => by cases h
theorem DtAll.ts {H H' : Hp} (s : TS H H') : ∀ {ds : List PyData} {vs : List V}, tonlyAll ds = true → DtAll H vs ds → DtAll H' vs ds
  | [], _, _, h => by cases h; exact .nil
  | d :: ds, _, t, h => by
    unfold tonlyAll at t
    rw [Bool.and_eq_true] at t
    cases h with
    | cons h1 h2 => exact .cons (Dt.ts s t.1 h1) (DtAll.ts s t.2 h2)
end
mutual
theorem Dt.dp {K : PySem.W.Frag} {H : Hp} : ∀ {d : PyData} {v : V}, Dt H v d → Dp K H v d
  | .none, _, h => by cases h; exact .non
  | .bool b, _, h => by cases h; exact .bl b
  | .int i, _, h => by cases h; exact .int i
  | .str x, _, h => by cases h; exact .str x
  | .list ds, _, h => by
    cases h with
    | lst ha hs => exact .lst (SqL.of ha) (DtAll.dp hs)
  | .tuple ds, _, h => by
    cases h with
    | tup ha hs => exact .tup (SqT.of ha) (DtAll.dp hs)
  | .dict _, _, h => by cases h
theorem DtAll.dp {K : PySem.W.Frag} {H : Hp} : ∀ {ds : List PyData} {vs : List V}, DtAll H vs ds → DpAll K H vs ds
  | [], _, h => by cases h; exact .nil
  | d :: ds, _, h => by
    cases h with
    | cons h1 h2 => exact .cons (Dt.dp h1) (DtAll.dp h2)
end
theorem DtAll.len {H : Hp} : ∀ {ds : List PyData} {vs : List V}, DtAll H vs ds → vs.length = ds.length
  | [], _, h => by cases h; rfl
  | d :: ds, _, h => by
    cases h with
    | cons h1 h2 => rw [List.length_cons, List.length_cons, DtAll.len h2]
theorem DtAll.get {H : Hp} : ∀ {ds : List PyData} {vs : List V} {i : Nat} {d : PyData}, DtAll H vs ds → ds[i]? = some d → ∃ v, vs[i]? = some v ∧ Dt H v d
  | [], _, i, d, h, e => by simp at e
  | d :: ds, _, 0, d', h, e => by
    cases h with
    | cons h1 h2 => simp at e; subst e; exact ⟨_, rfl, h1⟩
  | d :: ds, _, i + 1, d', h, e => by
    cases h with
    | cons h1 h2 =>
      obtain ⟨v, a, b⟩ := DtAll.get (i := i) h2 (by simpa using e)
      exact ⟨v, by simpa using a, b⟩
theorem DtAll.getV {H : Hp} : ∀ {ds : List PyData} {vs : List V} {i : Nat} {v : V}, DtAll H vs ds → vs[i]? = some v → ∃ d, ds[i]? = some d ∧ Dt H v d
  | [], _, i, d, h, e => by cases h; simp at e
  | d :: ds, _, 0, d', h, e => by
    cases h with
    | cons h1 h2 => simp at e; subst e; exact ⟨_, rfl, h1⟩
  | d :: ds, _, i + 1, d', h, e => by
    cases h with
    | cons h1 h2 =>
      obtain ⟨v, a, b⟩ := DtAll.getV (i := i) h2 (by simpa using e)
      exact ⟨v, by simpa using a, b⟩
theorem DtAll.append {H : Hp} : ∀ {ds es : List PyData} {vs us : List V}, DtAll H vs ds → DtAll H us es → DtAll H (vs ++ us) (ds ++ es)
  | [], _, _, _, h, h' => by cases h; exact h'
  | d :: ds, _, _, _, h, h' => by
    cases h with
    | cons h1 h2 => exact .cons h1 (DtAll.append h2 h')
/-! ### data that == may look at -/
theorem lay_all : ∀ {ds : List PyData}, (∀ d ∈ ds, d.canLay0 = true) → PyData.canLayAll0 ds = true
  | [], _ => by rw [PyData.canLayAll0]
  | d :: ds, h => by
    rw [PyData.canLayAll0, h d List.mem_cons_self, lay_all fun e he => h e (List.mem_cons_of_mem _ he)]; rfl
theorem dep_all {n : Nat} : ∀ {ds : List PyData}, (∀ d ∈ ds, d.depth ≤ n) → PyData.depthAll ds ≤ n
  | [], _ => by rw [PyData.depthAll]; exact Nat.zero_le _
  | d :: ds, h => by
    rw [PyData.depthAll]
    exact Nat.max_le.mpr ⟨h d List.mem_cons_self, dep_all fun e he => h e (List.mem_cons_of_mem _ he)⟩
/-- shaped, of so little depth -/
def Sh (n : Nat) (d : PyData) : Prop := d.canLay0 = true ∧ d.depth ≤ n
theorem Sh.int (n : Nat) (i : Int) : Sh n (.int i) := ⟨by rw [PyData.canLay0], by rw [PyData.depth]; exact Nat.zero_le _⟩
theorem Sh.bool (n : Nat) (i : Bool) : Sh n (.bool i) := ⟨by rw [PyData.canLay0], by rw [PyData.depth]; exact Nat.zero_le _⟩
theorem Sh.none (n : Nat) : Sh n .none := ⟨by rw [PyData.canLay0], by rw [PyData.depth]; exact Nat.zero_le _⟩
theorem Sh.tup {n : Nat} {ds : List PyData} (h : ∀ d ∈ ds, Sh n d) : Sh (n + 1) (.tuple ds) := ⟨by rw [PyData.canLay0]; exact lay_all fun d hd => (h d hd).1, by rw [PyData.depth]; exact Nat.succ_le_succ (dep_all fun d hd => (h d hd).2)⟩
theorem Sh.lst {n : Nat} {ds : List PyData} (h : ∀ d ∈ ds, Sh n d) : Sh (n + 1) (.list ds) := ⟨by rw [PyData.canLay0]; exact lay_all fun d hd => (h d hd).1, by rw [PyData.depth]; exact Nat.succ_le_succ (dep_all fun d hd => (h d hd).2)⟩
theorem Sh.ok {n : Nat} {d : PyData} (h : Sh n d) (hn : n ≤ 64 := by decide) : SeqAt.shaped d = true := by
  unfold SeqAt.shaped
  rw [h.1, decide_eq_true (Nat.le_trans h.2 hn)]; rfl
def tyName : PyData → String
  | .none => "NoneType"
  | .bool _ => "bool"
  | .int _ => "int"
  | .str _ => "str"
  | .list _ => "list"
  | .tuple _ => "tuple"
  | .dict _ => "dict"
theorem Dt.ty {K : PySem.W.Frag} {H : Hp} : ∀ {d : PyData} {v : V}, Dt H v d → TyX K H v (.type (tyName d))
  | .none, _, h => by cases h; exact .base .non
  | .bool b, _, h => by cases h; exact .base (.bl b)
  | .int i, _, h => by cases h; exact .base (.int i)
  | .str x, _, h => by cases h; exact .base (.str x)
  | .list ds, _, h => by
    cases h with
    | lst ha hs => exact .base (.lst ha)
  | .tuple ds, _, h => by
    cases h with
    | tup ha hs => exact .base (.tup ha)
  | .dict _, _, h => by cases h
def isNoneD : PyData → Bool
  | .none => true
  | _ => false
theorem Dt.isNon {H : Hp} {d : PyData} {v : V} (h : Dt H v d) : decide (v = V.non) = isNoneD d := by
  cases h <;> rfl
def isIntD : PyData → Bool
  | .int _ => true
  | .bool _ => true
  | _ => false
def isBoolD : PyData → Bool
  | .bool _ => true
  | _ => false
def isTupD : PyData → Bool
  | .tuple _ => true
  | _ => false
def isListD : PyData → Bool
  | .list _ => true
  | _ => false
theorem kitInt : ∀ d : PyData, kitB (tyName d) "int" = some (isIntD d)
  | .none => (by decide +kernel : kitB "NoneType" "int" = some false)
  | .bool _ => (by decide +kernel : kitB "bool" "int" = some true)
  | .int _ => (by decide +kernel : kitB "int" "int" = some true)
  | .str _ => (by decide +kernel : kitB "str" "int" = some false)
  | .list _ => (by decide +kernel : kitB "list" "int" = some false)
  | .tuple _ => (by decide +kernel : kitB "tuple" "int" = some false)
  | .dict _ => (by decide +kernel : kitB "dict" "int" = some false)
theorem kitBool : ∀ d : PyData, kitB (tyName d) "bool" = some (isBoolD d)
  | .none => (by decide +kernel : kitB "NoneType" "bool" = some false)
  | .bool _ => (by decide +kernel : kitB "bool" "bool" = some true)
  | .int _ => (by decide +kernel : kitB "int" "bool" = some false)
  | .str _ => (by decide +kernel : kitB "str" "bool" = some false)
  | .list _ => (by decide +kernel : kitB "list" "bool" = some false)
  | .tuple _ => (by decide +kernel : kitB "tuple" "bool" = some false)
  | .dict _ => (by decide +kernel : kitB "dict" "bool" = some false)
theorem kitTup : ∀ d : PyData, kitB (tyName d) "tuple" = some (isTupD d)
  | .none => (by decide +kernel : kitB "NoneType" "tuple" = some false)
  | .bool _ => (by decide +kernel : kitB "bool" "tuple" = some false)
  | .int _ => (by decide +kernel : kitB "int" "tuple" = some false)
  | .str _ => (by decide +kernel : kitB "str" "tuple" = some false)
  | .list _ => (by decide +kernel : kitB "list" "tuple" = some false)
  | .tuple _ => (by decide +kernel : kitB "tuple" "tuple" = some true)
  | .dict _ => (by decide +kernel : kitB "dict" "tuple" = some false)
theorem kitList : ∀ d : PyData, kitB (tyName d) "list" = some (isListD d)
  | .none => (by decide +kernel : kitB "NoneType" "list" = some false)
  | .bool _ => (by decide +kernel : kitB "bool" "list" = some false)
  | .int _ => (by decide +kernel : kitB "int" "list" = some false)
  | .str _ => (by decide +kernel : kitB "str" "list" = some false)
  | .list _ => (by decide +kernel : kitB "list" "list" = some true)
  | .tuple _ => (by decide +kernel : kitB "tuple" "list" = some false)
  | .dict _ => (by decide +kernel : kitB "dict" "list" = some false)
theorem r_isi {K : PySem.W.Frag} {H : Hp} {v : V} {d : PyData} {T : String} {b : Bool} {Q : VK} (h : Dt H v d) (e : kitB (tyName d) T = some b) (k : Q (.bl b) H) : rIsi K [v, .ty T] H Q :=
  ⟨_, _, _, _, _, rfl, .ty _, h.ty, kit_ty e, k⟩
/-- lo ≤ i ≤ hi, of a whole number -/
def isI (d : PyData) (lo hi : Int) : Bool := match d with
  | .int i => decide (lo ≤ i) && decide (i ≤ hi)
  | _ => false
def geI (d : PyData) (lo : Int) : Bool := match d with
  | .int i => decide (lo ≤ i)
  | _ => false
def spGe : Sp := fun vs H Q _ => ∃ v d lo, vs = [v, .int lo] ∧ Dt H v d ∧ Q (.bl (geI d lo)) H
def spBtw : Sp := fun vs H Q _ => ∃ v d lo hi, vs = [v, .int lo, .int hi] ∧ Dt H v d ∧ Q (.bl (isI d lo hi)) H
def spIdx : Sp := fun vs H Q _ => ∃ v d n, vs = [v, .int n] ∧ Dt H v d ∧ Q (.bl (isI d 0 (n - 1))) H
def spWord : Sp := fun vs H Q _ => ∃ v d, vs = [v] ∧ Dt H v d ∧ Q (.bl (isI d 0 4294967295)) H
theorem Dt.new {H : Hp} {p : Addr} {xs : List V} {ds : List PyData} (h : DtAll H xs ds) (hp : H p = none) : Dt (upd H p (.tup xs)) (.ref p) (.tuple ds) := .tup upd_same (h.same (Same.new hp))
/-- t + u of data -/
theorem r_catD {K : PySem.W.Frag} {H : Hp} {v u : V} {ds es : List PyData} {Q : VK} (h1 : Dt H v (.tuple ds)) (h2 : Dt H u (.tuple es)) (hz : ds.length + es.length ≤ 100000) (k : ∀ v' H', Same H H' → Dt H' v' (.tuple (ds ++ es)) → Q v' H') : rCatA K v u H Q := by
  cases h1 with
  | @tup a xs _ ha hs =>
    cases h2 with
    | @tup b ys _ hb ht =>
      refine ⟨a, b, xs, ys, rfl, rfl, SqT.of ha, SqT.of hb, szn (by rw [hs.len, ht.len]; exact hz), fun e => ?_, fun _ e => ?_, fun _ _ p hp => ?_⟩
      · subst e
        have : ds = [] := List.length_eq_zero_iff.mp (by rw [← hs.len]; rfl)
        subst this
        exact k _ _ (Same.refl H) (.tup hb ht)
      · subst e
        have : es = [] := List.length_eq_zero_iff.mp (by rw [← ht.len]; rfl)
        subst this
        rw [List.append_nil] at k
        exact k _ _ (Same.refl H) (.tup ha hs)
      · exact k _ _ (Same.new hp) (Dt.new (hs.append ht) hp)
/-! ### comprehensions whose elements change nothing that stood -/
theorem take_snoc {α : Type} {l : List α} {i : Nat} {y : α} (h : l[i]? = some y) : l.take i ++ [y] = l.take (i + 1) := by
  rw [List.take_add_one, h]; rfl
section
variable {K : PySem.W.Frag} {g : TG} {te : TE} {vs : List Nat} {σ : L2.St} {H : Hp} {D : Addr} {Qd : Hp → Prop}
/-- over a tuple: ys are the elements -/
theorem lcT {a : Addr} {xs : List V} (ys : List V) (hl : ys.length = xs.length) (hz : xs.length < 100000) (hx : H a = some (.tup xs)) (hD : H D = none)
    (step : ∀ (j : Nat) (x y : V) (H1 : Hp) (Q' : VK), xs[j]? = some x → ys[j]? = some y → Same H H1 → (∀ H2, Same H1 H2 → Q' y H2) → g x (wipe σ vs) H1 fun σ2 H2 => wipe σ2 vs = wipe σ vs ∧ te σ2 H2 Q')
    (k : ∀ H1, Same H H1 → H1 D = some (.lst ys) → Qd H1) :
    ∃ W : Nat → Nat → Hp → Prop, (∃ m, W 0 m (upd H D (.lst []))) ∧ ∀ i m H, W i m H →
      ((Itt K a).stop i H ∧ Qd H) ∨ ((Itt K a).go i H ∧ ∃ Nx : Hp → Prop, (∀ H', Nx H' → ∃ m', m' < m ∧ W (i + 1) m' H') ∧ ∀ x H', (Itt K a).yld i H x H' → g x (wipe σ vs) H' fun σ2 H2 => wipe σ2 vs = wipe σ vs ∧ tYes σ2 H2 fun b H3 =>
        if b = true then te σ2 H3 fun y H4 => ∃ acc, H4 D = some (.lst acc) ∧ acc.length < sizeLine ∧ Nx (upd H4 D (.lst (acc ++ [y]))) else Nx H3) := by
  refine lc_tup (K := K) (xs := xs) (fun i H1 => Same H H1 ∧ H1 D = some (.lst (ys.take i))) ⟨Same.new hD, upd_same⟩ (fun i H1 _ h => SqT.of (h.1 _ _ hx)) ?_ ?_
  · rintro i x H1 hi ⟨s1, d1⟩
    have hil : i < xs.length := (List.getElem?_eq_some_iff.mp hi).1
    have hy : ys[i]? = some ys[i] := List.getElem?_eq_getElem (by omega)
    refine step i x _ H1 _ hi hy s1 fun H2 s2 => ?_
    refine ⟨_, s2 _ _ d1, ?_, Same.mut (s1.trans s2) hD, ?_⟩
    · rw [List.length_take]
      exact Nat.lt_of_lt_of_le (Nat.lt_of_le_of_lt (Nat.min_le_right _ _) (by omega : ys.length < 100000)) (by decide)
    · rw [take_snoc hy]; exact upd_same
  · rintro H1 ⟨s1, d1⟩
    rw [List.take_of_length_le (by omega)] at d1
    exact k H1 s1 d1
/-- over a list: ys are the elements -/
theorem lcL {a : Addr} {xs : List V} (ys : List V) (hl : ys.length = xs.length) (hz : xs.length < 100000) (hx : H a = some (.lst xs)) (hD : H D = none)
    (step : ∀ (j : Nat) (x y : V) (H1 : Hp) (Q' : VK), xs[j]? = some x → ys[j]? = some y → Same H H1 → (∀ H2, Same H1 H2 → Q' y H2) → g x (wipe σ vs) H1 fun σ2 H2 => wipe σ2 vs = wipe σ vs ∧ te σ2 H2 Q')
    (k : ∀ H1, Same H H1 → H1 D = some (.lst ys) → Qd H1) :
    ∃ W : Nat → Nat → Hp → Prop, (∃ m, W 0 m (upd H D (.lst []))) ∧ ∀ i m H, W i m H →
      ((Itl K a).stop i H ∧ Qd H) ∨ ((Itl K a).go i H ∧ ∃ Nx : Hp → Prop, (∀ H', Nx H' → ∃ m', m' < m ∧ W (i + 1) m' H') ∧ ∀ x H', (Itl K a).yld i H x H' → g x (wipe σ vs) H' fun σ2 H2 => wipe σ2 vs = wipe σ vs ∧ tYes σ2 H2 fun b H3 =>
        if b = true then te σ2 H3 fun y H4 => ∃ acc, H4 D = some (.lst acc) ∧ acc.length < sizeLine ∧ Nx (upd H4 D (.lst (acc ++ [y]))) else Nx H3) := by
  refine lc_list (K := K) (xs := xs) (fun i H1 => Same H H1 ∧ H1 D = some (.lst (ys.take i))) ⟨Same.new hD, upd_same⟩ (fun i H1 _ h => SqL.of (h.1 _ _ hx)) ?_ ?_
  · rintro i x H1 hi ⟨s1, d1⟩
    have hil : i < xs.length := (List.getElem?_eq_some_iff.mp hi).1
    have hy : ys[i]? = some ys[i] := List.getElem?_eq_getElem (by omega)
    refine step i x _ H1 _ hi hy s1 fun H2 s2 => ?_
    refine ⟨_, s2 _ _ d1, ?_, Same.mut (s1.trans s2) hD, ?_⟩
    · rw [List.length_take]
      exact Nat.lt_of_lt_of_le (Nat.lt_of_le_of_lt (Nat.min_le_right _ _) (by omega : ys.length < 100000)) (by decide)
    · rw [take_snoc hy]; exact upd_same
  · rintro H1 ⟨s1, d1⟩
    rw [List.take_of_length_le (by omega)] at d1
    exact k H1 s1 d1
theorem lcR {lo : Int} {n : Nat} (ys : List V) (hl : ys.length = n) (hz : n < 100000) (hD : H D = none)
    (step : ∀ (j : Nat) (y : V) (H1 : Hp) (Q' : VK), ys[j]? = some y → Same H H1 → (∀ H2, Same H1 H2 → Q' y H2) → g (.int (lo + j)) (wipe σ vs) H1 fun σ2 H2 => wipe σ2 vs = wipe σ vs ∧ te σ2 H2 Q')
    (k : ∀ H1, Same H H1 → H1 D = some (.lst ys) → Qd H1) :
    ∃ W : Nat → Nat → Hp → Prop, (∃ m, W 0 m (upd H D (.lst []))) ∧ ∀ i m H, W i m H →
      ((Itr lo n).stop i H ∧ Qd H) ∨ ((Itr lo n).go i H ∧ ∃ Nx : Hp → Prop, (∀ H', Nx H' → ∃ m', m' < m ∧ W (i + 1) m' H') ∧ ∀ x H', (Itr lo n).yld i H x H' → g x (wipe σ vs) H' fun σ2 H2 => wipe σ2 vs = wipe σ vs ∧ tYes σ2 H2 fun b H3 =>
        if b = true then te σ2 H3 fun y H4 => ∃ acc, H4 D = some (.lst acc) ∧ acc.length < sizeLine ∧ Nx (upd H4 D (.lst (acc ++ [y]))) else Nx H3) := by
  refine lc_range (fun i H1 => Same H H1 ∧ H1 D = some (.lst (ys.take i))) ⟨Same.new hD, upd_same⟩ ?_ ?_
  · rintro i H1 hi ⟨s1, d1⟩
    have hy : ys[i]? = some ys[i] := List.getElem?_eq_getElem (by omega)
    refine step i _ H1 _ hy s1 fun H2 s2 => ?_
    refine ⟨_, s2 _ _ d1, ?_, Same.mut (s1.trans s2) hD, ?_⟩
    · rw [List.length_take]
      exact Nat.lt_of_lt_of_le (Nat.lt_of_le_of_lt (Nat.min_le_right _ _) (by omega : ys.length < 100000)) (by decide)
    · rw [take_snoc hy]; exact upd_same
  · rintro H1 ⟨s1, d1⟩
    rw [List.take_of_length_le (by omega)] at d1
    exact k H1 s1 d1
end
end My

namespace My
open PySem L2
def topS (i : Nat) : Stmt := PySem.Challenge.pw_steadhold_k03_types.main.body.getD i (.Pass ⟨0, 0, 0, 0⟩)
structure Txt (K : PySem.W.Frag) (mg : Str → Option Value) (C_Types C_NotValid : Addr) : Prop where
  b_abs : mg "abs" = none
  b_all : mg "all" = none
  b_bool : mg "bool" = none
  b_int : mg "int" = none
  b_isinstance : mg "isinstance" = none
  b_len : mg "len" = none
  b_list : mg "list" = none
  b_min : mg "min" = none
  b_range : mg "range" = none
  b_set : mg "set" = none
  b_tuple : mg "tuple" = none
  c_DATA : ∃ t, mg "DATA" = some (.int 0 t)
  c_ENVIRONMENTS : ∃ t, mg "ENVIRONMENTS" = some (.int 4 t)
  c_MOST_TYPES : ∃ t, mg "MOST_TYPES" = some (.int 4 t)
  c_ROOT : ∃ t, mg "ROOT" = some (.int 1 t)
  c_ROOT_BLOCKS : ∃ t, mg "ROOT_BLOCKS" = some (.int 4 t)
  c_TOP : ∃ t, mg "TOP" = some (.int 4294967295 t)
  c_WORDS : ∃ t, mg "WORDS" = some (.int 8 t)
  c__FIRST_OF_PROGRAMS : ∃ t, mg "_FIRST_OF_PROGRAMS" = some (.int 2 t)
  c__MOST_CLAUSES : ∃ t, mg "_MOST_CLAUSES" = some (.int 8 t)
  c__MOST_GUARDS : ∃ t, mg "_MOST_GUARDS" = some (.int 4 t)
  x_NotValid : Exn K mg "NotValid" C_NotValid
  o_Types : Cls K C_Types
  n_Types__blocks : NoAttr K C_Types "_blocks"
  n_Types__programs : NoAttr K C_Types "_programs"
  n_Types__registered : NoAttr K C_Types "_registered"
end My

namespace My
open PySem L2
local macro_rules | `(tactic| walk_at "ne") => `(tactic| first | assumption | exact Ne.symm (by assumption) | exact ne_of_none (by assumption) (by assumption) | exact Ne.symm (ne_of_none (by assumption) (by assumption)))
local macro_rules | `(tactic| walk_at "hp") => `(tactic| first | assumption | with_reducible exact upd_same | (with_reducible refine Eq.trans (upd_ne ?_) ?_; rotate_left; walk_at "hp"; walk_at "ne"))
local macro_rules | `(tactic| walk_at "cnd") => `(tactic| first | omega | (show (0 : Int) < _; omega) | exact ⟨by omega, by omega⟩ | exact Or.inl ⟨by omega, by omega⟩ | exact Or.inr ⟨by omega, by omega⟩ | exact ⟨by omega, by omega, by decide⟩ | exact ⟨by omega, by omega, by omega⟩)
local macro_rules | `(tactic| walk_at "at") => `(tactic| first | exact atC 0 rfl rfl | exact atC 1 rfl rfl | exact atC 2 rfl rfl | exact atC 3 rfl rfl | exact atC 4 rfl rfl | exact atC 5 rfl rfl | exact atC 6 rfl rfl | exact atC 7 rfl rfl)
local macro_rules | `(tactic| walk_at "ix") => `(tactic| first | exact ixC 0 rfl (Nat.le_of_ble_eq_true rfl) | exact ixC 1 rfl (Nat.le_of_ble_eq_true rfl) | exact ixC 2 rfl (Nat.le_of_ble_eq_true rfl) | exact ixC 3 rfl (Nat.le_of_ble_eq_true rfl) | exact ixC 4 rfl (Nat.le_of_ble_eq_true rfl) | exact ixC 5 rfl (Nat.le_of_ble_eq_true rfl))
local macro_rules | `(tactic| walk_at "st") => `(tactic| first
  | refine ⟨_, rfl, ?_⟩
  | refine ⟨_, _, rfl, rfl, (by walk_at "cnd" : (_ : Prop)), ?_⟩
  | refine ⟨_, _, rfl, rfl, ?_⟩
  | refine ⟨rfl, ?_⟩
  | refine Or.inl ⟨_, rfl, ?_⟩
  | refine ⟨_, _, _, _, rfl, rfl, by exact SqL.of (by walk_at "hp"), by walk_at "at", ?_⟩
  | refine ⟨_, _, _, _, rfl, rfl, by exact SqT.of (by walk_at "hp"), by walk_at "at", ?_⟩
  | refine ⟨_, _, _, _, rfl, rfl, by walk_at "hp", by walk_at "ix", ?_⟩
  | refine ⟨_, _, rfl, Or.inl (by exact SqL.of (by walk_at "hp")), ?_⟩
  | refine ⟨_, _, rfl, Or.inr (by exact SqT.of (by walk_at "hp")), ?_⟩)
local macro_rules | `(tactic| walk_at "so") => `(tactic| first
  | refine ⟨_, _, _, _, _, rfl, by walk_at "hp", by assumption, by assumption, rfl, ?_⟩
  | refine ⟨_, _, _, _, rfl, by walk_at "hp", by assumption, by assumption, Nat.le_of_ble_eq_true rfl, ?_⟩
  | refine ⟨_, _, _, rfl, by walk_at "hp", rfl, ?_⟩
  | walk_at "st")
local macro_rules | `(tactic| walk_at "ro") => `(tactic| repeat walk_at "so")
local macro_rules | `(tactic| walk_at "run") => `(tactic| repeat walk_at "st")

/-! the tape -/
def Tape (H : Hp) (a s : Addr) : Prop := ∃ (ns : List Int) (i r z : Int), H a = some (.lst [.ref s, .int i, .int r, .int z]) ∧ H s = some (.lst (ns.map V.int)) ∧ 0 ≤ i ∧ 0 ≤ r ∧ 0 ≤ z ∧ z < 2147483647
def spNext : Sp := fun vs H Q _ => ∃ (a t : Addr) (many : Int), vs = [.ref a, .int many] ∧ 0 < many ∧ many < 1000000 ∧ Tape H a t ∧ ∀ v H', 0 ≤ v → v < many → Tape H' a t → Chg a H H' → Q (.int v) H'
theorem Tape.lst {H : Hp} {a t : Addr} (h : Tape H a t) : ∃ xs, H a = some (.lst xs) := by
  obtain ⟨ns, i, r, z, ha, _⟩ := h
  exact ⟨_, ha⟩
theorem Tape.at {H : Hp} {a t p : Addr} (h : Tape H a t) (hp : H p = none) : p ≠ a := by
  obtain ⟨ns, i, r, z, ha, _⟩ := h
  exact (ne_of_none ha hp).symm
theorem Tape.at2 {H : Hp} {a t p : Addr} (h : Tape H a t) (hp : H p = none) : p ≠ t := by
  obtain ⟨ns, i, r, z, ha, hs, _⟩ := h
  exact (ne_of_none hs hp).symm
theorem Tape.same {H H' : Hp} {a t : Addr} (h : Tape H a t) (s : Same H H') : Tape H' a t := by
  obtain ⟨ns, i, r, z, ha, hs, q⟩ := h
  exact ⟨ns, i, r, z, s _ _ ha, s _ _ hs, q⟩
theorem Tape.upd {H : Hp} {a t W : Addr} {o : HO} (h : Tape H a t) (n1 : W ≠ a) (n2 : W ≠ t) : Tape (L2.upd H W o) a t := by
  obtain ⟨ns, i, r, z, ha, hs, q⟩ := h
  exact ⟨ns, i, r, z, by rw [upd_ne n1.symm]; exact ha, by rw [upd_ne n2.symm]; exact hs, q⟩
theorem Tape.ts {H H' : Hp} {a t : Addr} (h : Tape H a t) (c : Chg a H H') : TS H H' := by
  obtain ⟨xs, e⟩ := h.lst
  exact c.ts e
section
variable {P : Program} {w : World} {K : PySem.W.Frag} {mg : Str → Option Value} {base : Heap} {C_Types C_NotValid : Addr}
abbrev s_law_next : Stmt := topS 33
abbrev ns_law_next : List Str := ["tape", "many", "rest", "cell"]
theorem sc_law_next : FnScope ns_law_next ["tape", "many"] (defScope s_law_next) := ⟨rfl, rfl, rfl, by decide +kernel, rfl, by decide +kernel, by decide +kernel⟩

theorem ok_law_next {f : Addr} {fd : FuncData} (F : Fun K "_law_next" "_law_next" s_law_next f fd) (T : Txt K mg C_Types C_NotValid) : FnOk P w K mg base CX0 1 f fd ["tape", "many"] spNext := by
  refine F.ok sc_law_next (fun vs H Q E h => ?_) (fun cdv A outer s H vs Q E hr h => ?_)
  · obtain ⟨a, s, many, rfl, _⟩ := h
    rfl
  · obtain ⟨a, s, many, rfl, m0, m1, ⟨ns, i, r, z, ha, hs, i0, r0, z0, z1⟩, k⟩ := h
    have nsa : s ≠ a := ne_of hs ha (by intro q; cases ns <;> cases q)
    refine ⟨_, (pss_cons (ps_set (i := 2) sc_law_next.nd rfl (Or.inl rfl) (pe_ix (kIxL K) (pv 0) pe_int (fun _ _ => rfl)))
  (C8.pss_cut (ps_if (pt_cmpR op_eq (pv 2) pe_int (nomark _)) (pss_cons (ps_set (i := 3) sc_law_next.nd rfl (Or.inl rfl) pe_int)
  (C8.pss_cut (ps_if (pt_cmpR op_lt (pe_ix (kIxL K) (pv 0) pe_int (fun _ _ => rfl)) (pe_callB (kLen K) (by rfl) T.b_len (by decide +kernel) (pa_cons (pe_ix (kIxL K) (pv 0) pe_int (fun _ _ => rfl)) pa_nil)) (nomark _)) (pss_cons (ps_set (i := 3) sc_law_next.nd rfl (Or.inl rfl) (pe_callB call_abs (by rfl) T.b_abs (by decide +kernel) (pa_cons (pe_callTy call_int1 (by rfl) T.b_int (by decide +kernel) (pa_cons (pe_ix (kIxL K) (pe_ix (kIxL K) (pv 0) pe_int (fun _ _ => rfl)) (pe_ix (kIxL K) (pv 0) pe_int (fun _ _ => rfl)) (fun _ _ => rfl)) pa_nil)) pa_nil)))
  (pss_one (ps_asg (pe_op op_add (pe_ix (kIxL K) (pv 0) pe_int (fun _ _ => rfl)) pe_int) (pg_sub (pv 0) pe_int set_list)))) pss_nil)
  (pss_cons (ps_set (i := 2) sc_law_next.nd rfl (Or.inl rfl) (pv 3))
  (pss_one (ps_if (pt_cmpR op_lt (pv 3) (pe_op op_pow pe_int pe_int) (nomark _)) (pss_cons (ps_asg (pe_op op_mod (pe_callTy call_int1 (by rfl) T.b_int (by decide +kernel) (pa_cons (pe_op op_add (pe_op op_add (pe_op op_mul (pe_ix (kIxL K) (pv 0) pe_int (fun _ _ => rfl)) pe_int) (pe_op op_mul (pv 3) pe_int)) pe_int) pa_nil)) pe_int) (pg_sub (pv 0) pe_int set_list))
  (pss_one (ps_ret (pe_op op_mod (pe_op op_mod (pe_callTy call_int1 (by rfl) T.b_int (by decide +kernel) (pa_cons (pe_op op_mul (pe_op op_fdiv (pe_ix (kIxL K) (pv 0) pe_int (fun _ _ => rfl)) pe_int) pe_int) pa_nil)) pe_int) (pv 1))))) pss_nil))))) pss_nil)
  (pss_cons (ps_asg (pe_op op_fdiv (pv 2) (pv 1)) (pg_sub (pv 0) pe_int set_list))
  (pss_one (ps_ret (pe_op op_mod (pe_callTy call_int1 (by rfl) T.b_int (by decide +kernel) (pa_cons (pv 2) pa_nil)) (pv 1))))))), ?_⟩
    -- rest = tape[2]; if rest == 0
    walk_at "run"
    refine ⟨fun σ H1 => ∃ i' r' v, σ = [some (.ref a), some (.int many), some (.int r'), v] ∧ 0 ≤ r' ∧ 0 ≤ i' ∧ H1 a = some (.lst [.ref s, .int i', .int r, .int z]) ∧ H1 s = some (.lst (ns.map V.int)) ∧ Chg a H H1, ?_, ?_⟩
    · walk_at "run"
      refine iteD (fun h1 => ?_) (fun h1 => ?_)
      · -- cell = 0; if tape[1] < len(tape[0])
        walk_at "run"
        refine ⟨fun σ H1 => ∃ cell i', σ = [some (.ref a), some (.int many), some (.int r), some (.int cell)] ∧ 0 ≤ cell ∧ 0 ≤ i' ∧ H1 a = some (.lst [.ref s, .int i', .int r, .int z]) ∧ H1 s = some (.lst (ns.map V.int)) ∧ Chg a H H1, ?_, ?_⟩
        · walk_at "run"
          refine iteD (fun h2 => ?_) (fun h2 => ?_)
          · have hi : i.toNat < ns.length := by simpa using (show i.toNat < (ns.map V.int).length by omega)
            walk_at "run"
            refine ⟨_, _, _, _, rfl, rfl, SqL.of hs, atC i.toNat (by omega) (by rw [List.getElem?_map, List.getElem?_eq_getElem hi]; rfl), ?_⟩
            walk_at "run"
            exact ⟨_, i + 1, rfl, by split <;> omega, by omega, upd_same, by rw [upd_ne nsa]; exact hs, Chg.upd⟩
          · exact ⟨0, i, rfl, by omega, i0, ha, hs, Chg.refl _ _⟩
        · rintro σ H1 ⟨cell, i', rfl, c0, i0', ha1, hs1, ch⟩
          walk_at "run"
          refine iteD (fun h3 => ?_) (fun h3 => ?_)
          · walk_at "run"
            exact k _ _ (Int.emod_nonneg _ (by omega)) (Int.emod_lt_of_pos _ m0) ⟨ns, i', r, _, upd_same, by rw [upd_ne nsa]; exact hs1, i0', r0, Int.emod_nonneg _ (by decide), Int.emod_lt_of_pos _ (by decide)⟩ (ch.trans Chg.upd)
          · exact ⟨i', cell, _, rfl, c0, i0', ha1, hs1, ch⟩
      · exact ⟨i, r, _, rfl, r0, i0, ha, hs, Chg.refl _ _⟩
    · rintro σ H1 ⟨i', r', v, rfl, c0, i0', ha1, hs1, ch⟩
      walk_at "run"
      exact k _ _ (Int.emod_nonneg _ (by omega)) (Int.emod_lt_of_pos _ m0) ⟨ns, i', r' / many, z, upd_same, by rw [upd_ne nsa]; exact hs1, i0', Int.ediv_nonneg c0 (by omega), z0, z1⟩ (ch.trans Chg.upd)
end

section
variable {P : Program} {w : World} {K : PySem.W.Frag} {mg : Str → Option Value} {base : Heap} {C_Types C_NotValid : Addr}
abbrev s_is_at_least : Stmt := topS 1
abbrev ns_is_at_least : List Str := ["value", "least"]
theorem sc_is_at_least : FnScope ns_is_at_least ["value", "least"] (defScope s_is_at_least) := ⟨rfl, rfl, rfl, by decide +kernel, rfl, by decide +kernel, by decide +kernel⟩

theorem ok_is_at_least {f : Addr} {fd : FuncData} (F : Fun K "is_at_least" "is_at_least" s_is_at_least f fd) (T : Txt K mg C_Types C_NotValid) : FnOk P w K mg base CX0 1 f fd ["value", "least"] spGe := by
  refine F.ok sc_is_at_least (fun vs H Q E h => ?_) (fun cdv A outer s H vs Q E hr h => ?_)
  · obtain ⟨v, d, lo, rfl, _⟩ := h
    rfl
  · obtain ⟨v, d, lo, rfl, hd, k⟩ := h
    refine ⟨_, (pss_one (ps_ret (pe_and (pe_callB (kIsi K) (by rfl) T.b_isinstance (by decide +kernel) (pa_cons (pv 0) (pa_cons (pe_bltn (v := .ty "int") (by rfl) T.b_int (by decide +kernel) rfl) pa_nil))) (pe_and (pe_not (pe_callB (kIsi K) (by rfl) T.b_isinstance (by decide +kernel) (pa_cons (pv 0) (pa_cons (pe_bltn (v := .ty "bool") (by rfl) T.b_bool (by decide +kernel) rfl) pa_nil)))) (pe_one (pe_cmpR op_ge (pv 0) (pv 1) (nomark _))))))), ?_⟩
    refine ⟨_, rfl, _, _, _, _, _, rfl, .ty _, hd.ty, kit_ty (kitInt d), _, rfl, ?_⟩
    cases hd with
    | int i =>
      refine iteT ⟨_, rfl, _, _, _, _, _, rfl, .ty _, (Dt.int i).ty, kit_ty (kitBool (.int i)), _, rfl, _, rfl, iteT ?_⟩
      walk_at "run"
      exact k
    | bl b => exact iteT ⟨_, rfl, _, _, _, _, _, rfl, .ty _, (Dt.bl b).ty, kit_ty (kitBool (.bool b)), _, rfl, _, rfl, iteF k⟩
    | non => exact iteF k
    | str x => exact iteF k
    | lst a b => exact iteF k
    | tup a b => exact iteF k
abbrev s_is_between : Stmt := topS 2
abbrev ns_is_between : List Str := ["value", "least", "most"]
theorem sc_is_between : FnScope ns_is_between ["value", "least", "most"] (defScope s_is_between) := ⟨rfl, rfl, rfl, by decide +kernel, rfl, by decide +kernel, by decide +kernel⟩

theorem ok_is_between {f : Addr} {fd : FuncData} (F : Fun K "is_between" "is_between" s_is_between f fd) (T : Txt K mg C_Types C_NotValid) (D_is_at_least : Dfn P w K mg base CX0 1 "is_at_least" ["value", "least"] spGe) : FnOk P w K mg base CX0 2 f fd ["value", "least", "most"] spBtw := by
  refine F.ok sc_is_between (fun vs H Q E h => ?_) (fun cdv A outer s H vs Q E hr h => ?_)
  · obtain ⟨v, d, lo, hi, rfl, _⟩ := h
    rfl
  · obtain ⟨v, d, lo, hi, rfl, hd, k⟩ := h
    refine ⟨_, (pss_one (ps_ret (pe_and (pe_dcall D_is_at_least (hr.mono (by decide)) (by rfl) pass0 (pa_cons (pv 0) (pa_cons (pv 1) pa_nil))) (pe_one (pe_cmpR op_le (pv 0) (pv 2) (nomark _)))))), ?_⟩
    refine ⟨_, rfl, _, rfl, _, d, _, rfl, hd, _, rfl, iteB (fun e => ?_) (fun e => ?_)⟩
    · cases hd with
      | int i =>
        walk_at "run"
        have e' : decide (lo ≤ i) = true := e
        have k' : Q (.bl (decide (lo ≤ i) && decide (i ≤ hi))) H := k
        rw [e', Bool.true_and] at k'
        exact k'
      | bl b => cases e
      | non => cases e
      | str x => cases e
      | lst a b => cases e
      | tup a b => cases e
    · have e2 : isI d lo hi = false := by
        cases d with
        | int i =>
          have e' : decide (lo ≤ i) = false := e
          show (decide (lo ≤ i) && decide (i ≤ hi)) = false
          rw [e', Bool.false_and]
        | _ => rfl
      rw [e2] at k
      exact k
abbrev s_is_index : Stmt := topS 3
abbrev ns_is_index : List Str := ["value", "many"]
theorem sc_is_index : FnScope ns_is_index ["value", "many"] (defScope s_is_index) := ⟨rfl, rfl, rfl, by decide +kernel, rfl, by decide +kernel, by decide +kernel⟩

theorem ok_is_index {f : Addr} {fd : FuncData} (F : Fun K "is_index" "is_index" s_is_index f fd) (T : Txt K mg C_Types C_NotValid) (D_is_between : Dfn P w K mg base CX0 2 "is_between" ["value", "least", "most"] spBtw) : FnOk P w K mg base CX0 3 f fd ["value", "many"] spIdx := by
  refine F.ok sc_is_index (fun vs H Q E h => ?_) (fun cdv A outer s H vs Q E hr h => ?_)
  · obtain ⟨v, d, n, rfl, _⟩ := h
    rfl
  · obtain ⟨v, d, n, rfl, hd, k⟩ := h
    refine ⟨_, (pss_one (ps_ret (pe_dcall D_is_between (hr.mono (by decide)) (by rfl) pass0 (pa_cons (pv 0) (pa_cons pe_int (pa_cons (pe_op op_sub (pv 1) pe_int) pa_nil)))))), ?_⟩
    walk_at "run"
    exact ⟨_, d, _, _, rfl, hd, k⟩
end

section
variable {P : Program} {w : World} {K : PySem.W.Frag} {mg : Str → Option Value} {base : Heap} {C_Types C_NotValid : Addr}
abbrev s_is_word : Stmt := topS 13
abbrev ns_is_word : List Str := ["value"]
theorem sc_is_word : FnScope ns_is_word ["value"] (defScope s_is_word) := ⟨rfl, rfl, rfl, by decide +kernel, rfl, by decide +kernel, by decide +kernel⟩

theorem ok_is_word {f : Addr} {fd : FuncData} (F : Fun K "is_word" "is_word" s_is_word f fd) (T : Txt K mg C_Types C_NotValid) (D_is_between : Dfn P w K mg base CX0 2 "is_between" ["value", "least", "most"] spBtw) : FnOk P w K mg base CX0 3 f fd ["value"] spWord := by
  refine F.ok sc_is_word (fun vs H Q E h => ?_) (fun cdv A outer s H vs Q E hr h => ?_)
  · obtain ⟨v, d, rfl, _⟩ := h
    rfl
  · obtain ⟨v, d, rfl, hd, k⟩ := h
    refine ⟨_, (pss_one (ps_ret (pe_dcall D_is_between (hr.mono (by decide)) (by rfl) pass0 (pa_cons (pv 0) (pa_cons pe_int (pa_cons (pe_gint (by rfl) T.c_TOP) pa_nil)))))), ?_⟩
    walk_at "run"
    exact ⟨_, d, _, _, rfl, hd, k⟩
end

end My

namespace My
open PySem L2
local macro_rules | `(tactic| walk_at "ne") => `(tactic| first | assumption | exact Ne.symm (by assumption) | exact ne_of_none (by assumption) (by assumption) | exact Ne.symm (ne_of_none (by assumption) (by assumption)))
local macro_rules | `(tactic| walk_at "hp") => `(tactic| first | assumption | with_reducible exact upd_same | (with_reducible refine Eq.trans (upd_ne ?_) ?_; rotate_left; walk_at "hp"; walk_at "ne"))
local macro_rules | `(tactic| walk_at "cnd") => `(tactic| first | omega | (show (0 : Int) < _; omega) | exact ⟨by omega, by omega⟩ | exact Or.inl ⟨by omega, by omega⟩ | exact Or.inr ⟨by omega, by omega⟩ | exact ⟨by omega, by omega, by decide⟩ | exact ⟨by omega, by omega, by omega⟩)
local macro_rules | `(tactic| walk_at "at") => `(tactic| first | exact atC 0 rfl rfl | exact atC 1 rfl rfl | exact atC 2 rfl rfl | exact atC 3 rfl rfl | exact atC 4 rfl rfl | exact atC 5 rfl rfl | exact atC 6 rfl rfl | exact atC 7 rfl rfl)
local macro_rules | `(tactic| walk_at "ix") => `(tactic| first | exact ixC 0 rfl (Nat.le_of_ble_eq_true rfl) | exact ixC 1 rfl (Nat.le_of_ble_eq_true rfl) | exact ixC 2 rfl (Nat.le_of_ble_eq_true rfl) | exact ixC 3 rfl (Nat.le_of_ble_eq_true rfl) | exact ixC 4 rfl (Nat.le_of_ble_eq_true rfl) | exact ixC 5 rfl (Nat.le_of_ble_eq_true rfl))
local macro_rules | `(tactic| walk_at "st") => `(tactic| first
  | refine ⟨_, rfl, ?_⟩
  | refine ⟨_, _, rfl, rfl, (by walk_at "cnd" : (_ : Prop)), ?_⟩
  | refine ⟨_, _, rfl, rfl, ?_⟩
  | refine ⟨rfl, ?_⟩
  | refine Or.inl ⟨_, rfl, ?_⟩
  | refine ⟨_, _, _, _, rfl, rfl, by exact SqL.of (by walk_at "hp"), by walk_at "at", ?_⟩
  | refine ⟨_, _, _, _, rfl, rfl, by exact SqT.of (by walk_at "hp"), by walk_at "at", ?_⟩
  | refine ⟨_, _, _, _, rfl, rfl, by walk_at "hp", by walk_at "ix", ?_⟩
  | refine ⟨_, _, rfl, Or.inl (by exact SqL.of (by walk_at "hp")), ?_⟩
  | refine ⟨_, _, rfl, Or.inr (by exact SqT.of (by walk_at "hp")), ?_⟩)
local macro_rules | `(tactic| walk_at "so") => `(tactic| first
  | refine ⟨_, _, _, _, _, rfl, by walk_at "hp", by assumption, by assumption, rfl, ?_⟩
  | refine ⟨_, _, _, _, rfl, by walk_at "hp", by assumption, by assumption, Nat.le_of_ble_eq_true rfl, ?_⟩
  | refine ⟨_, _, _, rfl, by walk_at "hp", rfl, ?_⟩
  | walk_at "st")
local macro_rules | `(tactic| walk_at "ro") => `(tactic| repeat walk_at "so")
local macro_rules | `(tactic| walk_at "run") => `(tactic| repeat walk_at "st")

/-! ### programs as data -/
def TOPW : Int := 4294967295
def isGd : PyData → Bool
  | .tuple [a, b, c] => isI a 0 7 && (isI b 0 4294967295 && isI c 0 4294967295)
  | _ => false
def spGd : Sp := fun vs H Q _ => ∃ v d, vs = [v] ∧ Dt H v d ∧ Q (.bl (isGd d)) H
def isMn (d : PyData) (s : Int) : Bool := match d with
  | .tuple [a, b] => PyData.eqv a (.str "word") && isI b 0 7
  | .tuple _ => false
  | d => isI d 1 (8 - s)
def spMn : Sp := fun vs H Q _ => ∃ v d s, vs = [v, .int s] ∧ Dt H v d ∧ (∀ a b, d = .tuple [a, b] → SeqAt.shaped a = true) ∧ Q (.bl (isMn d s)) H
def isKd (d : PyData) (n : Int) : Bool := PyData.eqv d (.str "own") || (isI d 0 (n - 1) && !PyData.eqv d (.int 1))
def spKd : Sp := fun vs H Q _ => ∃ v d n, vs = [v, .int n] ∧ Dt H v d ∧ SeqAt.shaped d = true ∧ Q (.bl (isKd d n)) H
def gdsOk : PyData → Bool
  | .tuple gs => decide (gs.length ≤ 4) && gs.all isGd
  | _ => false
def intD : PyData → Int
  | .int i => i
  | _ => 0
def isCl (n : Int) : PyData → Bool
  | .tuple [g, s, m, k] => gdsOk g && (isI s 0 7 && (isMn m (intD s) && isKd k n))
  | _ => false
def ClFit (d : PyData) : Prop := ∀ g s m k, d = .tuple [g, s, m, k] → SeqAt.shaped k = true ∧ ∀ a b, m = .tuple [a, b] → SeqAt.shaped a = true
def spCl : Sp := fun vs H Q _ => ∃ v d n, vs = [v, .int n] ∧ Dt H v d ∧ ClFit d ∧ ∀ H', Same H H' → Q (.bl (isCl n d)) H'
def isPg (n : Int) : PyData → Bool
  | .tuple cs => decide (cs.length ≤ 8) && cs.all (isCl n)
  | _ => false
def spPg : Sp := fun vs H Q _ => ∃ v d n, vs = [v, .int n] ∧ Dt H v d ∧ (∀ cs, d = .tuple cs → ∀ c ∈ cs, ClFit c) ∧ ∀ H', Same H H' → Q (.bl (isPg n d)) H'
theorem isI_int {d : PyData} {lo hi : Int} (h : isI d lo hi = true) : ∃ i, d = .int i ∧ lo ≤ i ∧ i ≤ hi := by
  cases d with
  | int i =>
    have h' : (decide (lo ≤ i) && decide (i ≤ hi)) = true := h
    rw [Bool.and_eq_true, decide_eq_true_eq, decide_eq_true_eq] at h'
    exact ⟨i, rfl, h'.1, h'.2⟩
  | _ => cases h
theorem sh_str (x : Str) (h : PyData.strOk x = true := by decide +kernel) : SeqAt.shaped (.str x) = true := by
  unfold SeqAt.shaped
  rw [PyData.canLay0, PyData.depth, h]; rfl
theorem sh_int (x : Int) : SeqAt.shaped (.int x) = true := (Sh.int 0 x).ok
section
variable {P : Program} {w : World} {K : PySem.W.Frag} {mg : Str → Option Value} {base : Heap}
abbrev s_is_guard : Stmt := topS 24
abbrev ns_is_guard : List Str := ["value"]
theorem sc_is_guard : FnScope ns_is_guard ["value"] (defScope s_is_guard) := ⟨rfl, rfl, rfl, by decide +kernel, rfl, by decide +kernel, by decide +kernel⟩

theorem ok_is_guard {f : Addr} {fd : FuncData} (F : Fun K "_is_guard" "_is_guard" s_is_guard f fd) (T : Txt K mg C_Types C_NotValid) (D_is_index : Dfn P w K mg base CX0 3 "is_index" ["value", "many"] spIdx) (D_is_word : Dfn P w K mg base CX0 3 "is_word" ["value"] spWord) : FnOk P w K mg base CX0 4 f fd ["value"] spGd := by
  refine F.ok sc_is_guard (fun vs H Q E h => ?_) (fun cdv A outer s H vs Q E hr h => ?_)
  · obtain ⟨v, d, rfl, _⟩ := h
    rfl
  · obtain ⟨v, d, rfl, hd, k⟩ := h
    refine ⟨_, (pss_cons (ps_if (PW.pt (pw_or (pt_not (pt_val (pe_callB (kIsi K) (by rfl) T.b_isinstance (by decide +kernel) (pa_cons (pv 0) (pa_cons (pe_bltn (v := .ty "tuple") (by rfl) T.b_tuple (by decide +kernel) rfl) pa_nil))))) (pw_or1 (pt_cmpR op_ne (pe_callB (kLen K) (by rfl) T.b_len (by decide +kernel) (pa_cons (pv 0) pa_nil)) pe_int (nomark _))))) (pss_one (ps_ret pe_bl)) pss_nil)
  (pss_one (ps_ret (pe_and (pe_dcall D_is_index (hr.mono (by decide)) (by rfl) pass0 (pa_cons (pe_ix (kIxT K) (pv 0) pe_int (fun _ _ => rfl)) (pa_cons (pe_gint (by rfl) T.c_WORDS) pa_nil))) (pe_and (pe_dcall D_is_word (hr.mono (by decide)) (by rfl) pass0 (pa_cons (pe_ix (kIxT K) (pv 0) pe_int (fun _ _ => rfl)) pa_nil)) (pe_one (pe_dcall D_is_word (hr.mono (by decide)) (by rfl) pass0 (pa_cons (pe_ix (kIxT K) (pv 0) pe_int (fun _ _ => rfl)) pa_nil)))))))), ?_⟩
    refine ⟨_, rfl, _, _, _, _, _, rfl, .ty _, hd.ty, kit_ty (kitTup d), _, rfl, ?_⟩
    cases hd with
    | @tup a xs ds ha hs =>
      have hlen := hs.len
      refine iteF ?_
      walk_at "run"
      refine iteDn (fun h1 => ?_) (fun h1 => ?_)
      · have e : isGd (.tuple ds) = false := by
          match ds, hlen with
          | [], _ => rfl
          | [_], _ => rfl
          | [_, _], _ => rfl
          | [x, y, z], hl => exact absurd (by rw [hl] <;> rfl) h1
          | _ :: _ :: _ :: _ :: _, _ => rfl
        rw [e] at k
        exact k
      · have h3 : ds.length = 3 := by
          have q : ((xs.length : Nat) : Int) = 3 := by injection h1
          omega
        match ds, h3, hs, k with
        | [d1, d2, d3], _, hs, k =>
          cases hs with
          | cons b1 hs => cases hs with
            | cons b2 hs => cases hs with
              | cons b3 hs =>
                cases hs
                walk_at "run"
                refine ⟨_, d1, _, rfl, b1, _, rfl, iteB (fun e => ?_) (fun e => ?_)⟩
                · walk_at "run"
                  refine ⟨_, d2, rfl, b2, _, rfl, iteB (fun e2 => ?_) (fun e2 => ?_)⟩
                  · walk_at "run"
                    refine ⟨_, d3, rfl, b3, ?_⟩
                    have e3 : isGd (.tuple [d1, d2, d3]) = isI d3 0 4294967295 := by
                      show (isI d1 0 7 && (isI d2 0 4294967295 && isI d3 0 4294967295)) = _
                      rw [show isI d1 0 7 = true from e, e2]; rfl
                    rw [e3] at k
                    exact k
                  · have e3 : isGd (.tuple [d1, d2, d3]) = false := by
                      show (isI d1 0 7 && (isI d2 0 4294967295 && isI d3 0 4294967295)) = _
                      rw [e2, Bool.false_and, Bool.and_false]
                    rw [e3] at k
                    exact k
                · have e3 : isGd (.tuple [d1, d2, d3]) = false := by
                    show (isI d1 0 7 && (isI d2 0 4294967295 && isI d3 0 4294967295)) = _
                    rw [show isI d1 0 7 = false from e, Bool.false_and]
                  rw [e3] at k
                  exact k
    | int i => exact iteT k
    | bl b => exact iteT k
    | non => exact iteT k
    | str x => exact iteT k
    | lst a b => exact iteT k
abbrev s_is_many : Stmt := topS 25
abbrev ns_is_many : List Str := ["value", "start"]
theorem sc_is_many : FnScope ns_is_many ["value", "start"] (defScope s_is_many) := ⟨rfl, rfl, rfl, by decide +kernel, rfl, by decide +kernel, by decide +kernel⟩

theorem ok_is_many {f : Addr} {fd : FuncData} (F : Fun K "_is_many" "_is_many" s_is_many f fd) (T : Txt K mg C_Types C_NotValid) (D_is_index : Dfn P w K mg base CX0 3 "is_index" ["value", "many"] spIdx) (D_is_between : Dfn P w K mg base CX0 2 "is_between" ["value", "least", "most"] spBtw) : FnOk P w K mg base CX0 4 f fd ["value", "start"] spMn := by
  refine F.ok sc_is_many (fun vs H Q E h => ?_) (fun cdv A outer s H vs Q E hr h => ?_)
  · obtain ⟨v, d, s, rfl, _⟩ := h
    rfl
  · obtain ⟨v, d, s0, rfl, hd, hsh, k⟩ := h
    refine ⟨_, (pss_cons (ps_if (pt_not (pt_val (pe_callB (kIsi K) (by rfl) T.b_isinstance (by decide +kernel) (pa_cons (pv 0) (pa_cons (pe_bltn (v := .ty "tuple") (by rfl) T.b_tuple (by decide +kernel) rfl) pa_nil))))) (pss_one (ps_ret (pe_dcall D_is_between (hr.mono (by decide)) (by rfl) pass0 (pa_cons (pv 0) (pa_cons pe_int (pa_cons (pe_op op_sub (pe_gint (by rfl) T.c_WORDS) (pv 1)) pa_nil)))))) pss_nil)
  (pss_one (ps_ret (pe_and (pe_cmpR op_eq (pe_callB (kLen K) (by rfl) T.b_len (by decide +kernel) (pa_cons (pv 0) pa_nil)) pe_int (nomark _)) (pe_and (pe_cmpR (kEqD K hr.units) (pe_ix (kIxT K) (pv 0) pe_int (fun _ _ => rfl)) pe_str (nomark _)) (pe_one (pe_dcall D_is_index (hr.mono (by decide)) (by rfl) pass0 (pa_cons (pe_ix (kIxT K) (pv 0) pe_int (fun _ _ => rfl)) (pa_cons (pe_gint (by rfl) T.c_WORDS) pa_nil))))))))), ?_⟩
    refine ⟨_, rfl, _, _, _, _, _, rfl, .ty _, hd.ty, kit_ty (kitTup d), _, rfl, ?_⟩
    cases hd with
    | @tup a xs ds ha hs =>
      have hlen := hs.len
      refine iteF ?_
      walk_at "run"
      refine iteB (fun e => ?_) (fun e => ?_)
      · have h2 : ds.length = 2 := by
          have q : V.int ((xs.length : Nat) : Int) = .int 2 := of_decide_eq_true e
          have q : ((xs.length : Nat) : Int) = 2 := by injection q
          omega
        match ds, h2, hs, k, hsh with
        | [d1, d2], _, hs, k, hsh =>
          cases hs with
          | cons b1 hs => cases hs with
            | cons b2 hs =>
              cases hs
              walk_at "run"
              refine ⟨d1, .str "word", b1.dp, (Dt.str _).dp, hsh _ _ rfl, sh_str _, ?_⟩
              refine ⟨_, rfl, iteB (fun e2 => ?_) (fun e2 => ?_)⟩
              · walk_at "run"
                refine ⟨_, d2, _, rfl, b2, ?_⟩
                have e3 : isMn (.tuple [d1, d2]) s0 = isI d2 0 7 := by
                  show (PyData.eqv d1 (.str "word") && isI d2 0 7) = _
                  rw [e2, Bool.true_and]
                rw [e3] at k
                exact k
              · have e3 : isMn (.tuple [d1, d2]) s0 = false := by
                  show (PyData.eqv d1 (.str "word") && isI d2 0 7) = _
                  rw [e2, Bool.false_and]
                rw [e3] at k
                exact k
      · have e3 : isMn (.tuple ds) s0 = false := by
          match ds, hlen with
          | [], _ => rfl
          | [_], _ => rfl
          | [_, _], hl => exact absurd (show V.int ((xs.length : Nat) : Int) = .int 2 by rw [hl] <;> rfl) (of_decide_eq_false e)
          | _ :: _ :: _ :: _, _ => rfl
        rw [e3] at k
        exact k
    | int i =>
      refine iteT ?_
      walk_at "run"
      exact ⟨_, _, _, _, rfl, .int i, k⟩
    | bl b =>
      refine iteT ?_
      walk_at "run"
      exact ⟨_, _, _, _, rfl, .bl b, k⟩
    | non =>
      refine iteT ?_
      walk_at "run"
      exact ⟨_, _, _, _, rfl, .non, k⟩
    | str x =>
      refine iteT ?_
      walk_at "run"
      exact ⟨_, _, _, _, rfl, .str x, k⟩
    | lst a b =>
      refine iteT ?_
      walk_at "run"
      exact ⟨_, _, _, _, rfl, .lst a b, k⟩
abbrev s_is_kind : Stmt := topS 26
abbrev ns_is_kind : List Str := ["value", "count"]
theorem sc_is_kind : FnScope ns_is_kind ["value", "count"] (defScope s_is_kind) := ⟨rfl, rfl, rfl, by decide +kernel, rfl, by decide +kernel, by decide +kernel⟩

theorem ok_is_kind {f : Addr} {fd : FuncData} (F : Fun K "_is_kind" "_is_kind" s_is_kind f fd) (T : Txt K mg C_Types C_NotValid) (D_is_index : Dfn P w K mg base CX0 3 "is_index" ["value", "many"] spIdx) : FnOk P w K mg base CX0 4 f fd ["value", "count"] spKd := by
  refine F.ok sc_is_kind (fun vs H Q E h => ?_) (fun cdv A outer s H vs Q E hr h => ?_)
  · obtain ⟨v, d, n, rfl, _⟩ := h
    rfl
  · obtain ⟨v, d, n, rfl, hd, hsh, k⟩ := h
    refine ⟨_, (pss_one (ps_ret (pe_or (pe_cmpR (kEqD K hr.units) (pv 0) pe_str (nomark _)) (pe_one (pe_and (pe_dcall D_is_index (hr.mono (by decide)) (by rfl) pass0 (pa_cons (pv 0) (pa_cons (pv 1) pa_nil))) (pe_one (pe_cmpR (kNeD K hr.units) (pv 0) (pe_gint (by rfl) T.c_ROOT) (nomark _)))))))), ?_⟩
    walk_at "run"
    refine ⟨d, .str "own", hd.dp, (Dt.str _).dp, hsh, sh_str _, ?_⟩
    refine ⟨_, rfl, iteB (fun e => ?_) (fun e => ?_)⟩
    · have e3 : isKd d n = true := by unfold isKd; rw [e]; rfl
      rw [e3] at k
      exact k
    · refine ⟨_, rfl, _, rfl, _, d, _, rfl, hd, _, rfl, iteB (fun e2 => ?_) (fun e2 => ?_)⟩
      · walk_at "run"
        refine ⟨d, .int 1, hd.dp, (Dt.int _).dp, hsh, sh_int _, ?_⟩
        have e3 : isKd d n = !PyData.eqv d (.int 1) := by
          unfold isKd
          rw [e, show isI d 0 (n - 1) = true from e2]; rfl
        rw [e3] at k
        exact k
      · have e3 : isKd d n = false := by
          unfold isKd
          rw [e, show isI d 0 (n - 1) = false from e2]; rfl
        rw [e3] at k
        exact k
end
end My

namespace My
open PySem L2
local macro_rules | `(tactic| walk_at "ne") => `(tactic| first | assumption | exact Ne.symm (by assumption) | exact ne_of_none (by assumption) (by assumption) | exact Ne.symm (ne_of_none (by assumption) (by assumption)))
local macro_rules | `(tactic| walk_at "hp") => `(tactic| first | assumption | with_reducible exact upd_same | (with_reducible refine Eq.trans (upd_ne ?_) ?_; rotate_left; walk_at "hp"; walk_at "ne"))
local macro_rules | `(tactic| walk_at "cnd") => `(tactic| first | omega | (show (0 : Int) < _; omega) | exact ⟨by omega, by omega⟩ | exact Or.inl ⟨by omega, by omega⟩ | exact Or.inr ⟨by omega, by omega⟩ | exact ⟨by omega, by omega, by decide⟩ | exact ⟨by omega, by omega, by omega⟩)
local macro_rules | `(tactic| walk_at "at") => `(tactic| first | exact atC 0 rfl rfl | exact atC 1 rfl rfl | exact atC 2 rfl rfl | exact atC 3 rfl rfl | exact atC 4 rfl rfl | exact atC 5 rfl rfl | exact atC 6 rfl rfl | exact atC 7 rfl rfl)
local macro_rules | `(tactic| walk_at "ix") => `(tactic| first | exact ixC 0 rfl (Nat.le_of_ble_eq_true rfl) | exact ixC 1 rfl (Nat.le_of_ble_eq_true rfl) | exact ixC 2 rfl (Nat.le_of_ble_eq_true rfl) | exact ixC 3 rfl (Nat.le_of_ble_eq_true rfl) | exact ixC 4 rfl (Nat.le_of_ble_eq_true rfl) | exact ixC 5 rfl (Nat.le_of_ble_eq_true rfl))
local macro_rules | `(tactic| walk_at "st") => `(tactic| first
  | refine ⟨_, rfl, ?_⟩
  | refine ⟨_, _, rfl, rfl, (by walk_at "cnd" : (_ : Prop)), ?_⟩
  | refine ⟨_, _, rfl, rfl, ?_⟩
  | refine ⟨rfl, ?_⟩
  | refine Or.inl ⟨_, rfl, ?_⟩
  | refine ⟨_, _, _, _, rfl, rfl, by exact SqL.of (by walk_at "hp"), by walk_at "at", ?_⟩
  | refine ⟨_, _, _, _, rfl, rfl, by exact SqT.of (by walk_at "hp"), by walk_at "at", ?_⟩
  | refine ⟨_, _, _, _, rfl, rfl, by walk_at "hp", by walk_at "ix", ?_⟩
  | refine ⟨_, _, rfl, Or.inl (by exact SqL.of (by walk_at "hp")), ?_⟩
  | refine ⟨_, _, rfl, Or.inr (by exact SqT.of (by walk_at "hp")), ?_⟩)
local macro_rules | `(tactic| walk_at "so") => `(tactic| first
  | refine ⟨_, _, _, _, _, rfl, by walk_at "hp", by assumption, by assumption, rfl, ?_⟩
  | refine ⟨_, _, _, _, rfl, by walk_at "hp", by assumption, by assumption, Nat.le_of_ble_eq_true rfl, ?_⟩
  | refine ⟨_, _, _, rfl, by walk_at "hp", rfl, ?_⟩
  | walk_at "st")
local macro_rules | `(tactic| walk_at "ro") => `(tactic| repeat walk_at "so")
local macro_rules | `(tactic| walk_at "run") => `(tactic| repeat walk_at "st")

section
variable {P : Program} {w : World} {K : PySem.W.Frag} {mg : Str → Option Value} {base : Heap}
abbrev s_is_clause : Stmt := topS 23
abbrev ns_is_clause : List Str := ["value", "count", "guards", "start", "many", "kind", "row"]
theorem sc_is_clause : FnScope ns_is_clause ["value", "count"] (defScope s_is_clause) := ⟨rfl, rfl, rfl, by decide +kernel, rfl, by decide +kernel, by decide +kernel⟩

theorem ok_is_clause {f : Addr} {fd : FuncData} (F : Fun K "_is_clause" "_is_clause" s_is_clause f fd) (T : Txt K mg C_Types C_NotValid) (D_is_guard : Dfn P w K mg base CX0 4 "_is_guard" ["value"] spGd) (D_is_index : Dfn P w K mg base CX0 3 "is_index" ["value", "many"] spIdx) (D_is_many : Dfn P w K mg base CX0 4 "_is_many" ["value", "start"] spMn) (D_is_kind : Dfn P w K mg base CX0 4 "_is_kind" ["value", "count"] spKd) : FnOk P w K mg base CX0 5 f fd ["value", "count"] spCl := by
  refine F.ok sc_is_clause (fun vs H Q E h => ?_) (fun cdv A outer s H vs Q E hr h => ?_)
  · obtain ⟨v, d, n, rfl, _⟩ := h
    rfl
  · obtain ⟨v, d, n, rfl, hd, hfit, k⟩ := h
    refine ⟨_, (pss_cons (ps_if (PW.pt (pw_or (pt_not (pt_val (pe_callB (kIsi K) (by rfl) T.b_isinstance (by decide +kernel) (pa_cons (pv 0) (pa_cons (pe_bltn (v := .ty "tuple") (by rfl) T.b_tuple (by decide +kernel) rfl) pa_nil))))) (pw_or1 (pt_cmpR op_ne (pe_callB (kLen K) (by rfl) T.b_len (by decide +kernel) (pa_cons (pv 0) pa_nil)) pe_int (nomark _))))) (pss_one (ps_ret pe_bl)) pss_nil)
  (pss_cons (ps_asg (pv 0) (kpgT K (n := 4) (by rfl) (pgs_cons (pg_name (i := 2) sc_is_clause.nd rfl (Or.inl rfl)) (pgs_cons (pg_name (i := 3) sc_is_clause.nd rfl (Or.inl rfl)) (pgs_cons (pg_name (i := 4) sc_is_clause.nd rfl (Or.inl rfl)) (pgs_cons (pg_name (i := 5) sc_is_clause.nd rfl (Or.inl rfl)) pgs_nil))))))
  (pss_cons (ps_if (PW.pt (pw_or (pt_not (pt_val (pe_callB (kIsi K) (by rfl) T.b_isinstance (by decide +kernel) (pa_cons (pv 2) (pa_cons (pe_bltn (v := .ty "tuple") (by rfl) T.b_tuple (by decide +kernel) rfl) pa_nil))))) (pw_or (pt_cmpR op_gt (pe_callB (kLen K) (by rfl) T.b_len (by decide +kernel) (pa_cons (pv 2) pa_nil)) (pe_gint (by rfl) T.c__MOST_GUARDS) (nomark _)) (pw_or1 (pt_not (pt_val (pe_callB (kAll K rfl) (by rfl) T.b_all (by decide +kernel) (pa_cons (pe_lc (own := [("row", 6)]) (by rfl) sc_is_clause.nd (kpiT K (pv 2)) (blkOk_by (N := ns_is_clause) (sc := defScope s_is_clause) (by decide +kernel)) (fun _ _ _ _ _ => (pg_name (i := 6) sc_is_clause.nd rfl (Or.inl rfl))) (fun _ _ _ _ _ => pts_nil) (fun _ _ _ _ _ => (pe_dcall D_is_guard (hr.mono (by decide)) (by rfl) pass0 (pa_cons (pv 6) pa_nil)))) pa_nil)))))))) (pss_one (ps_ret pe_bl)) pss_nil)
  (pss_one (ps_ret (pe_and (pe_dcall D_is_index (hr.mono (by decide)) (by rfl) pass0 (pa_cons (pv 3) (pa_cons (pe_gint (by rfl) T.c_WORDS) pa_nil))) (pe_and (pe_dcall D_is_many (hr.mono (by decide)) (by rfl) pass0 (pa_cons (pv 4) (pa_cons (pv 3) pa_nil))) (pe_one (pe_dcall D_is_kind (hr.mono (by decide)) (by rfl) pass0 (pa_cons (pv 5) (pa_cons (pv 1) pa_nil))))))))))), ?_⟩
    refine ⟨_, rfl, _, _, _, _, _, rfl, .ty _, hd.ty, kit_ty (kitTup d), _, rfl, ?_⟩
    cases hd with
    | @tup a xs ds ha hs =>
      have hlen := hs.len
      refine iteF ?_
      walk_at "run"
      refine iteDn (fun h1 => ?_) (fun h1 => ?_)
      · have e : isCl n (.tuple ds) = false := by
          match ds, hlen with
          | [], _ => rfl
          | [_], _ => rfl
          | [_, _], _ => rfl
          | [_, _, _], _ => rfl
          | [x, y, z, u], hl => exact absurd (by rw [hl] <;> rfl) h1
          | _ :: _ :: _ :: _ :: _ :: _, _ => rfl
        rw [e] at k
        exact k H (Same.refl H)
      · have h3 : ds.length = 4 := by
          have q : ((xs.length : Nat) : Int) = 4 := by injection h1
          omega
        match ds, h3, hs, k, hfit with
        | [d1, d2, d3, d4], _, hs, k, hfit =>
          obtain ⟨f1, f2⟩ := hfit _ _ _ _ rfl
          cases hs with
          | cons b1 hs => cases hs with
            | cons b2 hs => cases hs with
              | cons b3 hs => cases hs with
                | cons b4 hs =>
                  cases hs
                  walk_at "run"
                  refine ⟨_, _, rfl, SqT.of ha, rfl, _, _, rfl, _, _, rfl, _, _, rfl, _, _, rfl, rfl, ?_⟩
                  have bad : gdsOk d1 = false → isCl n (.tuple [d1, d2, d3, d4]) = false := fun e => by
                    show (gdsOk d1 && _) = false
                    rw [e, Bool.false_and]
                  refine ⟨_, rfl, _, _, _, _, _, rfl, .ty _, b1.ty, kit_ty (kitTup d1), _, rfl, ?_⟩
                  cases b1 with
                  | @tup ga gxs gs hga hgs =>
                    have glen := hgs.len
                    refine iteF ?_
                    walk_at "run"
                    refine iteD (fun h1 => ?_) (fun h1 => ?_)
                    · rw [bad (by show (decide (gs.length ≤ 4) && _) = false; rw [decide_eq_false (by omega), Bool.false_and])] at k
                      exact k H (Same.refl H)
                    · have g4 : gs.length ≤ 4 := by omega
                      walk_at "run"
                      refine ⟨⟨_, SqT.of hga⟩, fun D hD => ?_⟩
                      refine lcT (xs := gxs) ((gs.map isGd).map V.bl) (by simp [glen]) (by omega) hga hD ?_ ?_
                      · intro j x y H1 Q' hx hy s1 q
                        obtain ⟨d, hd1, hd2⟩ := hgs.getV hx
                        have ey : y = .bl (isGd d) := by
                          rw [List.getElem?_map, List.getElem?_map, hd1] at hy
                          exact (Option.some.inj hy).symm
                        subst ey
                        refine ⟨rfl, ?_⟩
                        walk_at "run"
                        exact ⟨_, d, rfl, hd2.same s1, q H1 (Same.refl _)⟩
                      · intro H1 s1 dd
                        refine ⟨_, _, rfl, SqL.of dd, _, rfl, ?_⟩
                        have eg : gdsOk (.tuple gs) = (gs.map isGd).all id := by
                          show (decide (gs.length ≤ 4) && gs.all isGd) = _
                          rw [decide_eq_true g4, Bool.true_and, List.all_map]; rfl
                        have ec : isCl n (.tuple [.tuple gs, d2, d3, d4]) = ((gs.map isGd).all id && (isI d2 0 7 && (isMn d3 (intD d2) && isKd d4 n))) := by
                          show (gdsOk (.tuple gs) && (isI d2 0 7 && (isMn d3 (intD d2) && isKd d4 n))) = _
                          rw [eg]
                        rw [ec] at k
                        cases e1 : (gs.map isGd).all id with
                        | false =>
                          rw [e1, Bool.false_and] at k
                          exact iteT (k H1 s1)
                        | true =>
                          rw [e1, Bool.true_and] at k
                          refine iteF ?_
                          walk_at "run"
                          refine ⟨_, d2, _, rfl, b2.same s1, _, rfl, iteB (fun e => ?_) (fun e => ?_)⟩
                          · have e' : isI d2 0 7 = true := e
                            obtain ⟨i, rfl, i0, i7⟩ := isI_int e'
                            rw [e', Bool.true_and] at k
                            have k : ∀ H', Same H H' → Q (.bl (isMn d3 i && isKd d4 n)) H' := k
                            cases b2
                            walk_at "run"
                            refine ⟨_, d3, _, rfl, b3.same s1, f2, _, rfl, iteB (fun e2 => ?_) (fun e2 => ?_)⟩
                            · walk_at "run"
                              rw [e2, Bool.true_and] at k
                              exact ⟨_, d4, _, rfl, b4.same s1, f1, k H1 s1⟩
                            · rw [e2, Bool.false_and] at k
                              exact k H1 s1
                          · have e' : isI d2 0 7 = false := e
                            rw [e', Bool.false_and] at k
                            exact k H1 s1
                  | int i => rw [bad rfl] at k; exact iteT (k H (Same.refl H))
                  | bl b => rw [bad rfl] at k; exact iteT (k H (Same.refl H))
                  | non => rw [bad rfl] at k; exact iteT (k H (Same.refl H))
                  | str x => rw [bad rfl] at k; exact iteT (k H (Same.refl H))
                  | lst a b => rw [bad rfl] at k; exact iteT (k H (Same.refl H))
    | int i => exact iteT (k H (Same.refl H))
    | bl b => exact iteT (k H (Same.refl H))
    | non => exact iteT (k H (Same.refl H))
    | str x => exact iteT (k H (Same.refl H))
    | lst a b => exact iteT (k H (Same.refl H))
abbrev s_is_program : Stmt := topS 22
abbrev ns_is_program : List Str := ["value", "count", "clause"]
theorem sc_is_program : FnScope ns_is_program ["value", "count"] (defScope s_is_program) := ⟨rfl, rfl, rfl, by decide +kernel, rfl, by decide +kernel, by decide +kernel⟩

theorem ok_is_program {f : Addr} {fd : FuncData} (F : Fun K "is_program" "is_program" s_is_program f fd) (T : Txt K mg C_Types C_NotValid) (D_is_clause : Dfn P w K mg base CX0 5 "_is_clause" ["value", "count"] spCl) : FnOk P w K mg base CX0 6 f fd ["value", "count"] spPg := by
  refine F.ok sc_is_program (fun vs H Q E h => ?_) (fun cdv A outer s H vs Q E hr h => ?_)
  · obtain ⟨v, d, n, rfl, _⟩ := h
    rfl
  · obtain ⟨v, d, n, rfl, hd, hfit, k⟩ := h
    refine ⟨_, (pss_cons (ps_if (PW.pt (pw_or (pt_not (pt_val (pe_callB (kIsi K) (by rfl) T.b_isinstance (by decide +kernel) (pa_cons (pv 0) (pa_cons (pe_bltn (v := .ty "tuple") (by rfl) T.b_tuple (by decide +kernel) rfl) pa_nil))))) (pw_or1 (pt_cmpR op_gt (pe_callB (kLen K) (by rfl) T.b_len (by decide +kernel) (pa_cons (pv 0) pa_nil)) (pe_gint (by rfl) T.c__MOST_CLAUSES) (nomark _))))) (pss_one (ps_ret pe_bl)) pss_nil)
  (pss_one (ps_ret (pe_callB (kAll K rfl) (by rfl) T.b_all (by decide +kernel) (pa_cons (pe_lc (own := [("clause", 2)]) (by rfl) sc_is_program.nd (kpiT K (pv 0)) (blkOk_by (N := ns_is_program) (sc := defScope s_is_program) (by decide +kernel)) (fun _ _ _ _ _ => (pg_name (i := 2) sc_is_program.nd rfl (Or.inl rfl))) (fun _ _ _ _ _ => pts_nil) (fun _ _ _ _ _ => (pe_dcall D_is_clause (hr.mono (by decide)) (by rfl) pass0 (pa_cons (pv 2) (pa_cons (pv 1) pa_nil))))) pa_nil))))), ?_⟩
    refine ⟨_, rfl, _, _, _, _, _, rfl, .ty _, hd.ty, kit_ty (kitTup d), _, rfl, ?_⟩
    cases hd with
    | @tup a xs ds ha hs =>
      have hlen := hs.len
      refine iteF ?_
      walk_at "run"
      refine iteD (fun h1 => ?_) (fun h1 => ?_)
      · have e : isPg n (.tuple ds) = false := by
          show (decide (ds.length ≤ 8) && _) = false
          rw [decide_eq_false (by omega), Bool.false_and]
        rw [e] at k
        exact k H (Same.refl H)
      · have h8 : ds.length ≤ 8 := by omega
        walk_at "run"
        refine ⟨⟨_, SqT.of ha⟩, fun D hD => ?_⟩
        refine lcT (xs := xs) ((ds.map (isCl n)).map V.bl) (by simp [hlen]) (by omega) ha hD ?_ ?_
        · intro j x y H1 Q' hx hy s1 q
          obtain ⟨d, hd1, hd2⟩ := hs.getV hx
          have ey : y = .bl (isCl n d) := by
            rw [List.getElem?_map, List.getElem?_map, hd1] at hy
            exact (Option.some.inj hy).symm
          subst ey
          refine ⟨rfl, ?_⟩
          walk_at "run"
          exact ⟨_, d, n, rfl, hd2.same s1, hfit _ rfl d (List.mem_of_getElem? hd1), fun H2 s2 => q H2 s2⟩
        · intro H1 s1 dd
          refine ⟨_, _, rfl, SqL.of dd, ?_⟩
          have e : isPg n (.tuple ds) = (ds.map (isCl n)).all id := by
            show (decide (ds.length ≤ 8) && ds.all (isCl n)) = _
            rw [decide_eq_true h8, Bool.true_and, List.all_map]; rfl
          rw [e] at k
          exact k H1 s1
    | int i => exact iteT (k H (Same.refl H))
    | bl b => exact iteT (k H (Same.refl H))
    | non => exact iteT (k H (Same.refl H))
    | str x => exact iteT (k H (Same.refl H))
    | lst a b => exact iteT (k H (Same.refl H))
end
end My

namespace My
open PySem L2
local macro_rules | `(tactic| walk_at "ne") => `(tactic| first | assumption | exact Ne.symm (by assumption) | exact ne_of_none (by assumption) (by assumption) | exact Ne.symm (ne_of_none (by assumption) (by assumption)))
local macro_rules | `(tactic| walk_at "hp") => `(tactic| first | assumption | with_reducible exact upd_same | (with_reducible refine Eq.trans (upd_ne ?_) ?_; rotate_left; walk_at "hp"; walk_at "ne"))
local macro_rules | `(tactic| walk_at "cnd") => `(tactic| first | omega | (show (0 : Int) < _; omega) | exact ⟨by omega, by omega⟩ | exact Or.inl ⟨by omega, by omega⟩ | exact Or.inr ⟨by omega, by omega⟩ | exact ⟨by omega, by omega, by decide⟩ | exact ⟨by omega, by omega, by omega⟩)
local macro_rules | `(tactic| walk_at "at") => `(tactic| first | exact atC 0 rfl rfl | exact atC 1 rfl rfl | exact atC 2 rfl rfl | exact atC 3 rfl rfl | exact atC 4 rfl rfl | exact atC 5 rfl rfl | exact atC 6 rfl rfl | exact atC 7 rfl rfl)
local macro_rules | `(tactic| walk_at "ix") => `(tactic| first | exact ixC 0 rfl (Nat.le_of_ble_eq_true rfl) | exact ixC 1 rfl (Nat.le_of_ble_eq_true rfl) | exact ixC 2 rfl (Nat.le_of_ble_eq_true rfl) | exact ixC 3 rfl (Nat.le_of_ble_eq_true rfl) | exact ixC 4 rfl (Nat.le_of_ble_eq_true rfl) | exact ixC 5 rfl (Nat.le_of_ble_eq_true rfl))
local macro_rules | `(tactic| walk_at "st") => `(tactic| first
  | refine ⟨_, rfl, ?_⟩
  | refine ⟨_, _, rfl, rfl, (by walk_at "cnd" : (_ : Prop)), ?_⟩
  | refine ⟨_, _, rfl, rfl, ?_⟩
  | refine ⟨rfl, ?_⟩
  | refine Or.inl ⟨_, rfl, ?_⟩
  | refine ⟨_, _, _, _, rfl, rfl, by exact SqL.of (by walk_at "hp"), by walk_at "at", ?_⟩
  | refine ⟨_, _, _, _, rfl, rfl, by exact SqT.of (by walk_at "hp"), by walk_at "at", ?_⟩
  | refine ⟨_, _, _, _, rfl, rfl, by walk_at "hp", by walk_at "ix", ?_⟩
  | refine ⟨_, _, rfl, Or.inl (by exact SqL.of (by walk_at "hp")), ?_⟩
  | refine ⟨_, _, rfl, Or.inr (by exact SqT.of (by walk_at "hp")), ?_⟩)
local macro_rules | `(tactic| walk_at "so") => `(tactic| first
  | refine ⟨_, _, _, _, _, rfl, by walk_at "hp", by assumption, by assumption, rfl, ?_⟩
  | refine ⟨_, _, _, _, rfl, by walk_at "hp", by assumption, by assumption, Nat.le_of_ble_eq_true rfl, ?_⟩
  | refine ⟨_, _, _, rfl, by walk_at "hp", rfl, ?_⟩
  | walk_at "st")
local macro_rules | `(tactic| walk_at "ro") => `(tactic| repeat walk_at "so")
local macro_rules | `(tactic| walk_at "run") => `(tactic| repeat walk_at "st")

/-! ### len(set(numbers)) -/
def dist (ns : List Int) : Nat := (PyProof.Rows.firstMet (fun i => ns.getD i 0) ns.length).length
theorem dist_step (ns : List Int) : ∀ i, i ≤ ns.length → ((ns.take i).Nodup ∧ PyProof.Rows.firstMet (fun i => ns.getD i 0) i = ns.take i) ∨ (¬ (ns.take i).Nodup ∧ (PyProof.Rows.firstMet (fun i => ns.getD i 0) i).length < i)
  | 0, _ => .inl ⟨by simp, by rw [PyProof.Rows.firstMet_zero]; simp⟩
  | i + 1, h => by
    have hlt : i < ns.length := h
    have e1 : ns.getD i 0 = ns[i] := by rw [List.getD_eq_getElem?_getD, List.getElem?_eq_getElem hlt] <;> rfl
    have e2 : ns.take (i + 1) = ns.take i ++ [ns[i]] := by rw [List.take_add_one, List.getElem?_eq_getElem hlt] <;> rfl
    rw [PyProof.Rows.firstMet_succ, e2]
    show (_ ∧ (if (PyProof.Rows.firstMet (fun i => ns.getD i 0) i).any (· == ns.getD i 0) then _ else _ ++ [ns.getD i 0]) = _) ∨ (_ ∧ (if (PyProof.Rows.firstMet (fun i => ns.getD i 0) i).any (· == ns.getD i 0) then PyProof.Rows.firstMet (fun i => ns.getD i 0) i else PyProof.Rows.firstMet (fun i => ns.getD i 0) i ++ [ns.getD i 0]).length < _)
    rw [e1]
    rcases dist_step ns i (Nat.le_of_lt hlt) with ⟨h1, h2⟩ | ⟨h1, h2⟩
    · rw [h2]
      by_cases hm : ns[i] ∈ ns.take i
      · refine .inr ⟨fun q => ?_, ?_⟩
        · exact (List.nodup_append.mp q).2.2 _ hm _ (List.mem_singleton.mpr rfl) rfl
        · have an : ((ns.take i).any fun x => x == ns[i]) = true := List.any_eq_true.mpr ⟨_, hm, beq_self_eq_true _⟩
          rw [if_pos an, List.length_take]; omega
      · refine .inl ⟨List.nodup_append.mpr ⟨h1, by simp, fun x hx y hy e => ?_⟩, ?_⟩
        · rw [List.mem_singleton.mp hy] at e
          exact hm (e ▸ hx)
        · rw [if_neg]
          intro q
          obtain ⟨y, hy, ey⟩ := List.any_eq_true.mp q
          exact hm ((eq_of_beq ey) ▸ hy)
    · refine .inr ⟨fun q => h1 (List.nodup_append.mp q).1, ?_⟩
      split
      · omega
      · rw [List.length_append]; show _ + 1 < _; omega
theorem dist_iff (ns : List Int) : decide ((dist ns : Int) < (ns.length : Int)) = !decide ns.Nodup := by
  have h := dist_step ns ns.length (Nat.le_refl _)
  rw [List.take_length] at h
  rcases h with ⟨h1, h2⟩ | ⟨h1, h2⟩
  · rw [decide_eq_true h1, decide_eq_false (by unfold dist; rw [h2]; omega)]; rfl
  · rw [decide_eq_false h1, decide_eq_true (by unfold dist; omega)]; rfl
def tLenSetG (K : PySem.W.Frag) (ta : TE) : TE := fun σ H Q => ta σ H fun x H1 => ∃ (l : Addr) (ns : List Int), x = .ref l ∧ SqL K H1 l (ns.map V.int) ∧ ns.length ≤ 4000 ∧ Q (.int (dist ns : Nat)) H1
open PyProof.Rows in
theorem pe_lenSetG {X : Cx} {a : Expr} {ta : TE} {p p2 q pos : Pos} (hg : Gl X "len") (hm : X.mg "len" = none) (hg2 : Gl X "set") (hm2 : X.mg "set" = none) (ha : PE X a ta) (hc : X.calm = true := by rfl)
    (na : starEach [a] X.env = (false, eval a X.env) :: starEach [] X.env := by rfl) : PE X (.Call (.Name "len" p) [.Call (.Name "set" p2) [a] [] q] [] pos) (tLenSetG X.K ta) := by
  refine ⟨fun pins s σ H Q I h => ?_⟩
  refine Call_ (ld_blt I hg hm boot_len ?_)
  refine PyProof.Rows.callWith_builtin1 (PyProof.Rows.args_cons ?_ rfl) rfl rfl
  refine Call_ (ld_blt I hg2 hm2 boot_set ?_)
  refine PyProof.Rows.callWith_type1 (PyProof.Rows.args_cons (thn (ha.run pins s σ H _ I h) fun v s1 ⟨x, H1, I1, r1, q1⟩ => PyProof.Rows.args_nil ?_) na) na rfl
  obtain ⟨l, ns, rfl, hq, hl, q1⟩ := q1
  cases r1
  obtain ⟨its, r, pl, hz⟩ := I1.list hq
  have hlen : its.toArray.size = ns.length := by rw [List.size_toArray, ← r.length, List.length_map]
  refine call_set_list (I1.ok.hd hc) pl.isList (by simpa using RZ.intsAre_vals r) (by rw [hlen]; unfold scanBound; omega) fun h' tk hS hk => ?_
  refine PyProof.Rows.args_nil ?_
  rw [hlen] at hS
  have hb := PyProof.Rows.firstMet_length_le (fun i => ns.getD i 0) ns.length
  obtain ⟨o, es, ep, t, ho, hex, hd, _, _, _, hf, hn⟩ := hS
  have I2 : Inv X pins σ H1 { s1 with heap := h', toks := tk } := I1.kept fun b o e => hk b o (Heap.lt_size e) e
  exact call_len_set ho hex hd hf (by rw [hn] <;> omega) ⟨.int (dist ns : Nat), H1, I2.tok _, ⟨_, by rw [hn] <;> rfl⟩, q1⟩
end My

namespace My
open PySem L2
local macro_rules | `(tactic| walk_at "ne") => `(tactic| first | assumption | exact Ne.symm (by assumption) | exact ne_of_none (by assumption) (by assumption) | exact Ne.symm (ne_of_none (by assumption) (by assumption)))
local macro_rules | `(tactic| walk_at "hp") => `(tactic| first | assumption | with_reducible exact upd_same | (with_reducible refine Eq.trans (upd_ne ?_) ?_; rotate_left; walk_at "hp"; walk_at "ne"))
local macro_rules | `(tactic| walk_at "cnd") => `(tactic| first | omega | (show (0 : Int) < _; omega) | exact ⟨by omega, by omega⟩ | exact Or.inl ⟨by omega, by omega⟩ | exact Or.inr ⟨by omega, by omega⟩ | exact ⟨by omega, by omega, by decide⟩ | exact ⟨by omega, by omega, by omega⟩)
local macro_rules | `(tactic| walk_at "at") => `(tactic| first | exact atC 0 rfl rfl | exact atC 1 rfl rfl | exact atC 2 rfl rfl | exact atC 3 rfl rfl | exact atC 4 rfl rfl | exact atC 5 rfl rfl | exact atC 6 rfl rfl | exact atC 7 rfl rfl)
local macro_rules | `(tactic| walk_at "ix") => `(tactic| first | exact ixC 0 rfl (Nat.le_of_ble_eq_true rfl) | exact ixC 1 rfl (Nat.le_of_ble_eq_true rfl) | exact ixC 2 rfl (Nat.le_of_ble_eq_true rfl) | exact ixC 3 rfl (Nat.le_of_ble_eq_true rfl) | exact ixC 4 rfl (Nat.le_of_ble_eq_true rfl) | exact ixC 5 rfl (Nat.le_of_ble_eq_true rfl))
local macro_rules | `(tactic| walk_at "st") => `(tactic| first
  | refine ⟨_, rfl, ?_⟩
  | refine ⟨_, _, rfl, rfl, (by walk_at "cnd" : (_ : Prop)), ?_⟩
  | refine ⟨_, _, rfl, rfl, ?_⟩
  | refine ⟨rfl, ?_⟩
  | refine Or.inl ⟨_, rfl, ?_⟩
  | refine ⟨_, _, _, _, rfl, rfl, by exact SqL.of (by walk_at "hp"), by walk_at "at", ?_⟩
  | refine ⟨_, _, _, _, rfl, rfl, by exact SqT.of (by walk_at "hp"), by walk_at "at", ?_⟩
  | refine ⟨_, _, _, _, rfl, rfl, by walk_at "hp", by walk_at "ix", ?_⟩
  | refine ⟨_, _, rfl, Or.inl (by exact SqL.of (by walk_at "hp")), ?_⟩
  | refine ⟨_, _, rfl, Or.inr (by exact SqT.of (by walk_at "hp")), ?_⟩)
local macro_rules | `(tactic| walk_at "so") => `(tactic| first
  | refine ⟨_, _, _, _, _, rfl, by walk_at "hp", by assumption, by assumption, rfl, ?_⟩
  | refine ⟨_, _, _, _, rfl, by walk_at "hp", by assumption, by assumption, Nat.le_of_ble_eq_true rfl, ?_⟩
  | refine ⟨_, _, _, rfl, by walk_at "hp", rfl, ?_⟩
  | walk_at "st")
local macro_rules | `(tactic| walk_at "ro") => `(tactic| repeat walk_at "so")
local macro_rules | `(tactic| walk_at "run") => `(tactic| repeat walk_at "st")

/-! ### drawn programs, rows of words -/
abbrev Row3 := Nat × Nat × Nat
def vN (n : Nat) : V := .int (n : Int)
def rowV (r : Row3) : List V := [.int r.1, .int r.2.1, .int r.2.2]
def rowD (r : Row3) : PyData := .tuple [.int r.1, .int r.2.1, .int r.2.2]
def fD (rows : List Row3) : PyData := .tuple (rows.map rowD)
def pD (ws : List Nat) : PyData := .tuple (ws.map fun n : Nat => PyData.int (n : Int))
theorem fD_open {H : Hp} {v : V} {rows : List Row3} (h : Dt H v (fD rows)) : ∃ (a : Addr) (xs : List V), v = .ref a ∧ H a = some (.tup xs) ∧ xs.length = rows.length ∧
    ∀ (i : Nat) (x : V), xs[i]? = some x → ∃ (r : Row3) (t : Addr), rows[i]? = some r ∧ x = .ref t ∧ H t = some (.tup (rowV r)) := by
  unfold fD at h
  cases h with
  | @tup a xs ds ha hs =>
    refine ⟨a, xs, rfl, ha, by rw [hs.len, List.length_map], fun i x hx => ?_⟩
    obtain ⟨d, hd, hD⟩ := hs.getV hx
    rw [List.getElem?_map] at hd
    cases e : rows[i]? with
    | none => rw [e] at hd; cases hd
    | some r =>
      rw [e] at hd
      have e2 : rowD r = d := Option.some.inj hd
      subst e2
      unfold rowD at hD
      cases hD with
      | tup ht hts =>
        cases hts with
        | cons c1 hts => cases hts with
          | cons c2 hts => cases hts with
            | cons c3 hts =>
              cases hts; cases c1; cases c2; cases c3
              exact ⟨r, _, rfl, rfl, ht⟩
theorem ints_open {H : Hp} : ∀ {ws : List Nat} {xs : List V}, DtAll H xs (ws.map fun n : Nat => PyData.int (n : Int)) → xs = ws.map vN
  | [], _, h => by cases h; rfl
  | w :: ws, _, h => by
    cases h with
    | cons h1 h2 =>
      cases h1
      rw [ints_open h2]; rfl
theorem pD_open {H : Hp} {v : V} {ws : List Nat} (h : Dt H v (pD ws)) : ∃ (a : Addr), v = .ref a ∧ H a = some (.tup (ws.map vN)) := by
  unfold pD at h
  cases h with
  | tup ha hs => exact ⟨_, rfl, by rw [ha, ints_open hs]⟩
theorem ints_mk {H : Hp} : ∀ {ws : List Nat}, DtAll H (ws.map vN) (ws.map fun n : Nat => PyData.int (n : Int))
  | [] => .nil
  | w :: ws => .cons (.int _) ints_mk
theorem pD_mk {H : Hp} {a : Addr} {ws : List Nat} (h : H a = some (.tup (ws.map vN))) : Dt H (.ref a) (pD ws) := .tup h ints_mk
theorem rows_tonly : ∀ (rows : List Row3), tonlyAll (rows.map rowD) = true
  | [] => rfl
  | r :: rs => by
    show (tonly (rowD r) && tonlyAll (rs.map rowD)) = true
    rw [rows_tonly rs]; rfl
theorem fD_tonly (rows : List Row3) : tonly (fD rows) = true := by
  show tonlyAll (rows.map rowD) = true
  exact rows_tonly rows
theorem ints_tonly : ∀ (ws : List Nat), tonlyAll (ws.map fun n : Nat => PyData.int (n : Int)) = true
  | [] => rfl
  | w :: ws => by
    show (true && tonlyAll (ws.map fun n : Nat => PyData.int (n : Int))) = true
    rw [ints_tonly ws]; rfl
theorem pD_tonly (ws : List Nat) : tonly (pD ws) = true := by
  show tonlyAll _ = true
  exact ints_tonly ws
theorem bitAnd_nat (a b : Nat) : Builtin.bitAnd (a : Int) (b : Int) = ((a &&& b : Nat) : Int) := by
  rw [PyProof.Rows.bitAnd_pp (Int.natCast_nonneg a) (Int.natCast_nonneg b), Int.toNat_natCast, Int.toNat_natCast]
theorem dec_int (a b : Int) : decide (V.int a = V.int b) = decide (a = b) := by simp
theorem dec_nat (a b : Nat) : decide (V.int (a : Int) = V.int (b : Int)) = decide (a = b) := by
  rw [dec_int]
  by_cases h : a = b
  · subst h; simp
  · rw [decide_eq_false h, decide_eq_false (by omega)]
theorem getVN {ws : List Nat} {i : Nat} (h : i < ws.length) : (ws.map vN)[i]? = some (.int (ws.getD i 0 : Nat)) := by
  rw [List.getElem?_map, List.getElem?_eq_getElem h, List.getD_eq_getElem?_getD, List.getElem?_eq_getElem h]; rfl
abbrev Cl := List Row3 × Nat × (Nat ⊕ Nat) × Option Nat
def mnD : Nat ⊕ Nat → PyData
  | .inl n => .int (n : Int)
  | .inr i => .tuple [.str "word", .int (i : Int)]
def kdD : Option Nat → PyData
  | none => .str "own"
  | some n => .int (n : Int)
def clD (c : Cl) : PyData := .tuple [.tuple (c.1.map rowD), .int (c.2.1 : Int), mnD c.2.2.1, kdD c.2.2.2]
structure ClOk (c : Cl) : Prop where
  g4 : c.1.length ≤ 4
  gr : ∀ r ∈ c.1, r.1 < 8 ∧ r.2.1 ≤ 4294967295 ∧ r.2.2 ≤ 4294967295
  st : c.2.1 < 8
  m1 : ∀ n, c.2.2.1 = .inl n → 1 ≤ n ∧ n + c.2.1 ≤ 8
  m2 : ∀ i, c.2.2.1 = .inr i → i < 8
  kd : c.2.2.2 = none ∨ c.2.2.2 = some 0 ∨ c.2.2.2 = some 2
def passB (rows : List Row3) (ws : List Nat) : Bool := rows.all fun r => decide (ws.getD r.1 0 &&& r.2.1 = r.2.2)
def manyN (ws : List Nat) : Nat ⊕ Nat → Nat
  | .inl n => n
  | .inr i => ws.getD i 0
def told (ws : List Nat) (s m : Nat) : List Nat := (ws.drop s).take m
def ownN (own : Nat) : Option Nat → Nat
  | none => own
  | some n => n
def nz (ws : List Nat) : List Nat := ws.filter fun x => !decide (x = 0)
def owned (ws : List Nat) (own : Nat) (c : Cl) : List (Nat × Nat) := if passB c.1 ws = true then (nz (told ws c.2.1 (manyN ws c.2.2.1))).map fun x => (x, ownN own c.2.2.2) else []
def ownedAll (ws : List Nat) (own : Nat) (cs : List Cl) : List (Nat × Nat) := cs.flatMap (owned ws own)
def oD (o : Nat × Nat) : PyData := .tuple [.int (o.1 : Int), .int (o.2 : Int)]
def fits (B : Nat) (os : List (Nat × Nat)) : Bool := (os.all fun o => decide (4 ≤ o.1) && decide (o.1 < B)) && decide (os.map (·.1)).Nodup
def runD (cs : List Cl) (ws : List Nat) (B own : Nat) : PyData := if fits B (ownedAll ws own cs) = true then .tuple ((ownedAll ws own cs).map oD) else .none
def spRun : Sp := fun vs H Q _ => ∃ vp vw cs ws, ∃ B own : Nat, vs = [vp, vw, .int B, .int own] ∧ Dt H vp (.tuple (cs.map clD)) ∧ Dt H vw (pD ws) ∧ ws.length = 8 ∧ cs.length ≤ 8 ∧ (∀ c ∈ cs, ClOk c) ∧ ∀ v H', Same H H' → Dt H' v (runD cs ws B own) → Q v H'
theorem owned_len {ws : List Nat} {own : Nat} {c : Cl} (h : ws.length = 8) : (owned ws own c).length ≤ 8 := by
  unfold owned
  split
  · rw [List.length_map]
    refine Nat.le_trans (List.length_filter_le _ _) ?_
    unfold told
    rw [List.length_take, List.length_drop]; omega
  · exact Nat.zero_le _
theorem ownedAll_len {ws : List Nat} {own : Nat} (h : ws.length = 8) : ∀ cs : List Cl, (ownedAll ws own cs).length ≤ 8 * cs.length
  | [] => Nat.zero_le _
  | c :: cs => by
    have := ownedAll_len (own := own) h cs
    have := owned_len (own := own) (c := c) h
    show (owned ws own c ++ ownedAll ws own cs).length ≤ _
    rw [List.length_append, List.length_cons]; omega
theorem os_tonly : ∀ os : List (Nat × Nat), tonlyAll (os.map oD) = true
  | [] => rfl
  | o :: os => by
    show (tonly (oD o) && tonlyAll (os.map oD)) = true
    rw [os_tonly os]; rfl
theorem cl_open {H : Hp} {v : V} {c : Cl} (h : Dt H v (clD c)) : ∃ t g m k, v = .ref t ∧ H t = some (.tup [.ref g, .int (c.2.1 : Int), m, k]) ∧ Dt H (.ref g) (fD c.1) ∧ Dt H m (mnD c.2.2.1) ∧ Dt H k (kdD c.2.2.2) := by
  unfold clD at h
  cases h with
  | tup ht hts =>
    cases hts with
    | cons c1 hts => cases hts with
      | cons c2 hts => cases hts with
        | cons c3 hts => cases hts with
          | cons c4 hts =>
            cases hts; cases c2
            cases c1 with
            | tup q1 q2 => exact ⟨_, _, _, _, rfl, ht, .tup q1 q2, c3, c4⟩
theorem get_cl {H : Hp} {xs : List V} {cs : List Cl} (h : DtAll H xs (cs.map clD)) {i : Nat} {x : V} (hx : xs[i]? = some x) : ∃ c, cs[i]? = some c ∧ Dt H x (clD c) := by
  obtain ⟨d, hd, hD⟩ := h.getV hx
  rw [List.getElem?_map] at hd
  cases e : cs[i]? with
  | none => rw [e] at hd; cases hd
  | some c =>
    rw [e] at hd
    have e2 : clD c = d := Option.some.inj hd
    subst e2
    exact ⟨c, rfl, hD⟩
theorem cut_told {ws : List Nat} {s m : Nat} (h : s ≤ ws.length) : cutV (ws.map vN) (some (s : Int)) (some ((s : Int) + (m : Int))) = (told ws s m).map vN := by
  unfold cutV told
  rw [show ((s : Int) + (m : Int)) = ((s + m : Nat) : Int) by omega, HT.sIx_nat, HT.sIx_nat, List.length_map, Nat.min_eq_left h, ← List.map_drop, ← List.map_take]
  congr 1
  by_cases hm : m ≤ ws.length - s
  · rw [show min (s + m) ws.length - s = m by omega]
  · rw [List.take_of_length_le (by rw [List.length_drop]; omega), List.take_of_length_le (by rw [List.length_drop]; omega)]
def spPass : Sp := fun vs H Q _ => ∃ t p rows ws, vs = [t, p] ∧ Dt H t (fD rows) ∧ Dt H p (pD ws) ∧ ws.length = 8 ∧ (∀ r ∈ rows, r.1 < 8) ∧ rows.length ≤ 1000 ∧ ∀ H', Same H H' → Q (.bl (passB rows ws)) H'
def spTold : Sp := fun vs H Q _ => ∃ vw vm ws, ∃ s : Nat, ∃ m, vs = [vw, .int s, vm] ∧ Dt H vw (pD ws) ∧ ws.length = 8 ∧ s < 8 ∧ Dt H vm (mnD m) ∧ (∀ i, m = .inr i → i < 8) ∧ ∀ v H', Same H H' → Dt H' v (pD (told ws s (manyN ws m))) → Q v H'
def spCan : Sp := fun vs H Q _ => ∃ b B : Nat, vs = [.int b, .int B] ∧ Q (.bl (decide (4 ≤ b) && decide (b < B))) H
section
variable {P : Program} {w : World} {K : PySem.W.Frag} {mg : Str → Option Value} {base : Heap}
abbrev s_let_pass : Stmt := topS 28
abbrev ns_let_pass : List Str := ["guards", "words", "index", "mask", "value"]
theorem sc_let_pass : FnScope ns_let_pass ["guards", "words"] (defScope s_let_pass) := ⟨rfl, rfl, rfl, by decide +kernel, rfl, by decide +kernel, by decide +kernel⟩

theorem ok_let_pass {f : Addr} {fd : FuncData} (F : Fun K "_let_pass" "_let_pass" s_let_pass f fd) (T : Txt K mg C_Types C_NotValid) : FnOk P w K mg base CX0 1 f fd ["guards", "words"] spPass := by
  refine F.ok sc_let_pass (fun vs H Q E h => ?_) (fun cdv A outer s H vs Q E hr h => ?_)
  · obtain ⟨t, p, rows, ws, rfl, _⟩ := h
    rfl
  · obtain ⟨t, p, rows, ws, rfl, ht, hp, h6, hi, hz, k⟩ := h
    obtain ⟨a, xs, rfl, ha, hl, hx⟩ := fD_open ht
    obtain ⟨b, rfl, hb⟩ := pD_open hp
    refine ⟨_, (pss_one (ps_ret (pe_callB (kAll K rfl) (by rfl) T.b_all (by decide +kernel) (pa_cons (pe_lc (own := [("index", 2), ("mask", 3), ("value", 4)]) (by rfl) sc_let_pass.nd (kpiT K (pv 0)) (blkOk_by (N := ns_let_pass) (sc := defScope s_let_pass) (by decide +kernel)) (fun _ _ _ _ _ => (kpgT K (n := 3) (by rfl) (pgs_cons (pg_name (i := 2) sc_let_pass.nd rfl (Or.inl rfl)) (pgs_cons (pg_name (i := 3) sc_let_pass.nd rfl (Or.inl rfl)) (pgs_cons (pg_name (i := 4) sc_let_pass.nd rfl (Or.inl rfl)) pgs_nil))))) (fun _ _ _ _ _ => pts_nil) (fun _ _ _ _ _ => (pe_cmpR op_eq (pe_op op_and (pe_ix (kIxT K) (pv 1) (pv 2) (fun _ _ => rfl)) (pv 3)) (pv 4) (nomark _)))) pa_nil)))), ?_⟩
    walk_at "run"
    refine ⟨⟨_, SqT.of ha⟩, fun D hD => ?_⟩
    refine lcT (xs := xs) ((rows.map fun r => decide (ws.getD r.1 0 &&& r.2.1 = r.2.2)).map V.bl) (by simp [hl]) (by omega) ha hD ?_ ?_
    · intro j x y H1 Q' hj hy s1 q
      obtain ⟨r, t, hr1, rfl, hrt⟩ := hx j x hj
      have ey : y = .bl (decide (ws.getD r.1 0 &&& r.2.1 = r.2.2)) := by
        rw [List.getElem?_map, List.getElem?_map, hr1] at hy
        exact (Option.some.inj hy).symm
      subst ey
      have hir := hi r (List.mem_of_getElem? hr1)
      refine ⟨t, _, rfl, SqT.of (s1 _ _ hrt), rfl, _, _, rfl, _, _, rfl, _, _, rfl, rfl, rfl, ?_⟩
      refine ⟨_, rfl, _, rfl, _, _, _, _, rfl, rfl, SqT.of (s1 _ _ hb), atC r.1 rfl (getVN (by omega)), ?_⟩
      walk_at "run"
      show Q' (V.bl (decide (V.int (Builtin.bitAnd (ws.getD r.1 0 : Nat) (r.2.1 : Nat)) = V.int (r.2.2 : Nat)))) H1
      rw [bitAnd_nat, dec_nat]
      exact q H1 (Same.refl _)
    · intro H1 s1 d1
      refine ⟨_, _, rfl, SqL.of d1, ?_⟩
      have e : passB rows ws = (rows.map fun r => decide (ws.getD r.1 0 &&& r.2.1 = r.2.2)).all id := by
        show rows.all _ = _
        simp
      rw [e] at k
      exact k H1 s1
abbrev s_told : Stmt := topS 29
abbrev ns_told : List Str := ["words", "start", "many"]
theorem sc_told : FnScope ns_told ["words", "start", "many"] (defScope s_told) := ⟨rfl, rfl, rfl, by decide +kernel, rfl, by decide +kernel, by decide +kernel⟩

theorem ok_told {f : Addr} {fd : FuncData} (F : Fun K "_told" "_told" s_told f fd) (T : Txt K mg C_Types C_NotValid) : FnOk P w K mg base CX0 1 f fd ["words", "start", "many"] spTold := by
  refine F.ok sc_told (fun vs H Q E h => ?_) (fun cdv A outer s H vs Q E hr h => ?_)
  · obtain ⟨vw, vm, ws, s, m, rfl, _⟩ := h
    rfl
  · obtain ⟨vw, vm, ws, s, m, rfl, hw, h8, hs, hm, hi, k⟩ := h
    obtain ⟨b, rfl, hb⟩ := pD_open hw
    refine ⟨_, (pss_cons (ps_if (pt_val (pe_callB (kIsi K) (by rfl) T.b_isinstance (by decide +kernel) (pa_cons (pv 2) (pa_cons (pe_bltn (v := .ty "tuple") (by rfl) T.b_tuple (by decide +kernel) rfl) pa_nil)))) (pss_one (ps_ret (pe_slice (kSlT K) (pv 0) (po_some (pv 1)) (po_some (pe_op op_add (pv 1) (pe_ix (kIxT K) (pv 0) (pe_ix (kIxT K) (pv 2) pe_int (fun _ _ => rfl)) (fun _ _ => rfl))))))) pss_nil)
  (pss_one (ps_ret (pe_slice (kSlT K) (pv 0) (po_some (pv 1)) (po_some (pe_op op_add (pv 1) (pv 2))))))), ?_⟩
    refine ⟨_, rfl, _, _, _, _, _, rfl, .ty _, hm.ty, kit_ty (kitTup (mnD m)), _, rfl, ?_⟩
    have cut : ∀ (n : Nat), (∀ v H', Same H H' → Dt H' v (pD (told ws s n)) → Q v H') → ∃ a xs, V.ref b = .ref a ∧ SqT K H a xs ∧
        (HT.sIx xs.length 0 (some (s : Int)) = 0 ∧ HT.sIx xs.length xs.length (some ((s : Int) + (n : Int))) = xs.length → Q (.ref a) H) ∧ (¬ (HT.sIx xs.length 0 (some (s : Int)) = 0 ∧ HT.sIx xs.length xs.length (some ((s : Int) + (n : Int))) = xs.length) → ∀ p, H p = none → Q (.ref p) (upd H p (.tup (cutV xs (some (s : Int)) (some ((s : Int) + (n : Int))))))) := by
      intro n k
      refine ⟨b, _, rfl, SqT.of hb, fun e => ?_, fun _ p hp => ?_⟩
      · refine k _ H (Same.refl H) ?_
        have e1 := e.1
        have e2 := e.2
        rw [HT.sIx_nat] at e1
        rw [show ((s : Int) + (n : Int)) = ((s + n : Nat) : Int) by omega, HT.sIx_nat] at e2
        rw [List.length_map] at e1 e2
        have q : told ws s n = ws := by
          unfold told
          rw [show s = 0 by omega, List.drop_zero, List.take_of_length_le (by omega)]
        rw [q]
        exact pD_mk hb
      · refine k _ _ (Same.new hp) (pD_mk ?_)
        rw [cut_told (by omega)]
        exact upd_same
    cases m with
    | inl n =>
      cases hm
      refine iteF ?_
      walk_at "run"
      exact cut n k
    | inr i =>
      have hi' := hi i rfl
      cases hm with
      | tup ht hts =>
        cases hts with
        | cons c1 hts => cases hts with
          | cons c2 hts =>
            cases hts; cases c1; cases c2
            refine iteT ?_
            walk_at "run"
            refine ⟨_, _, _, _, rfl, rfl, SqT.of hb, atC i rfl (getVN (by omega)), ?_⟩
            walk_at "run"
            exact cut (ws.getD i 0) k
abbrev s_can_be_owned : Stmt := topS 30
abbrev ns_can_be_owned : List Str := ["block", "blocks"]
theorem sc_can_be_owned : FnScope ns_can_be_owned ["block", "blocks"] (defScope s_can_be_owned) := ⟨rfl, rfl, rfl, by decide +kernel, rfl, by decide +kernel, by decide +kernel⟩

theorem ok_can_be_owned {f : Addr} {fd : FuncData} (F : Fun K "_can_be_owned" "_can_be_owned" s_can_be_owned f fd) (T : Txt K mg C_Types C_NotValid) : FnOk P w K mg base CX0 1 f fd ["block", "blocks"] spCan := by
  refine F.ok sc_can_be_owned (fun vs H Q E h => ?_) (fun cdv A outer s H vs Q E hr h => ?_)
  · obtain ⟨b, B, rfl, _⟩ := h
    rfl
  · obtain ⟨b, B, rfl, k⟩ := h
    refine ⟨_, (pss_one (ps_ret (pe_chain op_le op_lt (pe_gint (by rfl) T.c_ROOT_BLOCKS) (pv 0) (pv 1)))), ?_⟩
    walk_at "run"
    refine iteD (fun h1 => ?_) (fun h1 => ?_)
    · walk_at "run"
      have e : (decide (4 ≤ b) && decide (b < B)) = decide ((b : Int) < (B : Int)) := by
        rw [decide_eq_true (by omega : 4 ≤ b), Bool.true_and]
        by_cases q : b < B
        · rw [decide_eq_true q, decide_eq_true (by omega)]
        · rw [decide_eq_false q, decide_eq_false (by omega)]
      rw [e] at k
      exact k
    · rw [decide_eq_false (by omega : ¬ 4 ≤ b), Bool.false_and] at k
      exact k
end
end My

namespace My
open PySem L2
local macro_rules | `(tactic| walk_at "ne") => `(tactic| first | assumption | exact Ne.symm (by assumption) | exact ne_of_none (by assumption) (by assumption) | exact Ne.symm (ne_of_none (by assumption) (by assumption)))
local macro_rules | `(tactic| walk_at "hp") => `(tactic| first | assumption | with_reducible exact upd_same | (with_reducible refine Eq.trans (upd_ne ?_) ?_; rotate_left; walk_at "hp"; walk_at "ne"))
local macro_rules | `(tactic| walk_at "cnd") => `(tactic| first | omega | (show (0 : Int) < _; omega) | exact ⟨by omega, by omega⟩ | exact Or.inl ⟨by omega, by omega⟩ | exact Or.inr ⟨by omega, by omega⟩ | exact ⟨by omega, by omega, by decide⟩ | exact ⟨by omega, by omega, by omega⟩)
local macro_rules | `(tactic| walk_at "at") => `(tactic| first | exact atC 0 rfl rfl | exact atC 1 rfl rfl | exact atC 2 rfl rfl | exact atC 3 rfl rfl | exact atC 4 rfl rfl | exact atC 5 rfl rfl | exact atC 6 rfl rfl | exact atC 7 rfl rfl)
local macro_rules | `(tactic| walk_at "ix") => `(tactic| first | exact ixC 0 rfl (Nat.le_of_ble_eq_true rfl) | exact ixC 1 rfl (Nat.le_of_ble_eq_true rfl) | exact ixC 2 rfl (Nat.le_of_ble_eq_true rfl) | exact ixC 3 rfl (Nat.le_of_ble_eq_true rfl) | exact ixC 4 rfl (Nat.le_of_ble_eq_true rfl) | exact ixC 5 rfl (Nat.le_of_ble_eq_true rfl))
local macro_rules | `(tactic| walk_at "st") => `(tactic| first
  | refine ⟨_, rfl, ?_⟩
  | refine ⟨_, _, rfl, rfl, (by walk_at "cnd" : (_ : Prop)), ?_⟩
  | refine ⟨_, _, rfl, rfl, ?_⟩
  | refine ⟨rfl, ?_⟩
  | refine Or.inl ⟨_, rfl, ?_⟩
  | refine ⟨_, _, _, _, rfl, rfl, by exact SqL.of (by walk_at "hp"), by walk_at "at", ?_⟩
  | refine ⟨_, _, _, _, rfl, rfl, by exact SqT.of (by walk_at "hp"), by walk_at "at", ?_⟩
  | refine ⟨_, _, _, _, rfl, rfl, by walk_at "hp", by walk_at "ix", ?_⟩
  | refine ⟨_, _, rfl, Or.inl (by exact SqL.of (by walk_at "hp")), ?_⟩
  | refine ⟨_, _, rfl, Or.inr (by exact SqT.of (by walk_at "hp")), ?_⟩)
local macro_rules | `(tactic| walk_at "so") => `(tactic| first
  | refine ⟨_, _, _, _, _, rfl, by walk_at "hp", by assumption, by assumption, rfl, ?_⟩
  | refine ⟨_, _, _, _, rfl, by walk_at "hp", by assumption, by assumption, Nat.le_of_ble_eq_true rfl, ?_⟩
  | refine ⟨_, _, _, rfl, by walk_at "hp", rfl, ?_⟩
  | walk_at "st")
local macro_rules | `(tactic| walk_at "ro") => `(tactic| repeat walk_at "so")
local macro_rules | `(tactic| walk_at "run") => `(tactic| repeat walk_at "st")

theorem snoc_o {H : Hp} {D q : Addr} {acc : List V} {ds : List PyData} {a b : Int} (hd : DtAll H acc ds) (t : tonlyAll ds = true) (hD : H D = some (.lst acc)) (hq : H q = none) :
    DtAll (upd (upd H q (.tup [.int a, .int b])) D (.lst (acc ++ [.ref q]))) (acc ++ [.ref q]) (ds ++ [.tuple [.int a, .int b]]) := by
  have hDq : q ≠ D := (ne_of_none hD hq).symm
  have e1 : upd H q (.tup [.int a, .int b]) D = some (.lst acc) := by rw [upd_ne hDq.symm]; exact hD
  have s2 : TS (upd H q (.tup [.int a, .int b])) (upd (upd H q (.tup [.int a, .int b])) D (.lst (acc ++ [.ref q]))) := Chg.upd.ts e1
  refine .append ((hd.same (Same.new hq)).ts s2 t) (.cons (.tup (by rw [upd_ne hDq]; exact upd_same) (.cons (.int a) (.cons (.int b) .nil))) .nil)
theorem nz_snoc {xs : List Nat} {i n : Nat} (h : xs[i]? = some n) : nz (xs.take (i + 1)) = nz (xs.take i) ++ (if n = 0 then [] else [n]) := by
  unfold nz
  rw [← take_snoc h, List.filter_append]
  congr 1
  by_cases q : n = 0
  · rw [if_pos q]; simp [q]
  · rw [if_neg q]; simp [q]
theorem flat_snoc {ws : List Nat} {own : Nat} {cs : List Cl} {i : Nat} {c : Cl} (h : cs[i]? = some c) : ownedAll ws own (cs.take (i + 1)) = ownedAll ws own (cs.take i) ++ owned ws own c := by
  unfold ownedAll
  rw [← take_snoc h, List.flatMap_append]
  simp
section
variable {P : Program} {w : World} {K : PySem.W.Frag} {mg : Str → Option Value} {base : Heap}
abbrev s_run_program : Stmt := topS 27
abbrev ns_run_program : List Str := ["program", "words", "blocks", "own", "owned", "guards", "start", "many", "kind", "number", "word", "numbers", "row"]
theorem sc_run_program : FnScope ns_run_program ["program", "words", "blocks", "own"] (defScope s_run_program) := ⟨rfl, rfl, rfl, by decide +kernel, rfl, by decide +kernel, by decide +kernel⟩

theorem ok_run_program {f : Addr} {fd : FuncData} (F : Fun K "run_program" "run_program" s_run_program f fd) (T : Txt K mg C_Types C_NotValid) (D_let_pass : Dfn P w K mg base CX0 1 "_let_pass" ["guards", "words"] spPass) (D_told : Dfn P w K mg base CX0 1 "_told" ["words", "start", "many"] spTold) (D_can_be_owned : Dfn P w K mg base CX0 1 "_can_be_owned" ["block", "blocks"] spCan) : FnOk P w K mg base CX0 2 f fd ["program", "words", "blocks", "own"] spRun := by
  refine F.ok sc_run_program (fun vs H Q E h => ?_) (fun cdv A outer s H vs Q E hr h => ?_)
  · obtain ⟨vp, vw, cs, ws, B, own, rfl, _⟩ := h
    rfl
  · obtain ⟨vp, vw, cs, ws, B, own, rfl, hp, hw, h8, hc8, hok, k⟩ := h
    obtain ⟨b, rfl, hb⟩ := pD_open hw
    cases hp with
    | @tup a xs ds ha hs =>
      have hlen := hs.len
      rw [List.length_map] at hlen
      refine ⟨_, (pss_cons (ps_set (i := 4) sc_run_program.nd rfl (Or.inl rfl) (pe_lst pa_nil))
  (pss_cons (ps_for PassesOwn.never (by rfl) (kpiT K (pv 0)) (kpgT K (n := 4) (by rfl) (pgs_cons (pg_name (i := 5) sc_run_program.nd rfl (Or.inl rfl)) (pgs_cons (pg_name (i := 6) sc_run_program.nd rfl (Or.inl rfl)) (pgs_cons (pg_name (i := 7) sc_run_program.nd rfl (Or.inl rfl)) (pgs_cons (pg_name (i := 8) sc_run_program.nd rfl (Or.inl rfl)) pgs_nil))))) (pss_one (ps_if (pt_val (pe_dcall D_let_pass (hr.mono (by decide)) (by rfl) pass0 (pa_cons (pv 5) (pa_cons (pv 1) pa_nil)))) (C8.pss_cut (ps_set (i := 9) sc_run_program.nd rfl (Or.inr rfl) (pe_ifExp (pt_cmpR op_eq (pv 8) pe_str (nomark _)) (pv 3) (pv 8)))
  (pss_one (ps_expr (kBM K PySem.F.plainAttrs_list PySem.F.slot_list_extend PySem.F.type_list_extend mt_extend (pv 4) (pa_cons (pe_lc (own := [("word", 10)]) (by rfl) sc_run_program.nd (kpiT K (pe_dcall D_told (hr.mono (by decide)) (by rfl) pass0 (pa_cons (pv 1) (pa_cons (pv 6) (pa_cons (pv 7) pa_nil))))) (blkOk_by (N := ns_run_program) (sc := defScope s_run_program) (by decide +kernel)) (fun _ _ _ _ _ => (pg_name (i := 10) sc_run_program.nd rfl (Or.inl rfl))) (fun _ _ _ _ _ => (pts_one (pt_cmpR op_ne (pv 10) pe_int (nomark _)))) (fun _ _ _ _ _ => (pe_tup (pa_cons (pv 10) (pa_cons (pv 9) pa_nil))))) pa_nil))))) pss_nil)))
  (pss_cons (ps_setLc (i := 11) (own := [("row", 12)]) (by rfl) sc_run_program.nd rfl rfl (sw_true rfl rfl rfl (by decide +kernel)) (kpiL K (pv 4)) (blkOk_by (N := ns_run_program) (sc := defScope s_run_program) (by decide +kernel)) (fun _ _ _ _ _ => (pg_name (i := 12) sc_run_program.nd rfl (Or.inl rfl))) (fun _ _ _ _ _ => pts_nil) (fun _ _ _ _ _ => (pe_ix (kIxT K) (pv 12) pe_int (fun _ _ => rfl))))
  (pss_cons (ps_if (PW.pt (pw_or (pt_not (pt_val (pe_callB (kAll K rfl) (by rfl) T.b_all (by decide +kernel) (pa_cons (pe_lc (own := [("number", 9)]) (by rfl) sc_run_program.nd (kpiL K (pv 11)) (blkOk_by (N := ns_run_program) (sc := defScope s_run_program) (by decide +kernel)) (fun _ _ _ _ _ => (pg_name (i := 9) sc_run_program.nd rfl (Or.inl rfl))) (fun _ _ _ _ _ => pts_nil) (fun _ _ _ _ _ => (pe_dcall D_can_be_owned (hr.mono (by decide)) (by rfl) pass0 (pa_cons (pv 9) (pa_cons (pv 2) pa_nil))))) pa_nil)))) (pw_or1 (pt_cmpR op_lt (pe_lenSetG (by rfl) T.b_len (by rfl) T.b_set (pv 11)) (pe_callB (kLen K) (by rfl) T.b_len (by decide +kernel) (pa_cons (pv 11) pa_nil)) (nomark _))))) (pss_one (ps_ret pe_non)) pss_nil)
  (pss_one (ps_ret (pe_callTy (kTupOf K) (by rfl) T.b_tuple (by decide +kernel) (pa_cons (pv 4) pa_nil)))))))), ?_⟩
      refine ⟨szl rfl, fun L hL => ?_⟩
      have s0 : Same H (upd H L (.lst [])) := Same.new hL
      refine ⟨_, rfl, _, rfl, ⟨_, SqT.of (s0 _ _ ha)⟩, for_tup (xs := xs) (fun i σ H1 => ∃ (o5 o6 o7 o8 o9 : Option V) (acc : List V), σ = [some (.ref a), some (.ref b), some (.int B), some (.int own), some (.ref L), o5, o6, o7, o8, o9, none, none, none] ∧ H1 L = some (.lst acc) ∧ DtAll H1 acc ((ownedAll ws own (cs.take i)).map oD) ∧ Same H H1) ?_ ?_ ?_ ?_⟩
      · exact ⟨_, _, _, _, _, _, rfl, upd_same, .nil, s0⟩
      · rintro i σ H1 _ ⟨_, _, _, _, _, _, _, _, _, s1⟩
        exact SqT.of (s1 _ _ ha)
      · rintro i x σ H1 hx ⟨o5, o6, o7, o8, o9, acc, rfl, hacc, hda, s1⟩
        obtain ⟨c, hc, hcD⟩ := get_cl hs hx
        obtain ⟨t, g, vm, vk, rfl, ht, hg, hm, hk⟩ := cl_open (hcD.same s1)
        have cok := hok c (List.mem_of_getElem? hc)
        refine ⟨t, _, rfl, SqT.of ht, rfl, _, _, rfl, _, _, rfl, _, _, rfl, _, _, rfl, rfl, ?_⟩
        walk_at "run"
        refine ⟨_, _, c.1, ws, rfl, hg, hw.same s1, h8, fun r hr => (cok.gr r hr).1, by have := cok.g4; omega, fun H2 s2 => ⟨_, rfl, ?_⟩⟩
        have s02 := s1.trans s2
        refine iteB (fun ep => ?_) (fun ep => ?_)
        · -- number = own if kind == "own" else kind
          have e0 : owned ws own c = (nz (told ws c.2.1 (manyN ws c.2.2.1))).map fun x => (x, ownN own c.2.2.2) := by unfold owned; rw [if_pos ep]
          refine ⟨fun σ H' => σ = [some (.ref a), some (.ref b), some (.int B), some (.int own), some (.ref L), some (.ref g), some (.int (c.2.1 : Int)), some vm, some vk, some (.int (ownN own c.2.2.2 : Nat)), none, none, none] ∧ H' = H2, ?_, ?_⟩
          · cases e : c.2.2.2 with
            | none =>
              rw [e] at hk
              cases hk
              walk_at "run"
              first | exact iteT ⟨_, rfl, rfl, rfl⟩ | exact ⟨rfl, rfl⟩ | exact rfl
            | some n =>
              rw [e] at hk
              cases hk
              walk_at "run"
              first | exact ⟨rfl, rfl⟩ | exact rfl
          · rintro σ H' ⟨rfl, rfl⟩
            generalize ownN own c.2.2.2 = num at e0
            walk_at "run"
            refine ⟨.inl ⟨rfl, _, SqL.of (s2 _ _ hacc)⟩, ?_⟩
            walk_at "run"
            refine ⟨_, vm, ws, c.2.1, c.2.2.1, rfl, hw.same s02, h8, cok.st, hm.same s2, cok.m2, fun v H3 s3 hv => ?_⟩
            obtain ⟨tb, rfl, htb⟩ := pD_open hv
            have htl : (told ws c.2.1 (manyN ws c.2.2.1)).length ≤ 8 := by unfold told; rw [List.length_take, List.length_drop]; omega
            generalize told ws c.2.1 (manyN ws c.2.2.1) = tl at htb e0 hv htl
            refine ⟨tb, rfl, ⟨_, SqT.of htb⟩, fun D hD => ?_⟩
            refine lc_tup (K := K) (xs := tl.map vN) (fun j H4 => ∃ ac, H4 D = some (.lst ac) ∧ DtAll H4 ac (((nz (tl.take j)).map fun x => (x, num)).map oD) ∧ ac.length ≤ j ∧ Same H3 H4) ⟨_, upd_same, .nil, Nat.le_refl _, Same.new hD⟩ (fun j H4 _ h => by obtain ⟨_, _, _, _, h⟩ := h; exact SqT.of (h _ _ htb)) ?_ ?_
            · rintro j x H4 hx ⟨ac, hac, hda4, hl4, s4⟩
              obtain ⟨n, hn, rfl⟩ : ∃ n, tl[j]? = some n ∧ x = vN n := by
                rw [List.getElem?_map] at hx
                cases e : tl[j]? with
                | none => rw [e] at hx; cases hx
                | some n => rw [e] at hx; exact ⟨n, rfl, (Option.some.inj hx).symm⟩
              have hj : j < tl.length := (List.getElem?_eq_some_iff.mp hn).1
              refine ⟨rfl, ?_⟩
              walk_at "run"
              refine iteDn (fun hne => ?_) (fun heq => ?_)
              · have n0 : ¬ n = 0 := fun q => hne (by rw [q]; rfl)
                walk_at "run"
                refine ⟨szl rfl, fun q hq => ?_⟩
                have nDq : D ≠ q := ne_of_none hac hq
                refine ⟨_, Eq.trans (upd_ne nDq) hac, szt (by omega), ac ++ [.ref q], upd_same, ?_, by rw [List.length_append]; show _ + 1 ≤ _; omega, Same.mut (s4.trans (Same.new hq)) hD⟩
                rw [nz_snoc hn, if_neg n0, List.map_append, List.map_append]
                exact snoc_o hda4 (os_tonly _) hac hq
              · have n0 : n = 0 := by
                  have q : ((n : Nat) : Int) = 0 := by injection heq
                  omega
                refine ⟨ac, hac, ?_, by omega, s4⟩
                rw [nz_snoc hn, if_pos n0, List.append_nil]
                exact hda4
            · rintro H4 ⟨ac, hac, hda4, hl4, s4⟩
              rw [List.length_map] at hl4 hda4
              rw [List.take_length] at hda4
              have hacc4 := s4 _ _ (s3 _ _ (s2 _ _ hacc))
              have hal : acc.length ≤ 64 := by
                rw [hda.len, List.length_map]
                have q1 := ownedAll_len (own := own) h8 (cs.take i)
                have q2 : (cs.take i).length ≤ 8 := by rw [List.length_take]; omega
                omega
              refine ⟨_, _, _, _, rfl, rfl, hacc4, hac, szn (by omega), ?_⟩
              refine ⟨_, _, _, _, _, acc ++ ac, rfl, upd_same, ?_, Same.mut ((s02.trans s3).trans s4) hL⟩
              rw [flat_snoc hc, e0, List.map_append]
              refine ((((hda.same s2).same s3).same s4).append hda4).ts (Chg.upd.ts hacc4) ?_
              rw [← List.map_append]
              exact os_tonly _
        · have e0 : owned ws own c = [] := by unfold owned; rw [ep]; rfl
          refine ⟨_, _, _, _, _, acc, rfl, s2 _ _ hacc, ?_, s02⟩
          rw [flat_snoc hc, e0, List.append_nil]
          exact hda.same s2
      · rintro σ H1 ⟨o5, o6, o7, o8, o9, acc, rfl, hacc, hda, s1⟩
        rw [hlen, List.take_length] at hda
        have ol : (ownedAll ws own cs).length ≤ 64 := by
          have q1 := ownedAll_len (own := own) h8 cs
          omega
        have ke : runD cs ws B own = if fits B (ownedAll ws own cs) = true then .tuple ((ownedAll ws own cs).map oD) else .none := rfl
        rw [ke] at k
        generalize ownedAll ws own cs = os at hda ol k
        have al : acc.length = os.length := by rw [hda.len, List.length_map]
        refine ⟨_, rfl, _, rfl, ⟨_, SqL.of hacc⟩, fun D hD => ?_⟩
        refine lcL (xs := acc) ((os.map (·.1)).map vN) (by simp [al]) (by omega) hacc hD ?_ ?_
        · intro j x y H2 Q' hx hy s2 q
          obtain ⟨d, hd1, hd2⟩ := hda.getV hx
          have hj : j < os.length := by rw [← al]; exact (List.getElem?_eq_some_iff.mp hx).1
          rw [List.getElem?_map, List.getElem?_eq_getElem hj] at hd1
          have ed : d = oD os[j] := (Option.some.inj hd1).symm
          subst ed
          have ey : y = .int (os[j].1 : Int) := by
            rw [List.getElem?_map, List.getElem?_map, List.getElem?_eq_getElem hj] at hy
            exact (Option.some.inj hy).symm
          subst ey
          unfold oD at hd2
          cases hd2 with
          | tup hq hqs =>
            cases hqs with
            | cons c1 hqs => cases hqs with
              | cons c2 hqs =>
                cases hqs; cases c1; cases c2
                refine ⟨rfl, ?_⟩
                walk_at "run"
                exact ⟨_, _, _, _, rfl, rfl, SqT.of (s2 _ _ hq), atC 0 rfl rfl, q H2 (Same.refl _)⟩
        · intro H2 s2 d2
          walk_at "run"
          refine ⟨⟨_, SqL.of d2⟩, fun D2 hD2 => ?_⟩
          have nl : (os.map (·.1)).length = os.length := by rw [List.length_map]
          refine lcL (xs := (os.map (·.1)).map vN) ((os.map fun o => decide (4 ≤ o.1) && decide (o.1 < B)).map V.bl) (by simp) (by simp; omega) d2 hD2 ?_ ?_
          · intro j x y H3 Q' hx hy s3 q
            have hj : j < os.length := by
              have := (List.getElem?_eq_some_iff.mp hx).1
              simpa using this
            have ex : x = .int (os[j].1 : Int) := by
              rw [List.getElem?_map, List.getElem?_map, List.getElem?_eq_getElem hj] at hx
              exact (Option.some.inj hx).symm
            have ey : y = .bl (decide (4 ≤ os[j].1) && decide (os[j].1 < B)) := by
              rw [List.getElem?_map, List.getElem?_map, List.getElem?_eq_getElem hj] at hy
              exact (Option.some.inj hy).symm
            subst ex ey
            refine ⟨rfl, ?_⟩
            walk_at "run"
            exact ⟨_, _, rfl, q H3 (Same.refl _)⟩
          · intro H3 s3 d3
            refine ⟨_, _, rfl, SqL.of d3, _, rfl, ?_⟩
            have ea : ((os.map fun o => decide (4 ≤ o.1) && decide (o.1 < B)).all id) = os.all fun o => decide (4 ≤ o.1) && decide (o.1 < B) := by rw [List.all_map]; rfl
            rw [ea]
            have s03 := (s1.trans s2).trans s3
            cases e1 : (os.all fun o => decide (4 ≤ o.1) && decide (o.1 < B)) with
            | false =>
              have ef : fits B os = false := by unfold fits; rw [e1, Bool.false_and]
              rw [ef] at k
              exact iteT (k _ _ s03 .non)
            | true =>
              refine iteF ?_
              walk_at "run"
              have ev : (os.map (·.1)).map vN = (os.map fun o => (o.1 : Int)).map V.int := by rw [List.map_map, List.map_map]; rfl
              have d23 : H3 D = some (.lst ((os.map fun o => (o.1 : Int)).map V.int)) := by rw [s3 _ _ d2, ev]
              have hacc3 := s3 _ _ (s2 _ _ hacc)
              refine ⟨D, os.map fun o => (o.1 : Int), rfl, SqL.of d23, by rw [List.length_map]; omega, ?_⟩
              walk_at "run"
              have en : decide (os.map fun o => (o.1 : Int)).Nodup = decide (os.map (·.1)).Nodup := by
                congr 1
                unfold List.Nodup
                rw [List.pairwise_map, List.pairwise_map]
                exact propext ⟨fun h => h.imp fun q e => q (by rw [e]), fun h => h.imp fun q e => q (Int.ofNat.inj e)⟩
              rw [List.length_map, dist_iff, en]
              cases e2 : decide (os.map (·.1)).Nodup with
              | false =>
                have ef : fits B os = false := by unfold fits; rw [e1, e2]; rfl
                rw [ef] at k
                exact iteT (k _ _ s03 .non)
              | true =>
                have ef : fits B os = true := by unfold fits; rw [e1, e2]; rfl
                rw [ef] at k
                refine iteF ?_
                refine ⟨_, rfl, _, _, rfl, .inl ⟨SqL.of hacc3, fun p hp => ?_⟩⟩
                exact k _ _ (s03.trans (Same.new hp)) (Dt.new ((hda.same s2).same s3) hp)
end
end My

namespace My
open PySem L2
local macro_rules | `(tactic| walk_at "ne") => `(tactic| first | assumption | exact Ne.symm (by assumption) | exact ne_of_none (by assumption) (by assumption) | exact Ne.symm (ne_of_none (by assumption) (by assumption)))
local macro_rules | `(tactic| walk_at "hp") => `(tactic| first | assumption | with_reducible exact upd_same | (with_reducible refine Eq.trans (upd_ne ?_) ?_; rotate_left; walk_at "hp"; walk_at "ne"))
local macro_rules | `(tactic| walk_at "cnd") => `(tactic| first | omega | (show (0 : Int) < _; omega) | exact ⟨by omega, by omega⟩ | exact Or.inl ⟨by omega, by omega⟩ | exact Or.inr ⟨by omega, by omega⟩ | exact ⟨by omega, by omega, by decide⟩ | exact ⟨by omega, by omega, by omega⟩)
local macro_rules | `(tactic| walk_at "at") => `(tactic| first | exact atC 0 rfl rfl | exact atC 1 rfl rfl | exact atC 2 rfl rfl | exact atC 3 rfl rfl | exact atC 4 rfl rfl | exact atC 5 rfl rfl | exact atC 6 rfl rfl | exact atC 7 rfl rfl)
local macro_rules | `(tactic| walk_at "ix") => `(tactic| first | exact ixC 0 rfl (Nat.le_of_ble_eq_true rfl) | exact ixC 1 rfl (Nat.le_of_ble_eq_true rfl) | exact ixC 2 rfl (Nat.le_of_ble_eq_true rfl) | exact ixC 3 rfl (Nat.le_of_ble_eq_true rfl) | exact ixC 4 rfl (Nat.le_of_ble_eq_true rfl) | exact ixC 5 rfl (Nat.le_of_ble_eq_true rfl))
local macro_rules | `(tactic| walk_at "st") => `(tactic| first
  | refine ⟨_, rfl, ?_⟩
  | refine ⟨_, _, rfl, rfl, (by walk_at "cnd" : (_ : Prop)), ?_⟩
  | refine ⟨_, _, rfl, rfl, ?_⟩
  | refine ⟨rfl, ?_⟩
  | refine Or.inl ⟨_, rfl, ?_⟩
  | refine ⟨_, _, _, _, rfl, rfl, by exact SqL.of (by walk_at "hp"), by walk_at "at", ?_⟩
  | refine ⟨_, _, _, _, rfl, rfl, by exact SqT.of (by walk_at "hp"), by walk_at "at", ?_⟩
  | refine ⟨_, _, _, _, rfl, rfl, by walk_at "hp", by walk_at "ix", ?_⟩
  | refine ⟨_, _, rfl, Or.inl (by exact SqL.of (by walk_at "hp")), ?_⟩
  | refine ⟨_, _, rfl, Or.inr (by exact SqT.of (by walk_at "hp")), ?_⟩)
local macro_rules | `(tactic| walk_at "so") => `(tactic| first
  | refine ⟨_, _, _, _, _, rfl, by walk_at "hp", by assumption, by assumption, rfl, ?_⟩
  | refine ⟨_, _, _, _, rfl, by walk_at "hp", by assumption, by assumption, Nat.le_of_ble_eq_true rfl, ?_⟩
  | refine ⟨_, _, _, rfl, by walk_at "hp", rfl, ?_⟩
  | walk_at "st")
local macro_rules | `(tactic| walk_at "ro") => `(tactic| repeat walk_at "so")
local macro_rules | `(tactic| walk_at "run") => `(tactic| repeat walk_at "st")

theorem pass_snoc {rows : List Row3} {ws : List Nat} {j : Nat} {r : Row3} (h : rows[j]? = some r) : passB (rows.take (j + 1)) ws = (passB (rows.take j) ws && decide (ws.getD r.1 0 &&& r.2.1 = r.2.2)) := by
  unfold passB
  rw [← take_snoc h, List.all_append]
  simp
theorem inV_nat (n : Nat) : ∀ ns : List Nat, inV (.int (n : Int)) (ns.map vN) = decide (n ∈ ns)
  | [] => by simp [inV]
  | m :: ns => by
    have ih := inV_nat n ns
    unfold inV at ih ⊢
    rw [List.map_cons, List.any_cons, ih]
    have e : eqV (vN m) (.int (n : Int)) = decide (m = n) := by
      show ((m : Int) == (n : Int)) = decide (m = n)
      by_cases h : m = n
      · rw [h]; simp
      · rw [decide_eq_false h]; simp; omega
    rw [e]
    by_cases h : m = n <;> by_cases h2 : n ∈ ns <;> simp [h, h2] <;> omega
theorem vN_flat : ∀ ns : List Nat, (ns.map vN).all flatV = true
  | [] => rfl
  | m :: ns => by rw [List.map_cons, List.all_cons, vN_flat ns]; rfl
theorem fits_snoc {B : Nat} {os : List (Nat × Nat)} {j : Nat} (h : j < os.length) : fits B (os.take (j + 1)) = ((fits B (os.take j) && (decide (4 ≤ os[j].1) && decide (os[j].1 < B))) && !decide (os[j].1 ∈ (os.take j).map (·.1))) := by
  unfold fits
  rw [← take_snoc (List.getElem?_eq_getElem h), List.all_append, List.map_append]
  have e : decide ((os.take j).map (·.1) ++ [os[j]].map (·.1)).Nodup = (decide ((os.take j).map (·.1)).Nodup && !decide (os[j].1 ∈ (os.take j).map (·.1))) := by
    by_cases h1 : ((os.take j).map (·.1)).Nodup
    · by_cases h2 : os[j].1 ∈ (os.take j).map (·.1)
      · rw [decide_eq_true h1, decide_eq_true h2, decide_eq_false]; rfl
        intro q
        exact (List.nodup_append.mp q).2.2 _ h2 _ (List.mem_singleton.mpr rfl) rfl
      · rw [decide_eq_true h1, decide_eq_false h2, decide_eq_true]; rfl
        refine List.nodup_append.mpr ⟨h1, by simp, fun x hx y hy e => ?_⟩
        rw [List.map_cons, List.map_nil, List.mem_singleton] at hy
        exact h2 (by rw [← hy, ← e]; exact hx)
    · rw [decide_eq_false h1, decide_eq_false]; rfl
      intro q
      exact h1 (List.nodup_append.mp q).1
  rw [e, List.all_cons, List.all_nil, Bool.and_true]
  cases (os.take j).all fun o => decide (4 ≤ o.1) && decide (o.1 < B) <;> cases (decide (4 ≤ os[j].1) && decide (os[j].1 < B)) <;> cases decide ((os.take j).map (·.1)).Nodup <;> cases decide (os[j].1 ∈ (os.take j).map (·.1)) <;> rfl
theorem fits_bad {B : Nat} {os : List (Nat × Nat)} {j : Nat} (h : fits B (os.take j) = false) : fits B os = false := by
  cases e : fits B os with
  | false => rfl
  | true =>
    unfold fits at e h
    rw [Bool.and_eq_true, decide_eq_true_eq] at e
    have a1 : ((os.take j).all fun o => decide (4 ≤ o.1) && decide (o.1 < B)) = true := List.all_eq_true.mpr fun x hx => List.all_eq_true.mp e.1 x (List.mem_of_mem_take hx)
    have a2 : ((os.take j).map (·.1)).Nodup := e.2.sublist ((List.take_sublist j os).map _)
    rw [a1, decide_eq_true a2] at h
    exact h
section
variable {P : Program} {w : World} {K : PySem.W.Frag} {mg : Str → Option Value} {base : Heap}
abbrev s_law_run : Stmt := topS 35
abbrev ns_law_run : List Str := ["program", "words", "blocks", "own", "found", "guards", "start", "many", "kind", "good", "index", "mask", "value", "numbers", "row", "k"]
theorem sc_law_run : FnScope ns_law_run ["program", "words", "blocks", "own"] (defScope s_law_run) := ⟨rfl, rfl, rfl, by decide +kernel, rfl, by decide +kernel, by decide +kernel⟩

theorem ok_law_run {f : Addr} {fd : FuncData} (F : Fun K "_law_run" "_law_run" s_law_run f fd) (T : Txt K mg C_Types C_NotValid) : FnOk P w K mg base CX0 1 f fd ["program", "words", "blocks", "own"] spRun := by
  refine F.ok sc_law_run (fun vs H Q E h => ?_) (fun cdv A outer s H vs Q E hr h => ?_)
  · obtain ⟨vp, vw, cs, ws, B, own, rfl, _⟩ := h
    rfl
  · obtain ⟨vp, vw, cs, ws, B, own, rfl, hp, hw, h8, hc8, hok, k⟩ := h
    obtain ⟨b, rfl, hb⟩ := pD_open hw
    cases hp with
    | @tup a xs ds ha hs =>
      have hlen := hs.len
      rw [List.length_map] at hlen
      refine ⟨_, (pss_cons (ps_set (i := 4) sc_law_run.nd rfl (Or.inl rfl) (pe_lst pa_nil))
  (pss_cons (ps_for PassesOwn.never (by rfl) (kpiT K (pv 0)) (kpgT K (n := 4) (by rfl) (pgs_cons (pg_name (i := 5) sc_law_run.nd rfl (Or.inl rfl)) (pgs_cons (pg_name (i := 6) sc_law_run.nd rfl (Or.inl rfl)) (pgs_cons (pg_name (i := 7) sc_law_run.nd rfl (Or.inl rfl)) (pgs_cons (pg_name (i := 8) sc_law_run.nd rfl (Or.inl rfl)) pgs_nil))))) (pss_cons (ps_set (i := 9) sc_law_run.nd rfl (Or.inl rfl) pe_bl)
  (pss_cons (ps_for PassesOwn.never (by rfl) (kpiT K (pv 5)) (kpgT K (n := 3) (by rfl) (pgs_cons (pg_name (i := 10) sc_law_run.nd rfl (Or.inl rfl)) (pgs_cons (pg_name (i := 11) sc_law_run.nd rfl (Or.inl rfl)) (pgs_cons (pg_name (i := 12) sc_law_run.nd rfl (Or.inl rfl)) pgs_nil)))) (pss_one (ps_set (i := 9) sc_law_run.nd rfl (Or.inl rfl) (pe_and (pv 9) (pe_one (pe_cmpR op_eq (pe_op op_and (pe_ix (kIxT K) (pv 1) (pv 10) (fun _ _ => rfl)) (pv 11)) (pv 12) (nomark _)))))))
  (C8.pss_cut (ps_if (pt_not (pt_val (pe_callB (kIsi K) (by rfl) T.b_isinstance (by decide +kernel) (pa_cons (pv 7) (pa_cons (pe_bltn (v := .ty "int") (by rfl) T.b_int (by decide +kernel) rfl) pa_nil))))) (pss_one (ps_set (i := 7) sc_law_run.nd rfl (Or.inl rfl) (pe_ix (kIxT K) (pv 1) (pe_ix (kIxT K) (pv 7) pe_int (fun _ _ => rfl)) (fun _ _ => rfl)))) pss_nil)
  (pss_one (ps_for PassesOwn.never (by rfl) (pi_range2 (by rfl) T.b_range (pa_cons (pv 6) (pa_cons (pe_callB (call_min2 rfl) (by rfl) T.b_min (by decide +kernel) (pa_cons pe_int (pa_cons (pe_op op_add (pv 6) (pv 7)) pa_nil))) pa_nil))) (pg_name (i := 10) sc_law_run.nd rfl (Or.inl rfl)) (pss_one (ps_if (PW.pt (pw_and (pt_truth (pv 9) (by intro _; rfl)) (pw_and1 (pt_cmpR op_ne (pe_ix (kIxT K) (pv 1) (pv 10) (fun _ _ => rfl)) pe_int (nomark _))))) (pss_one (ps_expr (kBM K PySem.F.plainAttrs_list PySem.F.slot_list_append PySem.F.type_list_append mt_append (pv 4) (pa_cons (pe_tup (pa_cons (pe_ix (kIxT K) (pv 1) (pv 10) (fun _ _ => rfl)) (pa_cons (pe_ix (kIxL K) (pe_lst (pa_cons (pv 8) (pa_cons (pv 3) pa_nil))) (pe_callTy call_int1 (by rfl) T.b_int (by decide +kernel) (pa_cons (pe_cmpR op_eq (pv 8) pe_str (nomark _)) pa_nil)) (fun _ _ => rfl)) pa_nil))) pa_nil)))) pss_nil))))))))
  (pss_cons (ps_setLc (i := 13) (own := [("row", 14)]) (by rfl) sc_law_run.nd rfl rfl (sw_true rfl rfl rfl (by decide +kernel)) (kpiL K (pv 4)) (blkOk_by (N := ns_law_run) (sc := defScope s_law_run) (by decide +kernel)) (fun _ _ _ _ _ => (pg_name (i := 14) sc_law_run.nd rfl (Or.inl rfl))) (fun _ _ _ _ _ => pts_nil) (fun _ _ _ _ _ => (pe_ix (kIxT K) (pv 14) pe_int (fun _ _ => rfl))))
  (pss_cons (ps_for PassesOwn.never (by rfl) (pi_range1 (by rfl) T.b_range (pa_cons (pe_callB (kLen K) (by rfl) T.b_len (by decide +kernel) (pa_cons (pv 13) pa_nil)) pa_nil)) (pg_name (i := 15) sc_law_run.nd rfl (Or.inl rfl)) (pss_one (ps_if (PW.pt (pw_or (pt_cmpR op_lt (pe_ix (kIxL K) (pv 13) (pv 15) (fun _ _ => rfl)) pe_int (nomark _)) (pw_or (pt_cmpR op_ge (pe_ix (kIxL K) (pv 13) (pv 15) (fun _ _ => rfl)) (pv 2) (nomark _)) (pw_or1 (pt_cmpR (kIn K) (pe_ix (kIxL K) (pv 13) (pv 15) (fun _ _ => rfl)) (pe_slice (kSlL K) (pv 13) po_none (po_some (pv 15))) (by rfl)))))) (pss_one (ps_ret pe_non)) pss_nil)))
  (pss_one (ps_ret (pe_callTy (kTupOf K) (by rfl) T.b_tuple (by decide +kernel) (pa_cons (pv 4) pa_nil)))))))), ?_⟩
      refine ⟨szl rfl, fun L hL => ?_⟩
      have s0 : Same H (upd H L (.lst [])) := Same.new hL
      refine ⟨_, rfl, _, rfl, ⟨_, SqT.of (s0 _ _ ha)⟩, for_tup (xs := xs) (fun i σ H1 => ∃ (o5 o6 o7 o8 o9 o10 o11 o12 : Option V) (acc : List V), σ = [some (.ref a), some (.ref b), some (.int B), some (.int own), some (.ref L), o5, o6, o7, o8, o9, o10, o11, o12, none, none, none] ∧ H1 L = some (.lst acc) ∧ DtAll H1 acc ((ownedAll ws own (cs.take i)).map oD) ∧ Same H H1) ?_ ?_ ?_ ?_⟩
      · exact ⟨_, _, _, _, _, _, _, _, _, rfl, upd_same, .nil, s0⟩
      · rintro i σ H1 _ ⟨_, _, _, _, _, _, _, _, _, _, _, _, s1⟩
        exact SqT.of (s1 _ _ ha)
      · rintro i x σ H1 hx ⟨o5, o6, o7, o8, o9, o10, o11, o12, acc, rfl, hacc, hda, s1⟩
        obtain ⟨c, hc, hcD⟩ := get_cl hs hx
        obtain ⟨t, g, vm, vk, rfl, ht, hg, hm, hk⟩ := cl_open (hcD.same s1)
        have cok := hok c (List.mem_of_getElem? hc)
        refine ⟨t, _, rfl, SqT.of ht, rfl, _, _, rfl, _, _, rfl, _, _, rfl, _, _, rfl, rfl, ?_⟩
        obtain ⟨g', gxs, eg, hga, hgl, hgx⟩ := fD_open hg
        cases eg
        walk_at "run"
        refine ⟨⟨_, SqT.of hga⟩, for_tup (xs := gxs) (fun j σ H2 => ∃ (o10 o11 o12 : Option V), σ = [some (.ref a), some (.ref b), some (.int B), some (.int own), some (.ref L), some (.ref g), some (.int (c.2.1 : Int)), some vm, some vk, some (.bl (passB (c.1.take j) ws)), o10, o11, o12, none, none, none] ∧ H2 = H1) ?_ ?_ ?_ ?_⟩
        · exact ⟨_, _, _, rfl, rfl⟩
        · rintro j σ H2 _ ⟨_, _, _, _, rfl⟩
          exact SqT.of hga
        · rintro j x σ H2 hj ⟨p10, p11, p12, rfl, rfl⟩
          obtain ⟨r, rt, hr1, rfl, hrt⟩ := hgx j x hj
          have hir := (cok.gr r (List.mem_of_getElem? hr1)).1
          refine ⟨rt, _, rfl, SqT.of hrt, rfl, _, _, rfl, _, _, rfl, _, _, rfl, rfl, ?_⟩
          refine ⟨_, rfl, _, rfl, iteB (fun e => ?_) (fun e => ?_)⟩
          · refine ⟨_, rfl, _, rfl, _, _, _, _, rfl, rfl, SqT.of (s1 _ _ hb), atC r.1 rfl (getVN (by omega)), ?_⟩
            walk_at "run"
            refine ⟨some (.int r.1), some (.int r.2.1), some (.int r.2.2), ?_, rfl⟩
            show _ = [some (V.ref a), some (V.ref b), some (V.int B), some (V.int own), some (V.ref L), some (V.ref g), some (V.int (c.2.1 : Int)), some vm, some vk, some (V.bl (passB (c.1.take (j + 1)) ws)), _, _, _, none, none, none]
            rw [pass_snoc hr1, e, Bool.true_and, ← dec_nat, ← bitAnd_nat]
            rfl
          · refine ⟨some (.int r.1), some (.int r.2.1), some (.int r.2.2), ?_, rfl⟩
            show _ = [some (V.ref a), some (V.ref b), some (V.int B), some (V.int own), some (V.ref L), some (V.ref g), some (V.int (c.2.1 : Int)), some vm, some vk, some (V.bl (passB (c.1.take (j + 1)) ws)), _, _, _, none, none, none]
            rw [pass_snoc hr1, e, Bool.false_and]
            rfl
        · rintro σ H2 ⟨p10, p11, p12, rfl, rfl⟩
          rw [hgl, List.take_length]
          refine ⟨fun σ H' => σ = [some (.ref a), some (.ref b), some (.int B), some (.int own), some (.ref L), some (.ref g), some (.int (c.2.1 : Int)), some (.int (manyN ws c.2.2.1 : Nat)), some vk, some (.bl (passB c.1 ws)), p10, p11, p12, none, none, none] ∧ H' = H2, ?_, ?_⟩
          · refine ⟨_, rfl, _, _, _, _, _, rfl, .ty _, hm.ty, kit_ty (kitInt (mnD c.2.2.1)), _, rfl, ?_⟩
            cases e : c.2.2.1 with
            | inl n =>
              rw [e] at hm
              cases hm
              exact iteF ⟨rfl, rfl⟩
            | inr n =>
              have hi' := cok.m2 n e
              rw [e] at hm
              cases hm with
              | tup qt hts =>
                cases hts with
                | cons c1 hts => cases hts with
                  | cons c2 hts =>
                    cases hts; cases c1; cases c2
                    refine iteT ?_
                    walk_at "run"
                    refine ⟨_, _, _, _, rfl, rfl, SqT.of (s1 _ _ hb), atC n rfl (getVN (by omega)), ?_⟩
                    exact ⟨rfl, rfl⟩
          · rintro σ H' ⟨rfl, rfl⟩
            have hvk : (vk = .str "own" ∧ ownN own c.2.2.2 = own) ∨ ∃ n : Nat, vk = .int n ∧ ownN own c.2.2.2 = n := by
              cases e : c.2.2.2 with
              | none => rw [e] at hk; cases hk; exact .inl ⟨rfl, rfl⟩
              | some n => rw [e] at hk; cases hk; exact .inr ⟨n, rfl, rfl⟩
            have e0 : owned ws own c = if passB c.1 ws = true then (nz (told ws c.2.1 (manyN ws c.2.2.1))).map fun x => (x, ownN own c.2.2.2) else [] := rfl
            generalize ownN own c.2.2.2 = num at e0 hvk
            generalize manyN ws c.2.2.1 = mn at e0
            generalize passB c.1 ws = gd at e0
            have hst := cok.st
            walk_at "run"
            refine ⟨_, _, rfl, ?_⟩
            have tl8 : (told ws c.2.1 mn).length = min mn (8 - c.2.1) := by unfold told; rw [List.length_take, List.length_drop, h8]
            have eM : ((if (c.2.1 : Int) + (mn : Int) < 8 then (c.2.1 : Int) + (mn : Int) else 8) - (c.2.1 : Int)).toNat = (told ws c.2.1 mn).length := by
              rw [tl8]
              split <;> omega
            have tget : ∀ j, j < (told ws c.2.1 mn).length → (told ws c.2.1 mn)[j]? = some (ws.getD (c.2.1 + j) 0) := by
              intro j hj
              rw [tl8] at hj
              unfold told
              rw [List.getElem?_take, if_pos (by omega), List.getElem?_drop, List.getD_eq_getElem?_getD, List.getElem?_eq_getElem (by omega)]; rfl
            have tl9 : (told ws c.2.1 mn).length ≤ 8 := by omega
            generalize told ws c.2.1 mn = tl at e0 tl8 eM tget tl9
            refine ⟨_, _, rfl, ⟨by omega, by omega, by split <;> omega, by split <;> omega⟩, ?_⟩
            show ∃ W : Nat → Nat → L2.St → Hp → Prop, _
            refine for_range (fun j σ H3 => ∃ (q10 : Option V) (ac : List V), σ = [some (.ref a), some (.ref b), some (.int B), some (.int own), some (.ref L), some (.ref g), some (.int (c.2.1 : Int)), some (.int mn), some vk, some (.bl gd), q10, p11, p12, none, none, none] ∧ H3 L = some (.lst ac) ∧ DtAll H3 ac ((ownedAll ws own (cs.take i) ++ (if gd = true then (nz (tl.take j)).map fun x => (x, num) else [])).map oD) ∧ ac.length ≤ 64 + j ∧ Same H H3) ?_ ?_ ?_
            · refine ⟨_, acc, rfl, hacc, ?_, ?_, s1⟩
              · have : (if gd = true then (nz (tl.take 0)).map fun x => (x, num) else ([] : List (Nat × Nat))) = [] := by cases gd <;> rfl
                rw [this, List.append_nil]
                exact hda
              · rw [hda.len, List.length_map]
                have q1 := ownedAll_len (own := own) h8 (cs.take i)
                have q2 : (cs.take i).length ≤ 8 := by rw [List.length_take]; omega
                omega
            · rintro j σ H3 hj ⟨q10, ac, rfl, hac, hda3, hl3, s3⟩
              rw [eM] at hj
              have hn := tget j hj
              have hj8 : c.2.1 + j < 8 := by omega
              have hb3 := s3 _ _ hb
              walk_at "run"
              cases gd with
              | false => exact ⟨_, ac, rfl, hac, hda3, by omega, s3⟩
              | true =>
                refine iteT ?_
                have hda3 : DtAll H3 ac ((ownedAll ws own (cs.take i) ++ (nz (tl.take j)).map fun x => (x, num)).map oD) := hda3
                have Pv : ∀ (σ : L2.St) (H' : Hp) (ac' : List V), (∃ q10, σ = [some (V.ref a), some (V.ref b), some (V.int B), some (V.int own), some (V.ref L), some (V.ref g), some (V.int (c.2.1 : Int)), some (V.int mn), some vk, some (V.bl true), q10, p11, p12, none, none, none]) → H' L = some (.lst ac') →
                    DtAll H' ac' ((ownedAll ws own (cs.take i) ++ (nz (tl.take (j + 1))).map fun x => (x, num)).map oD) → ac'.length ≤ 64 + (j + 1) → Same H H' →
                    ∃ (q10 : Option V) (ac : List V), σ = [some (.ref a), some (.ref b), some (.int B), some (.int own), some (.ref L), some (.ref g), some (.int (c.2.1 : Int)), some (.int mn), some vk, some (.bl true), q10, p11, p12, none, none, none] ∧ H' L = some (.lst ac) ∧ DtAll H' ac ((ownedAll ws own (cs.take i) ++ (if true = true then (nz (tl.take (j + 1))).map fun x => (x, num) else [])).map oD) ∧ ac.length ≤ 64 + (j + 1) ∧ Same H H' :=
                  fun σ H' ac' ⟨q10, e⟩ h1 h2 h3 h4 => ⟨q10, ac', e, h1, h2, h3, h4⟩
                walk_at "run"
                refine ⟨_, _, _, _, rfl, rfl, SqT.of hb3, atC (c.2.1 + j) (by omega) (getVN (by omega)), ?_⟩
                walk_at "run"
                refine iteDn (fun hne => ?_) (fun heq => ?_)
                · have n0 : ¬ ws.getD (c.2.1 + j) 0 = 0 := fun q => hne (by rw [q]; rfl)
                  walk_at "run"
                  refine ⟨.inl ⟨rfl, _, SqL.of hac⟩, ?_⟩
                  walk_at "run"
                  refine ⟨_, _, _, _, rfl, rfl, SqT.of hb3, atC (c.2.1 + j) (by omega) (getVN (by omega)), ?_⟩
                  have fin : ∀ (p1 : Addr) (ys : List V) (q : Addr), H3 p1 = none → upd H3 p1 (.lst ys) q = none → ∃ acc', upd (upd H3 p1 (.lst ys)) q (.tup [.int (ws.getD (c.2.1 + j) 0 : Nat), .int (num : Int)]) L = some (.lst acc') ∧ acc'.length < sizeLine ∧
                      ∃ (q10 : Option V) (ac : List V), [some (V.ref a), some (V.ref b), some (V.int B), some (V.int own), some (V.ref L), some (V.ref g), some (V.int (c.2.1 : Int)), some (V.int mn), some vk, some (V.bl true), some (V.int (c.2.1 + j : Int)), p11, p12, none, none, none] = [some (V.ref a), some (.ref b), some (.int B), some (.int own), some (.ref L), some (.ref g), some (.int (c.2.1 : Int)), some (.int mn), some vk, some (.bl true), q10, p11, p12, none, none, none] ∧ upd (upd (upd H3 p1 (.lst ys)) q (.tup [.int (ws.getD (c.2.1 + j) 0 : Nat), .int (num : Int)])) L (.lst (acc' ++ [.ref q])) L = some (.lst ac) ∧
                        DtAll (upd (upd (upd H3 p1 (.lst ys)) q (.tup [.int (ws.getD (c.2.1 + j) 0 : Nat), .int (num : Int)])) L (.lst (acc' ++ [.ref q]))) ac ((ownedAll ws own (cs.take i) ++ (if true = true then (nz (tl.take (j + 1))).map fun x => (x, num) else [])).map oD) ∧ ac.length ≤ 64 + (j + 1) ∧ Same H (upd (upd (upd H3 p1 (.lst ys)) q (.tup [.int (ws.getD (c.2.1 + j) 0 : Nat), .int (num : Int)])) L (.lst (acc' ++ [.ref q]))) := by
                    intro p1 ys q h1 h2
                    have a1 : upd H3 p1 (.lst ys) L = some (.lst ac) := by rw [upd_ne (ne_of_none hac h1)]; exact hac
                    refine ⟨ac, by rw [upd_ne (ne_of_none a1 h2)]; exact a1, szt (by omega), Pv _ _ _ ⟨_, rfl⟩ upd_same ?_ (by rw [List.length_append]; show _ + 1 ≤ _; omega) (Same.mut ((s3.trans (Same.new h1)).trans (Same.new h2)) hL)⟩
                    have e5 : (ownedAll ws own (cs.take i) ++ (nz (tl.take (j + 1))).map fun x => (x, num)) = (ownedAll ws own (cs.take i) ++ (nz (tl.take j)).map fun x => (x, num)) ++ [(ws.getD (c.2.1 + j) 0, num)] := by
                      rw [nz_snoc hn, if_neg n0]
                      simp
                    rw [e5, List.map_append]
                    exact snoc_o (hda3.same (Same.new h1)) (os_tonly _) a1 h2
                  rcases hvk with ⟨rfl, en⟩ | ⟨n, rfl, en⟩
                  · subst en
                    walk_at "run"
                    refine ⟨szl rfl, fun p1 hp1 => ?_⟩
                    walk_at "run"
                    refine Or.inr ⟨_, rfl, ?_⟩
                    refine ⟨_, _, _, _, rfl, rfl, SqL.of upd_same, atC 1 (by first | rfl | simp) rfl, ?_⟩
                    refine ⟨szl rfl, fun q hq => ?_⟩
                    obtain ⟨acc', h1, h2, h3⟩ := fin p1 _ q hp1 hq
                    exact ⟨_, _, _, rfl, rfl, h1, h2, h3⟩
                  · subst en
                    walk_at "run"
                    refine ⟨szl rfl, fun p1 hp1 => ?_⟩
                    walk_at "run"
                    refine Or.inr ⟨_, rfl, ?_⟩
                    refine ⟨_, _, _, _, rfl, rfl, SqL.of upd_same, atC 0 (by first | rfl | simp) rfl, ?_⟩
                    refine ⟨szl rfl, fun q hq => ?_⟩
                    obtain ⟨acc', h1, h2, h3⟩ := fin p1 _ q hp1 hq
                    exact ⟨_, _, _, rfl, rfl, h1, h2, h3⟩
                · have n0 : ws.getD (c.2.1 + j) 0 = 0 := by
                    have q : ((ws.getD (c.2.1 + j) 0 : Nat) : Int) = 0 := by injection heq
                    omega
                  refine Pv _ _ _ ⟨_, rfl⟩ hac ?_ (by omega) s3
                  rw [nz_snoc hn, if_pos n0, List.append_nil]
                  exact hda3
            · rintro σ H3 ⟨q10, ac, rfl, hac, hda3, hl3, s3⟩
              rw [eM, List.take_length] at hda3
              refine ⟨_, _, _, _, _, _, _, _, ac, rfl, hac, ?_, s3⟩
              rw [flat_snoc hc, e0]
              exact hda3
      · rintro σ H1 ⟨o5, o6, o7, o8, o9, o10, o11, o12, acc, rfl, hacc, hda, s1⟩
        rw [hlen, List.take_length] at hda
        have ol : (ownedAll ws own cs).length ≤ 64 := by
          have q1 := ownedAll_len (own := own) h8 cs
          omega
        have ke : runD cs ws B own = if fits B (ownedAll ws own cs) = true then .tuple ((ownedAll ws own cs).map oD) else .none := rfl
        rw [ke] at k
        generalize ownedAll ws own cs = os at hda ol k
        have al : acc.length = os.length := by rw [hda.len, List.length_map]
        refine ⟨_, rfl, _, rfl, ⟨_, SqL.of hacc⟩, fun D hD => ?_⟩
        refine lcL (xs := acc) ((os.map (·.1)).map vN) (by simp [al]) (by omega) hacc hD ?_ ?_
        · intro j x y H2 Q' hx hy s2 q
          obtain ⟨d, hd1, hd2⟩ := hda.getV hx
          have hj : j < os.length := by rw [← al]; exact (List.getElem?_eq_some_iff.mp hx).1
          rw [List.getElem?_map, List.getElem?_eq_getElem hj] at hd1
          have ed : d = oD os[j] := (Option.some.inj hd1).symm
          subst ed
          have ey : y = .int (os[j].1 : Int) := by
            rw [List.getElem?_map, List.getElem?_map, List.getElem?_eq_getElem hj] at hy
            exact (Option.some.inj hy).symm
          subst ey
          unfold oD at hd2
          cases hd2 with
          | tup hq hqs =>
            cases hqs with
            | cons c1 hqs => cases hqs with
              | cons c2 hqs =>
                cases hqs; cases c1; cases c2
                refine ⟨rfl, ?_⟩
                walk_at "run"
                exact ⟨_, _, _, _, rfl, rfl, SqT.of (s2 _ _ hq), atC 0 rfl rfl, q H2 (Same.refl _)⟩
        · intro H2 s2 d2
          have nl : (os.map (·.1)).length = os.length := by rw [List.length_map]
          walk_at "run"
          refine ⟨by omega, by simp; omega, ?_⟩
          show ∃ W : Nat → Nat → L2.St → Hp → Prop, _
          refine for_range (fun j σ H3 => ∃ (o15 : Option V), σ = [some (.ref a), some (.ref b), some (.int B), some (.int own), some (.ref L), o5, o6, o7, o8, o9, o10, o11, o12, some (.ref D), none, o15] ∧ Same H2 H3 ∧ fits B (os.take j) = true) ?_ ?_ ?_
          · exact ⟨none, rfl, Same.refl _, rfl⟩
          · rintro j σ H3 hj ⟨o15, rfl, s3, hf⟩
            have hj' : j < os.length := by simpa using hj
            have d3 := s3 _ _ d2
            have gx : ((os.map (·.1)).map vN)[j]? = some (.int (os[j].1 : Nat)) := by
              rw [List.getElem?_map, List.getElem?_map, List.getElem?_eq_getElem hj']; rfl
            walk_at "run"
            refine ⟨_, _, _, _, rfl, rfl, SqL.of d3, atC j (by omega) gx, ?_⟩
            walk_at "run"
            have bad : ∀ H', Same H H' → fits B (os.take (j + 1)) = false → Q .non H' := by
              intro H' s' hb'
              rw [fits_bad hb'] at k
              exact k _ _ s' .non
            have s03 := (s1.trans s2).trans s3
            have fs := fits_snoc (B := B) hj'
            rw [hf, Bool.true_and] at fs
            refine iteD (fun h4 => ?_) (fun h4 => ?_)
            · refine iteT (bad _ s03 ?_)
              rw [fs, decide_eq_false (by omega : ¬ 4 ≤ os[j].1)]; rfl
            · walk_at "run"
              refine ⟨_, _, _, _, rfl, rfl, SqL.of d3, atC j (by omega) gx, ?_⟩
              walk_at "run"
              refine iteD (fun hB => ?_) (fun hB => ?_)
              · refine iteT (bad _ s03 ?_)
                rw [fs, decide_eq_false (by omega : ¬ os[j].1 < B), Bool.and_false]; rfl
              · rw [decide_eq_true (by omega : 4 ≤ os[j].1), decide_eq_true (by omega : os[j].1 < B), Bool.true_and, Bool.true_and] at fs
                walk_at "run"
                refine ⟨_, _, _, _, rfl, rfl, SqL.of d3, atC j (by omega) gx, ?_⟩
                have ec : cutV ((os.map (·.1)).map vN) none (some (0 + (j : Int))) = ((os.take j).map (·.1)).map vN := by
                  unfold cutV
                  rw [show (0 + (j : Int)) = ((j : Nat) : Int) by omega, HT.sIx_nat, HT.sIx_none, List.drop_zero, Nat.sub_zero, List.length_map, List.length_map, Nat.min_eq_left (by omega), List.map_take, List.map_take]
                walk_at "run"
                refine ⟨D, _, rfl, SqL.of d3, fun p hp => ?_⟩
                rw [ec]
                refine ⟨p, _, rfl, .inl (SqL.of upd_same), rfl, vN_flat _, _, rfl, ?_⟩
                show if inV (.int (os[j].1 : Int)) (((os.take j).map (·.1)).map vN) = true then _ else _
                rw [inV_nat]
                refine iteD (fun hin => ?_) (fun hin => ?_)
                · refine bad _ (s03.trans (Same.new hp)) ?_
                  rw [fs, decide_eq_true hin]; rfl
                · refine ⟨_, rfl, s3.trans (Same.new hp), ?_⟩
                  rw [fs, decide_eq_false hin]; rfl
          · rintro σ H3 ⟨o15, rfl, s3, hf⟩
            have hf : fits B os = true := by
              rw [List.take_of_length_le (by simp)] at hf
              exact hf
            rw [if_pos hf] at k
            have hacc3 := s3 _ _ (s2 _ _ hacc)
            refine ⟨_, rfl, _, _, rfl, .inl ⟨SqL.of hacc3, fun p hp => ?_⟩⟩
            exact k _ _ (((s1.trans s2).trans s3).trans (Same.new hp)) (Dt.new ((hda.same s2).same s3) hp)
end
end My

namespace My
open PySem L2
local macro_rules | `(tactic| walk_at "ne") => `(tactic| first | assumption | exact Ne.symm (by assumption) | exact ne_of_none (by assumption) (by assumption) | exact Ne.symm (ne_of_none (by assumption) (by assumption)))
local macro_rules | `(tactic| walk_at "hp") => `(tactic| first | assumption | with_reducible exact upd_same | (with_reducible refine Eq.trans (upd_ne ?_) ?_; rotate_left; walk_at "hp"; walk_at "ne"))
local macro_rules | `(tactic| walk_at "cnd") => `(tactic| first | omega | (show (0 : Int) < _; omega) | exact ⟨by omega, by omega⟩ | exact Or.inl ⟨by omega, by omega⟩ | exact Or.inr ⟨by omega, by omega⟩ | exact ⟨by omega, by omega, by decide⟩ | exact ⟨by omega, by omega, by omega⟩)
local macro_rules | `(tactic| walk_at "at") => `(tactic| first | exact atC 0 rfl rfl | exact atC 1 rfl rfl | exact atC 2 rfl rfl | exact atC 3 rfl rfl | exact atC 4 rfl rfl | exact atC 5 rfl rfl | exact atC 6 rfl rfl | exact atC 7 rfl rfl)
local macro_rules | `(tactic| walk_at "ix") => `(tactic| first | exact ixC 0 rfl (Nat.le_of_ble_eq_true rfl) | exact ixC 1 rfl (Nat.le_of_ble_eq_true rfl) | exact ixC 2 rfl (Nat.le_of_ble_eq_true rfl) | exact ixC 3 rfl (Nat.le_of_ble_eq_true rfl) | exact ixC 4 rfl (Nat.le_of_ble_eq_true rfl) | exact ixC 5 rfl (Nat.le_of_ble_eq_true rfl))
local macro_rules | `(tactic| walk_at "st") => `(tactic| first
  | refine ⟨_, rfl, ?_⟩
  | refine ⟨_, _, rfl, rfl, (by walk_at "cnd" : (_ : Prop)), ?_⟩
  | refine ⟨_, _, rfl, rfl, ?_⟩
  | refine ⟨rfl, ?_⟩
  | refine Or.inl ⟨_, rfl, ?_⟩
  | refine ⟨_, _, _, _, rfl, rfl, by exact SqL.of (by walk_at "hp"), by walk_at "at", ?_⟩
  | refine ⟨_, _, _, _, rfl, rfl, by exact SqT.of (by walk_at "hp"), by walk_at "at", ?_⟩
  | refine ⟨_, _, _, _, rfl, rfl, by walk_at "hp", by walk_at "ix", ?_⟩
  | refine ⟨_, _, rfl, Or.inl (by exact SqL.of (by walk_at "hp")), ?_⟩
  | refine ⟨_, _, rfl, Or.inr (by exact SqT.of (by walk_at "hp")), ?_⟩)
local macro_rules | `(tactic| walk_at "so") => `(tactic| first
  | refine ⟨_, _, _, _, _, rfl, by walk_at "hp", by assumption, by assumption, rfl, ?_⟩
  | refine ⟨_, _, _, _, rfl, by walk_at "hp", by assumption, by assumption, Nat.le_of_ble_eq_true rfl, ?_⟩
  | refine ⟨_, _, _, rfl, by walk_at "hp", rfl, ?_⟩
  | walk_at "st")
local macro_rules | `(tactic| walk_at "ro") => `(tactic| repeat walk_at "so")
local macro_rules | `(tactic| walk_at "run") => `(tactic| repeat walk_at "st")

/-- a list of data that is being made, beside the tape -/
structure I7 (H0 : Hp) (a t L : Addr) (xs : List V) (ds : List PyData) (H : Hp) : Prop where
  hL : H L = some (.lst xs)
  dL : DtAll H xs ds
  oL : tonlyAll ds = true
  tp : Tape H a t
  ch : Chg a H0 H
  La : L ≠ a
  Lt : L ≠ t
  nL : H0 L = none
theorem none_of {a G : Addr} {H0 H : Hp} (c : Chg a H0 H) (n : G ≠ a) (h : H G = none) : H0 G = none := by
  cases e : H0 G with
  | none => rfl
  | some o => rw [c G o n e] at h; cases h
namespace I7
variable {H0 H H' : Hp} {a t L G q : Addr} {xs vs : List V} {ds es : List PyData} {o : HO}
theorem same (I : I7 H0 a t L xs ds H) (s : Same H H') : I7 H0 a t L xs ds H' := ⟨s _ _ I.hL, I.dL.same s, I.oL, I.tp.same s, I.ch.trans (Same.chg s), I.La, I.Lt, I.nL⟩
theorem next (I : I7 H0 a t L xs ds H) (t' : Tape H' a t) (c : Chg a H H') : I7 H0 a t L xs ds H' := ⟨c L _ I.La I.hL, I.dL.ts (I.tp.ts c) I.oL, I.oL, t', I.ch.trans c, I.La, I.Lt, I.nL⟩
theorem other (I : I7 H0 a t L xs ds H) {gs : List V} (hG : H G = some (.lst gs)) (n1 : G ≠ a) (n2 : G ≠ t) (n3 : L ≠ G) (hn : H0 G = none) : I7 H0 a t L xs ds (upd H G o) :=
  ⟨by rw [upd_ne n3]; exact I.hL, I.dL.ts (Chg.upd.ts hG) I.oL, I.oL, I.tp.upd n1 n2, Chg.mut I.ch hn, I.La, I.Lt, I.nL⟩
theorem pushV (I : I7 H0 a t L xs ds H) {v : V} {d : PyData} (hd : Dt H v d) (ht : tonly d = true) : I7 H0 a t L (xs ++ [v]) (ds ++ [d]) (upd H L (.lst (xs ++ [v]))) :=
  have ot : tonlyAll (ds ++ [d]) = true := by
    have : ∀ es : List PyData, tonlyAll es = true → tonlyAll (es ++ [d]) = true := by
      intro es
      induction es with
      | nil => intro _; show (tonly d && true) = true; rw [ht]; rfl
      | cons e es ih =>
        intro h
        have h' : (tonly e && tonlyAll es) = true := h
        rw [Bool.and_eq_true] at h'
        show (tonly e && tonlyAll (es ++ [d])) = true
        rw [h'.1, ih h'.2]; rfl
    exact this ds I.oL
  ⟨upd_same, (I.dL.append (.cons hd .nil)).ts (Chg.upd.ts I.hL) ot, ot, I.tp.upd I.La I.Lt, Chg.mut I.ch I.nL, I.La, I.Lt, I.nL⟩
end I7
theorem rowD_tonly (r : Row3) : tonly (rowD r) = true := rfl
theorem clD_tonly (c : Cl) : tonly (clD c) = true := by
  obtain ⟨rows, s, m, k⟩ := c
  show (tonlyAll (rows.map rowD) && (true && (tonly (mnD m) && (tonly (kdD k) && true)))) = true
  rw [rows_tonly]
  cases m <;> cases k <;> rfl
def spLProg : Sp := fun vs H Q _ => ∃ a t, vs = [.ref a] ∧ Tape H a t ∧ ∀ (v : V) (cs : List Cl) (H' : Hp), cs.length ≤ 4 → (∀ c ∈ cs, ClOk c) → Dt H' v (.tuple (cs.map clD)) → Tape H' a t → Chg a H H' → Q v H'
def spLWords : Sp := fun vs H Q _ => ∃ a t, ∃ B : Nat, vs = [.ref a, .int B] ∧ 1 ≤ B ∧ Tape H a t ∧ ∀ (v : V) (ws : List Nat) (H' : Hp), ws.length = 8 → Dt H' v (pD ws) → Tape H' a t → Chg a H H' → Q v H'
section
variable {P : Program} {w : World} {K : PySem.W.Frag} {mg : Str → Option Value} {base : Heap}
abbrev s_law_program : Stmt := topS 34
abbrev ns_law_program : List Str := ["tape", "clauses", "k", "guards", "n", "mask", "start", "many"]
theorem sc_law_program : FnScope ns_law_program ["tape"] (defScope s_law_program) := ⟨rfl, rfl, rfl, by decide +kernel, rfl, by decide +kernel, by decide +kernel⟩

theorem ok_law_program {f : Addr} {fd : FuncData} (F : Fun K "_law_program" "_law_program" s_law_program f fd) (T : Txt K mg C_Types C_NotValid) (D_law_next : Dfn P w K mg base CX0 1 "_law_next" ["tape", "many"] spNext) : FnOk P w K mg base CX0 2 f fd ["tape"] spLProg := by
  refine F.ok sc_law_program (fun vs H Q E h => ?_) (fun cdv A outer s H vs Q E hr h => ?_)
  · obtain ⟨a, t, rfl, _⟩ := h
    rfl
  · obtain ⟨a, t, rfl, t0, k⟩ := h
    refine ⟨_, (pss_cons (ps_set (i := 1) sc_law_program.nd rfl (Or.inl rfl) (pe_lst pa_nil))
  (pss_cons (ps_for PassesOwn.never (by rfl) (pi_range1 (by rfl) T.b_range (pa_cons (pe_dcall D_law_next (hr.mono (by decide)) (by rfl) pass0 (pa_cons (pv 0) (pa_cons pe_int pa_nil))) pa_nil)) (pg_name (i := 2) sc_law_program.nd rfl (Or.inl rfl)) (pss_cons (ps_set (i := 3) sc_law_program.nd rfl (Or.inl rfl) (pe_lst pa_nil))
  (pss_cons (ps_for PassesOwn.never (by rfl) (pi_range1 (by rfl) T.b_range (pa_cons (pe_dcall D_law_next (hr.mono (by decide)) (by rfl) pass0 (pa_cons (pv 0) (pa_cons pe_int pa_nil))) pa_nil)) (pg_name (i := 4) sc_law_program.nd rfl (Or.inl rfl)) (pss_cons (ps_set (i := 5) sc_law_program.nd rfl (Or.inl rfl) (pe_ix (kIxL K) (pe_lst (pa_cons pe_int (pa_cons pe_int (pa_cons pe_int (pa_cons (pe_op op_sub (pe_op op_pow pe_int pe_int) pe_int) pa_nil))))) (pe_dcall D_law_next (hr.mono (by decide)) (by rfl) pass0 (pa_cons (pv 0) (pa_cons pe_int pa_nil))) (fun _ _ => rfl)))
  (pss_one (ps_expr (kBM K PySem.F.plainAttrs_list PySem.F.slot_list_append PySem.F.type_list_append mt_append (pv 3) (pa_cons (pe_tup (pa_cons (pe_dcall D_law_next (hr.mono (by decide)) (by rfl) pass0 (pa_cons (pv 0) (pa_cons pe_int pa_nil))) (pa_cons (pv 5) (pa_cons (pe_dcall D_law_next (hr.mono (by decide)) (by rfl) pass0 (pa_cons (pv 0) (pa_cons pe_int pa_nil))) pa_nil)))) pa_nil))))))
  (pss_cons (ps_set (i := 6) sc_law_program.nd rfl (Or.inl rfl) (pe_dcall D_law_next (hr.mono (by decide)) (by rfl) pass0 (pa_cons (pv 0) (pa_cons pe_int pa_nil))))
  (pss_cons (ps_set (i := 7) sc_law_program.nd rfl (Or.inl rfl) (pe_ix (kIxL K) (pe_lst (pa_cons (pe_op op_add pe_int (pe_dcall D_law_next (hr.mono (by decide)) (by rfl) pass0 (pa_cons (pv 0) (pa_cons (pe_op op_sub pe_int (pv 6)) pa_nil)))) (pa_cons (pe_tup (pa_cons pe_str (pa_cons (pe_dcall D_law_next (hr.mono (by decide)) (by rfl) pass0 (pa_cons (pv 0) (pa_cons pe_int pa_nil))) pa_nil))) pa_nil))) (pe_dcall D_law_next (hr.mono (by decide)) (by rfl) pass0 (pa_cons (pv 0) (pa_cons pe_int pa_nil))) (fun _ _ => rfl)))
  (pss_one (ps_expr (kBM K PySem.F.plainAttrs_list PySem.F.slot_list_append PySem.F.type_list_append mt_append (pv 1) (pa_cons (pe_tup (pa_cons (pe_callTy (kTupOf K) (by rfl) T.b_tuple (by decide +kernel) (pa_cons (pv 3) pa_nil)) (pa_cons (pv 6) (pa_cons (pv 7) (pa_cons (pe_ix (kIxL K) (pe_lst (pa_cons pe_int (pa_cons pe_str (pa_cons pe_int pa_nil)))) (pe_dcall D_law_next (hr.mono (by decide)) (by rfl) pass0 (pa_cons (pv 0) (pa_cons pe_int pa_nil))) (fun _ _ => rfl)) pa_nil))))) pa_nil)))))))))
  (pss_one (ps_ret (pe_callTy (kTupOf K) (by rfl) T.b_tuple (by decide +kernel) (pa_cons (pv 1) pa_nil)))))), ?_⟩
    refine ⟨szl rfl, fun L hL => ?_⟩
    have I0 : I7 H a t L [] [] (upd H L (.lst [])) := ⟨upd_same, .nil, rfl, t0.same (Same.new hL), Same.chg (Same.new hL), t0.at hL, t0.at2 hL, hL⟩
    walk_at "run"
    refine ⟨a, t, 5, rfl, by decide, by decide, I0.tp, fun v H1 v0 v1 t1 c1 => ?_⟩
    have I0 := I0.next t1 c1
    walk_at "run"
    refine ⟨by omega, by omega, for_range (fun i σ H1 => ∃ (cs : List Cl) (xs : List V) (v2 v3 v4 v5 v6 v7 : Option V), σ = [some (.ref a), some (.ref L), v2, v3, v4, v5, v6, v7] ∧ cs.length ≤ i ∧ (∀ c ∈ cs, ClOk c) ∧ I7 H a t L xs (cs.map clD) H1) ?_ ?_ ?_⟩
    · exact ⟨[], [], none, none, none, none, none, none, rfl, Nat.le_refl _, fun _ h => (by cases h), I0⟩
    · rintro i σ H1 hi ⟨cs, xs, v2, v3, v4, v5, v6, v7, rfl, cl, cok, I⟩
      have hi4 : i < 4 := by omega
      walk_at "run"
      refine ⟨szl rfl, fun G hG => ?_⟩
      have hG0 := none_of I.ch (I.tp.at hG) hG
      have I2 : I7 H a t L xs (cs.map clD) (upd H1 G (.lst [])) := I.same (Same.new hG)
      have g0 : I7 H a t G [] [] (upd H1 G (.lst [])) := ⟨upd_same, .nil, rfl, I2.tp, I2.ch, I.tp.at hG, I.tp.at2 hG, hG0⟩
      have nLG : L ≠ G := ne_of_none I.hL hG
      walk_at "run"
      refine ⟨a, t, 3, rfl, by decide, by decide, I2.tp, fun v H3 v0 v1 t3 c3 => ?_⟩
      have I3 := I2.next t3 c3
      have g3 := g0.next t3 c3
      walk_at "run"
      refine ⟨by omega, by omega, for_range (fun j σ H4 => ∃ (rows : List Row3) (gs : List V) (u4 u5 : Option V), σ = [some (.ref a), some (.ref L), some (.int (0 + (i : Int))), some (.ref G), u4, u5, v6, v7] ∧ rows.length ≤ j ∧ (∀ r ∈ rows, r.1 < 8 ∧ r.2.1 ≤ 4294967295 ∧ r.2.2 ≤ 4294967295) ∧ I7 H a t L xs (cs.map clD) H4 ∧ I7 H a t G gs (rows.map rowD) H4) ?_ ?_ ?_⟩
      · exact ⟨[], [], v4, v5, rfl, Nat.le_refl _, fun _ h => (by cases h), I3, g3⟩
      · rintro j σ H4 hj ⟨rows, gs, u4, u5, rfl, rl, rok, I, g⟩
        have hj2 : j < 2 := by omega
        walk_at "run"
        refine ⟨szl rfl, fun p hp => ?_⟩
        have npa := I.tp.at hp
        have sp := Same.new (o := .lst [.int 255, .int 1, .int 3, .int 4294967295]) hp
        have I := I.same sp
        have g := g.same sp
        walk_at "run"
        refine ⟨a, t, 4, rfl, by decide, by decide, I.tp, fun z H5 z0 z1 t5 c5 => ?_⟩
        have hp5 := c5 p _ npa upd_same
        have I := I.next t5 c5
        have g := g.next t5 c5
        have pick : ∃ m : Nat, m ≤ 4294967295 ∧ atI [V.int 255, V.int 1, V.int 3, V.int 4294967295] z = some (V.int (m : Int)) := by
          have hz : z = 0 ∨ z = 1 ∨ z = 2 ∨ z = 3 := by omega
          rcases hz with rfl | rfl | rfl | rfl
          · exact ⟨255, by decide, atC 0 rfl rfl⟩
          · exact ⟨1, by decide, atC 1 rfl rfl⟩
          · exact ⟨3, by decide, atC 2 rfl rfl⟩
          · exact ⟨4294967295, by decide, atC 3 rfl rfl⟩
        obtain ⟨m, hm, hat⟩ := pick
        refine ⟨_, _, _, _, rfl, rfl, SqL.of hp5, hat, ?_⟩
        walk_at "run"
        refine ⟨.inl ⟨rfl, _, SqL.of g.hL⟩, ?_⟩
        walk_at "run"
        refine ⟨a, t, 8, rfl, by decide, by decide, I.tp, fun x H6 x0 x1 t6 c6 => ?_⟩
        have I := I.next t6 c6
        have g := g.next t6 c6
        walk_at "run"
        refine ⟨a, t, 4, rfl, by decide, by decide, I.tp, fun y H7 y0 y1 t7 c7 => ?_⟩
        have I := I.next t7 c7
        have g := g.next t7 c7
        obtain ⟨x', rfl⟩ := Int.eq_ofNat_of_zero_le x0
        obtain ⟨y', rfl⟩ := Int.eq_ofNat_of_zero_le y0
        walk_at "run"
        refine ⟨szl rfl, fun q hq => ?_⟩
        have sq := Same.new (o := .tup [.int (x' : Int), .int (m : Int), .int (y' : Int)]) hq
        have dq : Dt (upd H7 q (.tup [.int (x' : Int), .int (m : Int), .int (y' : Int)])) (.ref q) (rowD (x', m, y')) := .tup upd_same (.cons (.int _) (.cons (.int _) (.cons (.int _) .nil)))
        have I := I.same sq
        have g := g.same sq
        have gl : gs.length = rows.length := by rw [g.dL.len, List.length_map]
        refine ⟨_, _, _, rfl, rfl, g.hL, szt (by omega), rows ++ [(x', m, y')], gs ++ [.ref q], _, _, rfl, by rw [List.length_append]; show _ + 1 ≤ _; omega, ?_, I.other g.hL g.La g.Lt nLG g.nL, ?_⟩
        · intro r hr
          rcases List.mem_append.mp hr with h | h
          · exact rok r h
          · rw [List.mem_singleton.mp h]
            exact ⟨by show x' < 8; omega, hm, by show y' ≤ 4294967295; omega⟩
        · rw [List.map_append]
          exact g.pushV dq (rowD_tonly _)
      · rintro σ H4 ⟨rows, gs, u4, u5, rfl, rl, rok, I, g⟩
        have rl2 : rows.length ≤ 2 := by omega
        walk_at "run"
        refine ⟨a, t, 8, rfl, by decide, by decide, I.tp, fun st H5 st0 st1 t5 c5 => ?_⟩
        have I := I.next t5 c5
        have g := g.next t5 c5
        obtain ⟨s', rfl⟩ := Int.eq_ofNat_of_zero_le st0
        walk_at "run"
        refine ⟨a, t, 8 - (s' : Int), rfl, by omega, by omega, I.tp, fun mn H6 mn0 mn1 t6 c6 => ?_⟩
        have I := I.next t6 c6
        have g := g.next t6 c6
        obtain ⟨mn', rfl⟩ := Int.eq_ofNat_of_zero_le mn0
        walk_at "run"
        refine ⟨a, t, 8, rfl, by decide, by decide, I.tp, fun wi H7 wi0 wi1 t7 c7 => ?_⟩
        have I := I.next t7 c7
        have g := g.next t7 c7
        obtain ⟨wi', rfl⟩ := Int.eq_ofNat_of_zero_le wi0
        walk_at "run"
        refine ⟨szl rfl, fun p hp => ?_⟩
        have sp := Same.new (o := .tup [.str "word", .int (wi' : Int)]) hp
        have dp : Dt (upd H7 p (.tup [.str "word", .int (wi' : Int)])) (.ref p) (mnD (.inr wi')) := .tup upd_same (.cons (.str _) (.cons (.int _) .nil))
        have I := I.same sp
        have g := g.same sp
        walk_at "run"
        refine ⟨szl rfl, fun p2 hp2 => ?_⟩
        have sp2 := Same.new (o := .lst [.int (1 + (mn' : Int)), .ref p]) hp2
        have np2 := I.tp.at hp2
        have dp := dp.same sp2
        have I := I.same sp2
        have g := g.same sp2
        walk_at "run"
        refine ⟨a, t, 2, rfl, by decide, by decide, I.tp, fun z H8 z0 z1 t8 c8 => ?_⟩
        have hp8 := c8 p2 _ np2 upd_same
        have dp := dp.ts (I.tp.ts c8) rfl
        have I := I.next t8 c8
        have g := g.next t8 c8
        have pick : ∃ (m : Nat ⊕ Nat) (vm : V), (∀ n, m = .inl n → 1 ≤ n ∧ n + s' ≤ 8) ∧ (∀ i, m = .inr i → i < 8) ∧ Dt H8 vm (mnD m) ∧ atI [V.int (1 + (mn' : Int)), V.ref p] z = some vm := by
          have hz : z = 0 ∨ z = 1 := by omega
          rcases hz with rfl | rfl
          · refine ⟨.inl (1 + mn'), .int ((1 + mn' : Nat) : Int), fun n e => (by cases e; omega), fun _ e => (by cases e), .int _, atC 0 rfl ?_⟩
            rw [show ((1 + mn' : Nat) : Int) = 1 + (mn' : Int) by omega]; rfl
          · exact ⟨.inr wi', .ref p, fun _ e => (by cases e), fun i e => (by cases e; omega), dp, atC 1 rfl rfl⟩
        obtain ⟨m, vm, hm1, hm2, dm, hat⟩ := pick
        refine ⟨_, _, _, _, rfl, rfl, SqL.of hp8, hat, ?_⟩
        walk_at "run"
        refine ⟨.inl ⟨rfl, _, SqL.of I.hL⟩, ?_⟩
        walk_at "run"
        refine ⟨_, _, rfl, .inl ⟨SqL.of g.hL, fun u hu => ?_⟩⟩
        have su := Same.new (o := .tup gs) hu
        have du : Dt (upd H8 u (.tup gs)) (.ref u) (.tuple (rows.map rowD)) := .tup upd_same (g.dL.same su)
        have dm := dm.same su
        have I := I.same su
        walk_at "run"
        refine ⟨szl rfl, fun p3 hp3 => ?_⟩
        have sp3 := Same.new (o := .lst [.int 0, .str "own", .int 2]) hp3
        have np3 := I.tp.at hp3
        have I := I.same sp3
        have du := du.same sp3
        have dm := dm.same sp3
        walk_at "run"
        refine ⟨a, t, 3, rfl, by decide, by decide, I.tp, fun y H9 y0 y1 t9 c9 => ?_⟩
        have hp9 := c9 p3 _ np3 upd_same
        have tsx := I.tp.ts c9
        have du := du.ts tsx (show tonly (.tuple (rows.map rowD)) = true from rows_tonly rows)
        have dm := dm.ts tsx (by cases m <;> rfl)
        have I := I.next t9 c9
        have pick : ∃ (kd : Option Nat) (vk : V), (kd = none ∨ kd = some 0 ∨ kd = some 2) ∧ Dt H9 vk (kdD kd) ∧ atI [V.int 0, V.str "own", V.int 2] y = some vk := by
          have hz : y = 0 ∨ y = 1 ∨ y = 2 := by omega
          rcases hz with rfl | rfl | rfl
          · exact ⟨some 0, .int 0, .inr (.inl rfl), .int 0, atC 0 rfl rfl⟩
          · exact ⟨none, .str "own", .inl rfl, .str _, atC 1 rfl rfl⟩
          · exact ⟨some 2, .int 2, .inr (.inr rfl), .int 2, atC 2 rfl rfl⟩
        obtain ⟨kd, vk, hkd, dk, hatk⟩ := pick
        refine ⟨_, _, _, _, rfl, rfl, SqL.of hp9, hatk, ?_⟩
        refine ⟨szl rfl, fun q hq => ?_⟩
        have sq := Same.new (o := .tup [.ref u, .int (s' : Int), vm, vk]) hq
        have dq : Dt (upd H9 q (.tup [.ref u, .int (s' : Int), vm, vk])) (.ref q) (clD (rows, s', m, kd)) := .tup upd_same (.cons (du.same sq) (.cons (.int _) (.cons (dm.same sq) (.cons (dk.same sq) .nil))))
        have I := I.same sq
        have xl : xs.length = cs.length := by rw [I.dL.len, List.length_map]
        refine ⟨_, _, _, rfl, rfl, I.hL, szt (by omega), cs ++ [(rows, s', m, kd)], xs ++ [.ref q], _, _, _, _, _, _, rfl, by rw [List.length_append]; show _ + 1 ≤ _; omega, ?_, ?_⟩
        · intro c hc
          rcases List.mem_append.mp hc with h | h
          · exact cok c h
          · rw [List.mem_singleton.mp h]
            exact ⟨by show rows.length ≤ 4; omega, rok, by show s' < 8; omega, hm1, hm2, hkd⟩
        · rw [List.map_append]
          exact I.pushV dq (clD_tonly _)
    · rintro σ H1 ⟨cs, xs, v2, v3, v4, v5, v6, v7, rfl, cl, cok, I⟩
      walk_at "run"
      refine ⟨_, _, rfl, .inl ⟨SqL.of I.hL, fun p hp => ?_⟩⟩
      exact k _ cs _ (by omega) cok (.tup upd_same (I.dL.same (Same.new hp))) (I.tp.same (Same.new hp)) (I.ch.trans (Same.chg (Same.new hp)))
end
end My

namespace My
open PySem L2
local macro_rules | `(tactic| walk_at "ne") => `(tactic| first | assumption | exact Ne.symm (by assumption) | exact ne_of_none (by assumption) (by assumption) | exact Ne.symm (ne_of_none (by assumption) (by assumption)))
local macro_rules | `(tactic| walk_at "hp") => `(tactic| first | assumption | with_reducible exact upd_same | (with_reducible refine Eq.trans (upd_ne ?_) ?_; rotate_left; walk_at "hp"; walk_at "ne"))
local macro_rules | `(tactic| walk_at "cnd") => `(tactic| first | omega | (show (0 : Int) < _; omega) | exact ⟨by omega, by omega⟩ | exact Or.inl ⟨by omega, by omega⟩ | exact Or.inr ⟨by omega, by omega⟩ | exact ⟨by omega, by omega, by decide⟩ | exact ⟨by omega, by omega, by omega⟩)
local macro_rules | `(tactic| walk_at "at") => `(tactic| first | exact atC 0 rfl rfl | exact atC 1 rfl rfl | exact atC 2 rfl rfl | exact atC 3 rfl rfl | exact atC 4 rfl rfl | exact atC 5 rfl rfl | exact atC 6 rfl rfl | exact atC 7 rfl rfl)
local macro_rules | `(tactic| walk_at "ix") => `(tactic| first | exact ixC 0 rfl (Nat.le_of_ble_eq_true rfl) | exact ixC 1 rfl (Nat.le_of_ble_eq_true rfl) | exact ixC 2 rfl (Nat.le_of_ble_eq_true rfl) | exact ixC 3 rfl (Nat.le_of_ble_eq_true rfl) | exact ixC 4 rfl (Nat.le_of_ble_eq_true rfl) | exact ixC 5 rfl (Nat.le_of_ble_eq_true rfl))
local macro_rules | `(tactic| walk_at "st") => `(tactic| first
  | refine ⟨_, rfl, ?_⟩
  | refine ⟨_, _, rfl, rfl, (by walk_at "cnd" : (_ : Prop)), ?_⟩
  | refine ⟨_, _, rfl, rfl, ?_⟩
  | refine ⟨rfl, ?_⟩
  | refine Or.inl ⟨_, rfl, ?_⟩
  | refine ⟨_, _, _, _, rfl, rfl, by exact SqL.of (by walk_at "hp"), by walk_at "at", ?_⟩
  | refine ⟨_, _, _, _, rfl, rfl, by exact SqT.of (by walk_at "hp"), by walk_at "at", ?_⟩
  | refine ⟨_, _, _, _, rfl, rfl, by walk_at "hp", by walk_at "ix", ?_⟩
  | refine ⟨_, _, rfl, Or.inl (by exact SqL.of (by walk_at "hp")), ?_⟩
  | refine ⟨_, _, rfl, Or.inr (by exact SqT.of (by walk_at "hp")), ?_⟩)
local macro_rules | `(tactic| walk_at "so") => `(tactic| first
  | refine ⟨_, _, _, _, _, rfl, by walk_at "hp", by assumption, by assumption, rfl, ?_⟩
  | refine ⟨_, _, _, _, rfl, by walk_at "hp", by assumption, by assumption, Nat.le_of_ble_eq_true rfl, ?_⟩
  | refine ⟨_, _, _, rfl, by walk_at "hp", rfl, ?_⟩
  | walk_at "st")
local macro_rules | `(tactic| walk_at "ro") => `(tactic| repeat walk_at "so")
local macro_rules | `(tactic| walk_at "run") => `(tactic| repeat walk_at "st")

/-! ### literals -/
def Lit (te : TE) (d : PyData) : Prop := ∀ σ H Q, (∀ v H', Same H H' → Dt H' v d → Q v H') → te σ H Q
def LitAll (ta : TA) (ds : List PyData) : Prop := ∀ σ H Q, (∀ vs H', Same H H' → DtAll H' vs ds → Q vs H') → ta σ H Q
theorem lit_int (i : Int) : Lit (tC (.int i)) (.int i) := fun _ H _ k => k _ H (Same.refl H) (.int i)
theorem lit_bl (i : Bool) : Lit (tC (.bl i)) (.bool i) := fun _ H _ k => k _ H (Same.refl H) (.bl i)
theorem lit_str (i : Str) : Lit (tC (.str i)) (.str i) := fun _ H _ k => k _ H (Same.refl H) (.str i)
theorem lit_non : Lit (tC .non) .none := fun _ H _ k => k _ H (Same.refl H) .non
theorem lit_nil : LitAll tNil [] := fun _ H _ k => k _ H (Same.refl H) .nil
theorem lit_cons {te : TE} {ta : TA} {d : PyData} {ds : List PyData} (h : Lit te d) (hs : LitAll ta ds) : LitAll (tCons te ta) (d :: ds) := fun σ H _ k =>
  h σ H _ fun v H1 s1 d1 => hs σ H1 _ fun vs H2 s2 d2 => k _ H2 (s1.trans s2) (.cons (d1.same s2) d2)
theorem lit_tup {ta : TA} {ds : List PyData} (hs : LitAll ta ds) (hz : Nat.ble ds.length 100 = true := by rfl) : Lit (tTup ta) (.tuple ds) := fun σ H _ k =>
  hs σ H _ fun vs H1 s1 d1 => ⟨szl (by rw [d1.len]; exact hz), fun p hp => k _ _ (s1.trans (Same.new hp)) (Dt.new d1 hp)⟩
theorem lit_lst {ta : TA} {ds : List PyData} (hs : LitAll ta ds) (hz : Nat.ble ds.length 100 = true := by rfl) : Lit (tLst ta) (.list ds) := fun σ H _ k =>
  hs σ H _ fun vs H1 s1 d1 => ⟨szl (by rw [d1.len]; exact hz), fun p hp => k _ _ (s1.trans (Same.new hp)) (.lst upd_same (d1.same (Same.new hp)))⟩
theorem go_lit {te : TE} {d : PyData} {σ : L2.St} {H : Hp} {Q : VK} (h : Lit te d) (k : ∀ v H', Same H H' → Dt H' v d → Q v H') : te σ H Q := h σ H Q k
theorem go_set {te : TE} {i : Nat} {s : L2.TS} {D : Ends} {d : PyData} {σ : L2.St} {H : Hp} (h : Lit te d) (k : ∀ v H', Same H H' → Dt H' v d → s D (σ.set i (some v)) H') : tSeq (tAsg te (gName i)) s D σ H := h σ H _ k
theorem go_tup {ta : TA} {ds : List PyData} {σ : L2.St} {H : Hp} {Q : VK} (h : Lit (tTup ta) (.tuple ds)) (k : ∀ v H', Same H H' → Dt H' v (.tuple ds) → Q v H') : tTup ta σ H Q := h σ H Q k
theorem go_lst {ta : TA} {ds : List PyData} {σ : L2.St} {H : Hp} {Q : VK} (h : Lit (tLst ta) (.list ds)) (k : ∀ v H', Same H H' → Dt H' v (.list ds) → Q v H') : tLst ta σ H Q := h σ H Q k
def e0 : PyData := .tuple []
def cl (a b c d : PyData) : PyData := .tuple [a, b, c, d]
theorem sh_kd (k : Option Nat) : SeqAt.shaped (kdD k) = true := by
  cases k
  · exact sh_str _
  · exact sh_int _
theorem clD_fit (c : Cl) : ClFit (clD c) := by
  obtain ⟨rows, s, m, k⟩ := c
  intro g s' m' k' e
  unfold clD at e
  cases e
  refine ⟨sh_kd k, fun a b e => ?_⟩
  cases m with
  | inl n => cases e
  | inr i => cases e; exact sh_str _
theorem cls_tonly : ∀ cs : List Cl, tonlyAll (cs.map clD) = true
  | [] => rfl
  | c :: cs => by
    show (tonly (clD c) && tonlyAll (cs.map clD)) = true
    rw [clD_tonly, cls_tonly cs]; rfl
theorem isI_nat {n lo hi : Nat} (h1 : lo ≤ n) (h2 : n ≤ hi) : isI (.int (n : Int)) (lo : Int) (hi : Int) = true := by
  show (decide ((lo : Int) ≤ (n : Int)) && decide ((n : Int) ≤ (hi : Int))) = true
  rw [decide_eq_true (by omega), decide_eq_true (by omega)]; rfl
theorem isMn_ok {m : Nat ⊕ Nat} {s : Nat} (h1 : ∀ n, m = .inl n → 1 ≤ n ∧ n + s ≤ 8) (h2 : ∀ i, m = .inr i → i < 8) : isMn (mnD m) (s : Int) = true := by
  cases m with
  | inl n =>
    obtain ⟨a, b⟩ := h1 n rfl
    show (decide ((1 : Int) ≤ (n : Int)) && decide ((n : Int) ≤ 8 - (s : Int))) = true
    rw [decide_eq_true (by omega), decide_eq_true (by omega)]; rfl
  | inr i =>
    have := h2 i rfl
    show (PyData.eqv (.str "word") (.str "word") && isI (.int (i : Int)) (0 : Nat) (7 : Nat)) = true
    rw [isI_nat (Nat.zero_le _) (by omega)]; decide +kernel
theorem gdsOk_ok {rows : List Row3} (h4 : rows.length ≤ 4) (h : ∀ r ∈ rows, r.1 < 8 ∧ r.2.1 ≤ 4294967295 ∧ r.2.2 ≤ 4294967295) : gdsOk (.tuple (rows.map rowD)) = true := by
  show (decide ((rows.map rowD).length ≤ 4) && (rows.map rowD).all isGd) = true
  rw [decide_eq_true (by rw [List.length_map]; exact h4), Bool.true_and]
  refine List.all_eq_true.mpr fun d hd => ?_
  obtain ⟨r, hr, rfl⟩ := List.mem_map.mp hd
  obtain ⟨a, b, c⟩ := h r hr
  show (isI (.int (r.1 : Int)) (0 : Nat) (7 : Nat) && (isI (.int (r.2.1 : Int)) (0 : Nat) (4294967295 : Nat) && isI (.int (r.2.2 : Int)) (0 : Nat) (4294967295 : Nat))) = true
  rw [isI_nat (Nat.zero_le _) (by omega), isI_nat (Nat.zero_le _) b, isI_nat (Nat.zero_le _) c]; rfl
theorem isCl_ok {c : Cl} (h : ClOk c) (n : Int) : isCl n (clD c) = isKd (kdD c.2.2.2) n := by
  show (gdsOk (.tuple (c.1.map rowD)) && (isI (.int (c.2.1 : Int)) (0 : Nat) (7 : Nat) && (isMn (mnD c.2.2.1) (c.2.1 : Int) && isKd (kdD c.2.2.2) n))) = _
  have := h.st
  rw [gdsOk_ok h.g4 h.gr, isI_nat (Nat.zero_le _) (by omega), isMn_ok h.m1 h.m2]; rfl
theorem kd3 {k : Option Nat} (h : k = none ∨ k = some 0 ∨ k = some 2) : isKd (kdD k) 3 = true := by rcases h with rfl | rfl | rfl <;> decide +kernel
theorem kd2 {k : Option Nat} (h : k = none ∨ k = some 0 ∨ k = some 2) : isKd (kdD k) 2 = !decide (k = some 2) := by rcases h with rfl | rfl | rfl <;> decide +kernel
theorem kdE {k : Option Nat} (h : k = none ∨ k = some 0 ∨ k = some 2) : PyData.eqv (kdD k) (.int 2) = decide (k = some 2) := by rcases h with rfl | rfl | rfl <;> decide +kernel
theorem sh_run (cs : List Cl) (ws : List Nat) (B own : Nat) : SeqAt.shaped (runD cs ws B own) = true := by
  unfold runD
  split
  · refine (Sh.tup (n := 1) fun d hd => ?_).ok
    obtain ⟨o, _, rfl⟩ := List.mem_map.mp hd
    exact Sh.tup (n := 0) fun d hd => by
      simp only [List.mem_cons, List.not_mem_nil, or_false] at hd
      rcases hd with rfl | rfl <;> exact Sh.int 0 _
  · exact (Sh.none 0).ok
/-! ### the types -/
def pgD (cs : List Cl) : PyData := .tuple (cs.map clD)
structure PgOk (cs : List Cl) : Prop where
  c4 : cs.length ≤ 4
  ok : ∀ c ∈ cs, ClOk c
structure Ty (C : Addr) (H : Hp) (x L R : Addr) (B : Nat) (ps : List (List Cl)) (rs : List Nat) : Prop where
  ins : ∃ dx, H x = some (.ins C dx [("_blocks", .int (B : Int)), ("_programs", .ref L), ("_registered", .ref R)])
  hL : ∃ xs, H L = some (.lst xs) ∧ DtAll H xs (ps.map pgD)
  hR : H R = some (.lst (rs.map vN))
  LR : L ≠ R
theorem Ty.same {C : Addr} {H H' : Hp} {x L R : Addr} {B : Nat} {ps : List (List Cl)} {rs : List Nat} (t : Ty C H x L R B ps rs) (s : Same H H') : Ty C H' x L R B ps rs := by
  obtain ⟨⟨dx, h1⟩, ⟨xs, h2, h3⟩, h4, h5⟩ := t
  exact ⟨⟨dx, s _ _ h1⟩, ⟨xs, s _ _ h2, h3.same s⟩, s _ _ h4, h5⟩
theorem pgs_tonly : ∀ ps : List (List Cl), tonlyAll (ps.map pgD) = true
  | [] => rfl
  | p :: ps => by
    show (tonlyAll (p.map clD) && tonlyAll (ps.map pgD)) = true
    rw [cls_tonly, pgs_tonly ps]; rfl
def spCnt (C : Addr) : Sp := fun vs H Q _ => ∃ x L R B ps rs, vs = [.ref x] ∧ Ty C H x L R B ps rs ∧ Q (.int ((2 + ps.length : Nat) : Int)) H
def spKnown (C : Addr) : Sp := fun vs H Q _ => ∃ x L R B ps rs v d, vs = [.ref x, v] ∧ Ty C H x L R B ps rs ∧ Dt H v d ∧ Q (.bl (isI d 0 (((2 + ps.length : Nat) : Int) - 1))) H
def spProgs (C : Addr) : Sp := fun vs H Q _ => ∃ x L R B ps rs, vs = [.ref x] ∧ Ty C H x L R B ps rs ∧ ∀ v H', Same H H' → Dt H' v (.list (ps.map pgD)) → Q v H'
def rootD (ws : List Nat) (B n : Nat) : PyData := if ws.getD 0 0 = 0 then .tuple [] else if (decide (4 ≤ ws.getD 0 0) && decide (ws.getD 0 0 < B)) && (decide (ws.getD 1 0 < n) && !decide (ws.getD 1 0 = 1)) then .tuple [oD (ws.getD 0 0, ws.getD 1 0)] else .none
def spRoot (C : Addr) : Sp := fun vs H Q _ => ∃ x L R B ps rs vw ws, vs = [.ref x, vw] ∧ Ty C H x L R B ps rs ∧ Dt H vw (pD ws) ∧ ws.length = 8 ∧ ∀ v H', Same H H' → Dt H' v (rootD ws B (2 + ps.length)) → Q v H'
def spLRoot : Sp := fun vs H Q _ => ∃ vw ws, ∃ B n : Nat, vs = [vw, .int B, .int n] ∧ Dt H vw (pD ws) ∧ ws.length = 8 ∧ ∀ v H', Same H H' → Dt H' v (rootD ws B n) → Q v H'
def ownD (n : Nat) (ps : List (List Cl)) (ws : List Nat) (B : Nat) : PyData := if n = 0 then .tuple [] else if n = 1 then rootD ws B (2 + ps.length) else runD (ps.getD (n - 2) []) ws B n
def spOwned (C : Addr) : Sp := fun vs H Q _ => ∃ x L R B ps rs vw ws, ∃ n : Nat, vs = [.ref x, .int n, vw] ∧ Ty C H x L R B ps rs ∧ (∀ p ∈ ps, PgOk p) ∧ n < 2 + ps.length ∧ Dt H vw (pD ws) ∧ ws.length = 8 ∧ ∀ v H', Same H H' → Dt H' v (ownD n ps ws B) → Q v H'
section
variable {P : Program} {w : World} {K : PySem.W.Frag} {mg : Str → Option Value} {base : Heap} {C_Types C_NotValid : Addr}
abbrev s_Types_count : Stmt := inClass (topS 31) 3
abbrev ns_Types_count : List Str := ["self"]
theorem sc_Types_count : FnScope ns_Types_count ["self"] (defScope s_Types_count) := ⟨rfl, rfl, rfl, by decide +kernel, rfl, by decide +kernel, by decide +kernel⟩

theorem ok_Types_count {f : Addr} {fd : FuncData} (F : Fun K "count" "Types.count" s_Types_count f fd) (T : Txt K mg C_Types C_NotValid) : FnOk P w K mg base CX0 1 f fd ["self"] (spCnt C_Types) := by
  have ho_Types := T.o_Types; have hn_Types__blocks := T.n_Types__blocks; have hn_Types__programs := T.n_Types__programs; have hn_Types__registered := T.n_Types__registered
  refine F.ok sc_Types_count (fun vs H Q E h => ?_) (fun cdv A outer s H vs Q E hr h => ?_)
  · obtain ⟨x, L, R, B, ps, rs, rfl, _⟩ := h
    rfl
  · obtain ⟨x, L, R, B, ps, rs, rfl, ⟨⟨dx, h1⟩, ⟨xs, h2, h3⟩, h4, h5⟩, k⟩ := h
    have xl : xs.length = ps.length := by rw [h3.len, List.length_map]
    refine ⟨_, (pss_one (ps_ret (pe_op op_add (pe_gint (by rfl) T.c__FIRST_OF_PROGRAMS) (pe_callB (kLen K) (by rfl) T.b_len (by decide +kernel) (pa_cons (kFld K (pv 0) rfl) pa_nil))))), ?_⟩
    walk_at "ro"
    rw [show ((2 + ps.length : Nat) : Int) = 2 + (xs.length : Int) by omega] at k
    exact k
abbrev s_Types_is_known : Stmt := inClass (topS 31) 2
abbrev ns_Types_is_known : List Str := ["self", "number"]
theorem sc_Types_is_known : FnScope ns_Types_is_known ["self", "number"] (defScope s_Types_is_known) := ⟨rfl, rfl, rfl, by decide +kernel, rfl, by decide +kernel, by decide +kernel⟩

theorem ok_Types_is_known {f : Addr} {fd : FuncData} (F : Fun K "is_known" "Types.is_known" s_Types_is_known f fd) (T : Txt K mg C_Types C_NotValid) (D_is_index : Dfn P w K mg base CX0 3 "is_index" ["value", "many"] spIdx) (D_Types_count : Mth P w K mg base CX0 1 C_Types "count" ["self"] (spCnt C_Types)) : FnOk P w K mg base CX0 4 f fd ["self", "number"] (spKnown C_Types) := by
  have ho_Types := T.o_Types; have hn_Types__blocks := T.n_Types__blocks; have hn_Types__programs := T.n_Types__programs; have hn_Types__registered := T.n_Types__registered
  refine F.ok sc_Types_is_known (fun vs H Q E h => ?_) (fun cdv A outer s H vs Q E hr h => ?_)
  · obtain ⟨x, L, R, B, ps, rs, v, d, rfl, _⟩ := h
    rfl
  · obtain ⟨x, L, R, B, ps, rs, v, d, rfl, ty, hd, k⟩ := h
    obtain ⟨dx, h1⟩ := ty.ins
    refine ⟨_, (pss_one (ps_ret (pe_dcall D_is_index (hr.mono (by decide)) (by rfl) pass0 (pa_cons (pv 1) (pa_cons (pe_dmeth0 (pv 0) D_Types_count (hr.mono (by decide)) pass0 ) pa_nil))))), ?_⟩
    walk_at "ro"
    refine ⟨x, L, R, B, ps, rs, rfl, ty, ?_⟩
    walk_at "ro"
    exact ⟨_, d, _, rfl, hd, k⟩
abbrev s_Types_programs : Stmt := inClass (topS 31) 5
abbrev ns_Types_programs : List Str := ["self"]
theorem sc_Types_programs : FnScope ns_Types_programs ["self"] (defScope s_Types_programs) := ⟨rfl, rfl, rfl, by decide +kernel, rfl, by decide +kernel, by decide +kernel⟩

theorem ok_Types_programs {f : Addr} {fd : FuncData} (F : Fun K "programs" "Types.programs" s_Types_programs f fd) (T : Txt K mg C_Types C_NotValid) : FnOk P w K mg base CX0 1 f fd ["self"] (spProgs C_Types) := by
  have ho_Types := T.o_Types; have hn_Types__blocks := T.n_Types__blocks; have hn_Types__programs := T.n_Types__programs; have hn_Types__registered := T.n_Types__registered
  refine F.ok sc_Types_programs (fun vs H Q E h => ?_) (fun cdv A outer s H vs Q E hr h => ?_)
  · obtain ⟨x, L, R, B, ps, rs, rfl, _⟩ := h
    rfl
  · obtain ⟨x, L, R, B, ps, rs, rfl, ⟨⟨dx, h1⟩, ⟨xs, h2, h3⟩, h4, h5⟩, k⟩ := h
    refine ⟨_, (pss_one (ps_ret (pe_callTy (kListOf K) (by rfl) T.b_list (by decide +kernel) (pa_cons (kFld K (pv 0) rfl) pa_nil)))), ?_⟩
    walk_at "ro"
    exact fun p hp => k _ _ (Same.new hp) (.lst upd_same (h3.same (Same.new hp)))
abbrev s_law_root : Stmt := topS 36
abbrev ns_law_root : List Str := ["words", "blocks", "count"]
theorem sc_law_root : FnScope ns_law_root ["words", "blocks", "count"] (defScope s_law_root) := ⟨rfl, rfl, rfl, by decide +kernel, rfl, by decide +kernel, by decide +kernel⟩

theorem ok_law_root {f : Addr} {fd : FuncData} (F : Fun K "_law_root" "_law_root" s_law_root f fd) (T : Txt K mg C_Types C_NotValid) : FnOk P w K mg base CX0 1 f fd ["words", "blocks", "count"] spLRoot := by
  refine F.ok sc_law_root (fun vs H Q E h => ?_) (fun cdv A outer s H vs Q E hr h => ?_)
  · obtain ⟨vw, ws, B, n, rfl, _⟩ := h
    rfl
  · obtain ⟨vw, ws, B, n, rfl, hw, h8, k⟩ := h
    obtain ⟨b, rfl, hb⟩ := pD_open hw
    refine ⟨_, (pss_cons (ps_if (pt_cmpR op_eq (pe_ix (kIxT K) (pv 0) pe_int (fun _ _ => rfl)) pe_int (nomark _)) (pss_one (ps_ret (pe_tup pa_nil))) pss_nil)
  (pss_cons (ps_if (PW.pt (pw_or (pt_cmpR op_lt (pe_ix (kIxT K) (pv 0) pe_int (fun _ _ => rfl)) pe_int (nomark _)) (pw_or (pt_cmpR op_ge (pe_ix (kIxT K) (pv 0) pe_int (fun _ _ => rfl)) (pv 1) (nomark _)) (pw_or (pt_cmpR op_eq (pe_ix (kIxT K) (pv 0) pe_int (fun _ _ => rfl)) pe_int (nomark _)) (pw_or1 (pt_cmpR op_ge (pe_ix (kIxT K) (pv 0) pe_int (fun _ _ => rfl)) (pv 2) (nomark _))))))) (pss_one (ps_ret pe_non)) pss_nil)
  (pss_one (ps_ret (pe_tup (pa_cons (pe_tup (pa_cons (pe_ix (kIxT K) (pv 0) pe_int (fun _ _ => rfl)) (pa_cons (pe_ix (kIxT K) (pv 0) pe_int (fun _ _ => rfl)) pa_nil))) pa_nil)))))), ?_⟩
    have g0 := getVN (ws := ws) (i := 0) (by omega)
    have g1 := getVN (ws := ws) (i := 1) (by omega)
    unfold rootD at k
    generalize ws.getD 0 0 = w0 at g0 k
    generalize ws.getD 1 0 = w1 at g1 k
    walk_at "run"
    refine ⟨_, _, _, _, rfl, rfl, SqT.of hb, atC 0 rfl g0, ?_⟩
    walk_at "run"
    refine iteD (fun e => ?_) (fun e => ?_)
    · have z : w0 = 0 := by
        have q : ((w0 : Nat) : Int) = 0 := by injection e
        omega
      rw [if_pos z] at k
      exact ⟨szl rfl, fun p hp => k _ _ (Same.new hp) (Dt.new .nil hp)⟩
    · have z : ¬ w0 = 0 := fun q => e (by rw [q]; rfl)
      rw [if_neg z] at k
      have bad : ((decide (4 ≤ w0) && decide (w0 < B)) && (decide (w1 < n) && !decide (w1 = 1))) = false → Q .non H := by
        intro q
        rw [q] at k
        exact k _ H (Same.refl H) .non
      walk_at "run"
      refine ⟨_, _, _, _, rfl, rfl, SqT.of hb, atC 0 rfl g0, ?_⟩
      walk_at "run"
      refine iteD (fun e1 => ?_) (fun e1 => ?_)
      · exact iteT (bad (by rw [decide_eq_false (by omega : ¬ 4 ≤ w0)]; rfl))
      · walk_at "run"
        refine ⟨_, _, _, _, rfl, rfl, SqT.of hb, atC 0 rfl g0, ?_⟩
        walk_at "run"
        refine iteD (fun e2 => ?_) (fun e2 => ?_)
        · exact iteT (bad (by rw [decide_eq_false (by omega : ¬ w0 < B), Bool.and_false]; rfl))
        · walk_at "run"
          refine ⟨_, _, _, _, rfl, rfl, SqT.of hb, atC 1 rfl g1, ?_⟩
          walk_at "run"
          refine iteD (fun e3 => ?_) (fun e3 => ?_)
          · have z1 : w1 = 1 := by
              have q : ((w1 : Nat) : Int) = 1 := by injection e3
              omega
            exact iteT (bad (by rw [decide_eq_true z1]; simp))
          · have z1 : ¬ w1 = 1 := fun q => e3 (by rw [q]; rfl)
            walk_at "run"
            refine ⟨_, _, _, _, rfl, rfl, SqT.of hb, atC 1 rfl g1, ?_⟩
            walk_at "run"
            refine iteD (fun e4 => ?_) (fun e4 => ?_)
            · exact bad (by rw [decide_eq_false (by omega : ¬ w1 < n)]; simp)
            · have good : ((decide (4 ≤ w0) && decide (w0 < B)) && (decide (w1 < n) && !decide (w1 = 1))) = true := by
                rw [decide_eq_true (by omega : 4 ≤ w0), decide_eq_true (by omega : w0 < B), decide_eq_true (by omega : w1 < n), decide_eq_false z1]; rfl
              rw [good] at k
              walk_at "run"
              refine ⟨_, _, _, _, rfl, rfl, SqT.of hb, atC 0 rfl g0, ?_⟩
              walk_at "run"
              refine ⟨_, _, _, _, rfl, rfl, SqT.of hb, atC 1 rfl g1, ?_⟩
              refine ⟨szl rfl, fun p hp => ⟨szl rfl, fun q hq => ?_⟩⟩
              refine k _ _ ((Same.new hp).trans (Same.new hq)) (.tup upd_same (.cons (.tup (Same.new hq _ _ upd_same) (.cons (.int _) (.cons (.int _) .nil))) .nil))
abbrev s_Types_owned_by_root : Stmt := inClass (topS 31) 6
abbrev ns_Types_owned_by_root : List Str := ["self", "words", "block", "kind"]
theorem sc_Types_owned_by_root : FnScope ns_Types_owned_by_root ["self", "words"] (defScope s_Types_owned_by_root) := ⟨rfl, rfl, rfl, by decide +kernel, rfl, by decide +kernel, by decide +kernel⟩

theorem ok_Types_owned_by_root {f : Addr} {fd : FuncData} (F : Fun K "_owned_by_root" "Types._owned_by_root" s_Types_owned_by_root f fd) (T : Txt K mg C_Types C_NotValid) (D_can_be_owned : Dfn P w K mg base CX0 1 "_can_be_owned" ["block", "blocks"] spCan) (D_Types_is_known : Mth P w K mg base CX0 4 C_Types "is_known" ["self", "number"] (spKnown C_Types)) : FnOk P w K mg base CX0 5 f fd ["self", "words"] (spRoot C_Types) := by
  have ho_Types := T.o_Types; have hn_Types__blocks := T.n_Types__blocks; have hn_Types__programs := T.n_Types__programs; have hn_Types__registered := T.n_Types__registered
  refine F.ok sc_Types_owned_by_root (fun vs H Q E h => ?_) (fun cdv A outer s H vs Q E hr h => ?_)
  · obtain ⟨x, L, R, B, ps, rs, vw, ws, rfl, _⟩ := h
    rfl
  · obtain ⟨x, L, R, B, ps, rs, vw, ws, rfl, ty, hw, h8, k⟩ := h
    obtain ⟨b, rfl, hb⟩ := pD_open hw
    obtain ⟨dx, h1⟩ := ty.ins
    refine ⟨_, (pss_cons (ps_par (i := 2) (j := 3) (by rfl) sc_Types_owned_by_root.nd rfl rfl (by decide) rfl rfl (pa_cons (pe_ix (kIxT K) (pv 1) pe_int (fun _ _ => rfl)) (pa_cons (pe_ix (kIxT K) (pv 1) pe_int (fun _ _ => rfl)) pa_nil)) (by rfl))
  (pss_cons (ps_if (pt_cmpR op_eq (pv 2) pe_int (nomark _)) (pss_one (ps_ret (pe_tup pa_nil))) pss_nil)
  (pss_cons (ps_if (PW.pt (pw_or (pt_not (pt_val (pe_dcall D_can_be_owned (hr.mono (by decide)) (by rfl) pass0 (pa_cons (pv 2) (pa_cons (kFld K (pv 0) rfl) pa_nil))))) (pw_or (pt_not (pt_val (pe_dmeth (pv 0) D_Types_is_known (hr.mono (by decide)) pass0 (pa_cons (pv 3) pa_nil)))) (pw_or1 (pt_cmpR op_eq (pv 3) (pe_gint (by rfl) T.c_ROOT) (nomark _)))))) (pss_one (ps_ret pe_non)) pss_nil)
  (pss_one (ps_ret (pe_tup (pa_cons (pe_tup (pa_cons (pv 2) (pa_cons (pv 3) pa_nil))) pa_nil))))))), ?_⟩
    have g0 := getVN (ws := ws) (i := 0) (by omega)
    have g1 := getVN (ws := ws) (i := 1) (by omega)
    unfold rootD at k
    generalize ws.getD 0 0 = w0 at g0 k
    generalize ws.getD 1 0 = w1 at g1 k
    walk_at "ro"
    refine ⟨_, _, _, _, rfl, rfl, SqT.of hb, atC 0 rfl g0, ?_⟩
    walk_at "ro"
    refine ⟨_, _, _, _, rfl, rfl, SqT.of hb, atC 1 rfl g1, ?_⟩
    refine ⟨_, _, rfl, ?_⟩
    walk_at "ro"
    refine iteD (fun e => ?_) (fun e => ?_)
    · have z : w0 = 0 := by
        have q : ((w0 : Nat) : Int) = 0 := by injection e
        omega
      rw [if_pos z] at k
      exact ⟨szl rfl, fun p hp => k _ _ (Same.new hp) (Dt.new .nil hp)⟩
    · have z : ¬ w0 = 0 := fun q => e (by rw [q]; rfl)
      rw [if_neg z] at k
      walk_at "ro"
      refine ⟨w0, B, rfl, ?_⟩
      refine ⟨_, rfl, ?_⟩
      cases e1 : (decide (4 ≤ w0) && decide (w0 < B)) with
      | false =>
        rw [e1, Bool.false_and] at k
        exact iteT (k _ H (Same.refl H) .non)
      | true =>
        rw [e1, Bool.true_and] at k
        refine iteF ?_
        walk_at "ro"
        refine ⟨x, L, R, B, ps, rs, _, .int (w1 : Int), rfl, ty, .int _, ?_⟩
        refine ⟨_, rfl, ?_⟩
        have ei : isI (.int (w1 : Int)) 0 (((2 + ps.length : Nat) : Int) - 1) = decide (w1 < 2 + ps.length) := by
          show (decide ((0 : Int) ≤ (w1 : Int)) && decide ((w1 : Int) ≤ ((2 + ps.length : Nat) : Int) - 1)) = _
          rw [decide_eq_true (by omega), Bool.true_and]
          by_cases q : w1 < 2 + ps.length
          · rw [decide_eq_true q, decide_eq_true (by omega)]
          · rw [decide_eq_false q, decide_eq_false (by omega)]
        rw [ei]
        cases e2 : decide (w1 < 2 + ps.length) with
        | false =>
          rw [e2, Bool.false_and] at k
          exact iteT (k _ H (Same.refl H) .non)
        | true =>
          rw [e2, Bool.true_and] at k
          refine iteF ?_
          walk_at "ro"
          refine iteD (fun e3 => ?_) (fun e3 => ?_)
          · have z1 : w1 = 1 := by
              have q : ((w1 : Nat) : Int) = 1 := by injection e3
              omega
            rw [decide_eq_true z1] at k
            exact k _ H (Same.refl H) .non
          · have z1 : ¬ w1 = 1 := fun q => e3 (by rw [q]; rfl)
            rw [decide_eq_false z1] at k
            refine ⟨_, rfl, _, rfl, szl rfl, fun p hp => ⟨szl rfl, fun q hq => ?_⟩⟩
            refine k _ _ ((Same.new hp).trans (Same.new hq)) (.tup upd_same (.cons (.tup (Same.new hq _ _ upd_same) (.cons (.int _) (.cons (.int _) .nil))) .nil))
abbrev s_Types_owned : Stmt := inClass (topS 31) 4
abbrev ns_Types_owned : List Str := ["self", "number", "words"]
theorem sc_Types_owned : FnScope ns_Types_owned ["self", "number", "words"] (defScope s_Types_owned) := ⟨rfl, rfl, rfl, by decide +kernel, rfl, by decide +kernel, by decide +kernel⟩

theorem ok_Types_owned {f : Addr} {fd : FuncData} (F : Fun K "owned" "Types.owned" s_Types_owned f fd) (T : Txt K mg C_Types C_NotValid) (D_Types_owned_by_root : Mth P w K mg base CX0 5 C_Types "_owned_by_root" ["self", "words"] (spRoot C_Types)) (D_run_program : Dfn P w K mg base CX0 2 "run_program" ["program", "words", "blocks", "own"] spRun) : FnOk P w K mg base CX0 6 f fd ["self", "number", "words"] (spOwned C_Types) := by
  have ho_Types := T.o_Types; have hn_Types__blocks := T.n_Types__blocks; have hn_Types__programs := T.n_Types__programs; have hn_Types__registered := T.n_Types__registered
  refine F.ok sc_Types_owned (fun vs H Q E h => ?_) (fun cdv A outer s H vs Q E hr h => ?_)
  · obtain ⟨x, L, R, B, ps, rs, vw, ws, n, rfl, _⟩ := h
    rfl
  · obtain ⟨x, L, R, B, ps, rs, vw, ws, n, rfl, ty, pok, hn, hw, h8, k⟩ := h
    obtain ⟨⟨dx, h1⟩, ⟨xs, h2, h3⟩, h4, h5⟩ := ty
    refine ⟨_, (pss_cons (ps_if (pt_cmpR op_eq (pv 1) (pe_gint (by rfl) T.c_DATA) (nomark _)) (pss_one (ps_ret (pe_tup pa_nil))) pss_nil)
  (pss_cons (ps_if (pt_cmpR op_eq (pv 1) (pe_gint (by rfl) T.c_ROOT) (nomark _)) (pss_one (ps_ret (pe_dmeth (pv 0) D_Types_owned_by_root (hr.mono (by decide)) pass0 (pa_cons (pv 2) pa_nil)))) pss_nil)
  (pss_one (ps_ret (pe_dcall D_run_program (hr.mono (by decide)) (by rfl) pass0 (pa_cons (pe_ix (kIxL K) (kFld K (pv 0) rfl) (pe_op op_sub (pv 1) (pe_gint (by rfl) T.c__FIRST_OF_PROGRAMS)) (fun _ _ => rfl)) (pa_cons (pv 2) (pa_cons (kFld K (pv 0) rfl) (pa_cons (pv 1) pa_nil))))))))), ?_⟩
    unfold ownD at k
    walk_at "ro"
    refine iteD (fun e => ?_) (fun e => ?_)
    · have z : n = 0 := by
        have q : ((n : Nat) : Int) = 0 := by injection e
        omega
      rw [if_pos z] at k
      exact ⟨szl rfl, fun p hp => k _ _ (Same.new hp) (Dt.new .nil hp)⟩
    · have z : ¬ n = 0 := fun q => e (by rw [q]; rfl)
      rw [if_neg z] at k
      walk_at "ro"
      refine iteD (fun e => ?_) (fun e => ?_)
      · have z : n = 1 := by
          have q : ((n : Nat) : Int) = 1 := by injection e
          omega
        rw [if_pos z] at k
        walk_at "ro"
        exact ⟨x, L, R, B, ps, rs, vw, ws, rfl, ⟨⟨dx, h1⟩, ⟨xs, h2, h3⟩, h4, h5⟩, hw, h8, k⟩
      · have z : ¬ n = 1 := fun q => e (by rw [q]; rfl)
        rw [if_neg z] at k
        have hi : n - 2 < ps.length := by omega
        have hd : (ps.map pgD)[n - 2]? = some (pgD ps[n - 2]) := by rw [List.getElem?_map, List.getElem?_eq_getElem hi]; rfl
        obtain ⟨v, hv, hvd⟩ := h3.get hd
        have eg : ps.getD (n - 2) [] = ps[n - 2] := by rw [List.getD_eq_getElem?_getD, List.getElem?_eq_getElem hi]; rfl
        rw [eg] at k
        have pk := pok _ (List.getElem_mem hi)
        walk_at "ro"
        refine ⟨_, _, _, _, rfl, rfl, SqL.of h2, atC (n - 2) (by omega) hv, ?_⟩
        walk_at "ro"
        exact ⟨v, vw, _, ws, B, n, rfl, hvd, hw, h8, by have := pk.c4; omega, pk.ok, k⟩
abbrev s_Types_init : Stmt := inClass (topS 31) 0
abbrev ns_Types_init : List Str := ["self", "blocks"]
theorem sc_Types_init : FnScope ns_Types_init ["self", "blocks"] (defScope s_Types_init) := ⟨rfl, rfl, rfl, by decide +kernel, rfl, by decide +kernel, by decide +kernel⟩

def spTInit (C : Addr) : Sp := fun vs H Q _ => ∃ x dx, ∃ B : Nat, vs = [.ref x, .int B] ∧ H x = some (.ins C dx []) ∧ ∀ L R H', Ty C H' x L R B [] [0, 0, 0, 0] → H L = none → H R = none → Chg x H H' → Q .non H'
theorem ok_Types_init {f : Addr} {fd : FuncData} (F : Fun K "__init__" "Types.__init__" s_Types_init f fd) (T : Txt K mg C_Types C_NotValid) : FnOk P w K mg base CX0 1 f fd ["self", "blocks"] (spTInit C_Types) := by
  have ho_Types := T.o_Types; have hn_Types__blocks := T.n_Types__blocks; have hn_Types__programs := T.n_Types__programs; have hn_Types__registered := T.n_Types__registered
  refine F.ok sc_Types_init (fun vs H Q E h => ?_) (fun cdv A outer s H vs Q E hr h => ?_)
  · obtain ⟨x, dx, B, rfl, _⟩ := h
    rfl
  · obtain ⟨x, dx, B, rfl, hx, k⟩ := h
    refine ⟨_, (pss_cons (kSFld K (pv 0) (pv 1) rfl)
  (pss_cons (kSFld K (pv 0) (pe_lst pa_nil) rfl)
  (pss_one (kSFld K (pv 0) (pe_op op_rep (pe_lst (pa_cons pe_int pa_nil)) (pe_gint (by rfl) T.c_ENVIRONMENTS)) rfl)))), ?_⟩
    walk_at "ro"
    refine ⟨szl rfl, fun L hL => ?_⟩
    have nxL : x ≠ L := ne_of_none upd_same hL
    have c1 : Chg x H (upd (upd H x (.ins C_Types dx (putF "_blocks" (.int (B : Int)) []))) L (.lst [])) := Chg.upd.trans (Same.chg (Same.new hL))
    have hx1 : upd (upd H x (.ins C_Types dx (putF "_blocks" (.int (B : Int)) []))) L (.lst []) x = some (.ins C_Types dx [("_blocks", .int (B : Int))]) := by rw [upd_ne nxL, upd_same]; rfl
    have hL1 : upd (upd H x (.ins C_Types dx (putF "_blocks" (.int (B : Int)) []))) L (.lst []) L = some (.lst []) := upd_same
    generalize upd (upd H x (.ins C_Types dx (putF "_blocks" (.int (B : Int)) []))) L (.lst []) = G1 at c1 hx1 hL1
    refine ⟨_, rfl, _, _, _, _, rfl, hx1, ho_Types, hn_Types__programs, Nat.le_of_ble_eq_true rfl, ?_⟩
    walk_at "ro"
    refine ⟨szl rfl, fun p hp => ?_⟩
    refine ⟨_, 4, _, rfl, rfl, upd_same, by decide, by decide, by decide, fun R hR => ?_⟩
    have c2 : Chg x H (upd G1 x (.ins C_Types dx (putF "_programs" (.ref L) [("_blocks", .int (B : Int))]))) := c1.trans Chg.upd
    have hx2 : upd G1 x (.ins C_Types dx (putF "_programs" (.ref L) [("_blocks", .int (B : Int))])) x = some (.ins C_Types dx [("_blocks", .int (B : Int)), ("_programs", .ref L)]) := by rw [upd_same]; rfl
    have hL2 : upd G1 x (.ins C_Types dx (putF "_programs" (.ref L) [("_blocks", .int (B : Int))])) L = some (.lst []) := by rw [upd_ne nxL.symm]; exact hL1
    generalize upd G1 x (.ins C_Types dx (putF "_programs" (.ref L) [("_blocks", .int (B : Int))])) = G2 at c2 hx2 hL2 hp hR
    have s3 := (Same.new (o := .lst [.int 0]) hp).trans (Same.new (o := .lst (List.replicate (Int.toNat 4) [V.int 0]).flatten) hR)
    have nxR : x ≠ R := ne_of_none (Same.new hp _ _ hx2) hR
    have nLR : L ≠ R := ne_of_none (Same.new hp _ _ hL2) hR
    refine ⟨_, rfl, _, _, _, _, rfl, s3 _ _ hx2, ho_Types, hn_Types__registered, Nat.le_of_ble_eq_true rfl, ?_⟩
    refine k L R _ ⟨⟨dx, upd_same⟩, ⟨[], by rw [upd_ne nxL.symm]; exact s3 _ _ hL2, .nil⟩, by rw [upd_ne nxR.symm]; exact upd_same, nLR⟩ ?_ ?_ ((c2.trans (Same.chg s3)).trans Chg.upd)
    · refine none_of (Chg.upd (a := x)) nxL.symm hL
    · refine none_of c2 nxR.symm ?_
      exact (Same.new hp).free hR
end
end My

namespace My
open PySem L2
local macro_rules | `(tactic| walk_at "ne") => `(tactic| first | assumption | exact Ne.symm (by assumption) | exact ne_of_none (by assumption) (by assumption) | exact Ne.symm (ne_of_none (by assumption) (by assumption)))
local macro_rules | `(tactic| walk_at "hp") => `(tactic| first | assumption | with_reducible exact upd_same | (with_reducible refine Eq.trans (upd_ne ?_) ?_; rotate_left; walk_at "hp"; walk_at "ne"))
local macro_rules | `(tactic| walk_at "cnd") => `(tactic| first | omega | (show (0 : Int) < _; omega) | exact ⟨by omega, by omega⟩ | exact Or.inl ⟨by omega, by omega⟩ | exact Or.inr ⟨by omega, by omega⟩ | exact ⟨by omega, by omega, by decide⟩ | exact ⟨by omega, by omega, by omega⟩)
local macro_rules | `(tactic| walk_at "at") => `(tactic| first | exact atC 0 rfl rfl | exact atC 1 rfl rfl | exact atC 2 rfl rfl | exact atC 3 rfl rfl | exact atC 4 rfl rfl | exact atC 5 rfl rfl | exact atC 6 rfl rfl | exact atC 7 rfl rfl)
local macro_rules | `(tactic| walk_at "ix") => `(tactic| first | exact ixC 0 rfl (Nat.le_of_ble_eq_true rfl) | exact ixC 1 rfl (Nat.le_of_ble_eq_true rfl) | exact ixC 2 rfl (Nat.le_of_ble_eq_true rfl) | exact ixC 3 rfl (Nat.le_of_ble_eq_true rfl) | exact ixC 4 rfl (Nat.le_of_ble_eq_true rfl) | exact ixC 5 rfl (Nat.le_of_ble_eq_true rfl))
local macro_rules | `(tactic| walk_at "st") => `(tactic| first
  | refine ⟨_, rfl, ?_⟩
  | refine ⟨_, _, rfl, rfl, (by walk_at "cnd" : (_ : Prop)), ?_⟩
  | refine ⟨_, _, rfl, rfl, ?_⟩
  | refine ⟨rfl, ?_⟩
  | refine Or.inl ⟨_, rfl, ?_⟩
  | refine ⟨_, _, _, _, rfl, rfl, by exact SqL.of (by walk_at "hp"), by walk_at "at", ?_⟩
  | refine ⟨_, _, _, _, rfl, rfl, by exact SqT.of (by walk_at "hp"), by walk_at "at", ?_⟩
  | refine ⟨_, _, _, _, rfl, rfl, by walk_at "hp", by walk_at "ix", ?_⟩
  | refine ⟨_, _, rfl, Or.inl (by exact SqL.of (by walk_at "hp")), ?_⟩
  | refine ⟨_, _, rfl, Or.inr (by exact SqT.of (by walk_at "hp")), ?_⟩)
local macro_rules | `(tactic| walk_at "so") => `(tactic| first
  | refine ⟨_, _, _, _, _, rfl, by walk_at "hp", by assumption, by assumption, rfl, ?_⟩
  | refine ⟨_, _, _, _, rfl, by walk_at "hp", by assumption, by assumption, Nat.le_of_ble_eq_true rfl, ?_⟩
  | refine ⟨_, _, _, rfl, by walk_at "hp", rfl, ?_⟩
  | walk_at "st")
local macro_rules | `(tactic| walk_at "ro") => `(tactic| repeat walk_at "so")
local macro_rules | `(tactic| walk_at "run") => `(tactic| repeat walk_at "st")

def spEnv : Sp := fun vs H Q _ => ∃ v d, vs = [v] ∧ Dt H v d ∧ Q (.bl (isI d 0 3)) H
theorem units65 {k : Nat} {A : Around} (r : Room k A) : A.units + 65 < cLine := by have := r.un; omega
theorem kInD {X : Cx} (K : PySem.W.Frag) (hu : X.A.units + 65 < cLine) (h : X.K = K := by rfl) : OpR X (compareOp .In) (rInD K) := by subst h; exact op_inD hu
theorem kIndexD {X : Cx} (K : PySem.W.Frag) (hu : X.A.units + 65 < cLine) (h : X.K = K := by rfl) : MtR X "list.index" (rIndexD K) := by subst h; exact mt_indexD hu
def isIn (ps : List (List Cl)) (d : PyData) : Bool := (ps.map pgD).any fun z => PyData.eqv z d
def fst (ps : List (List Cl)) (d : PyData) : Nat := (ps.map pgD).findIdx fun z => PyData.eqv z d
def Chg2 (L R : Addr) (H H' : Hp) : Prop := ∀ b o, b ≠ L → b ≠ R → H b = some o → H' b = some o
theorem sh_cl (c : Cl) : Sh 4 (clD c) := by
  refine Sh.tup (n := 3) fun d hd => ?_
  simp only [List.mem_cons, List.not_mem_nil, or_false] at hd
  rcases hd with rfl | rfl | rfl | rfl
  · refine Sh.tup (n := 2) fun d hd => ?_
    obtain ⟨r, _, rfl⟩ := List.mem_map.mp hd
    refine Sh.tup (n := 1) fun d hd => ?_
    simp only [List.mem_cons, List.not_mem_nil, or_false] at hd
    rcases hd with rfl | rfl | rfl <;> exact Sh.int _ _
  · exact Sh.int _ _
  · cases c.2.2.1 with
    | inl n => exact Sh.int _ _
    | inr i =>
      refine Sh.tup (n := 2) fun d hd => ?_
      simp only [List.mem_cons, List.not_mem_nil, or_false] at hd
      rcases hd with rfl | rfl
      · exact ⟨by decide +kernel, by decide +kernel⟩
      · exact Sh.int _ _
  · cases c.2.2.2 with
    | none => exact ⟨by decide +kernel, by decide +kernel⟩
    | some n => exact Sh.int _ _
theorem sh_pg (cs : List Cl) : Sh 5 (pgD cs) := Sh.tup (n := 4) fun d hd => by
  obtain ⟨c, _, rfl⟩ := List.mem_map.mp hd
  exact sh_cl c
theorem sh_pgs (ps : List (List Cl)) : Sh 6 (.list (ps.map pgD)) := Sh.lst (n := 5) fun d hd => by
  obtain ⟨c, _, rfl⟩ := List.mem_map.mp hd
  exact sh_pg c
def spAdd (C : Addr) : Sp := fun vs H Q _ => ∃ x L R B ps rs v d, ∃ e : Nat, vs = [.ref x, v, .int e] ∧ Ty C H x L R B ps rs ∧ Dt H v d ∧ e < 4 ∧ rs.length = 4 ∧ ps.length ≤ 100 ∧ (∀ ds, d = .tuple ds → ∀ c ∈ ds, ClFit c) ∧
  (isPg (2 + ps.length : Nat) d = false → ∀ H', Same H H' → Q .non H') ∧
  (isPg (2 + ps.length : Nat) d = true → ∃ cs, d = pgD cs ∧ (isIn ps d = true → ∀ H', Same H H' → Q (.int ((2 + fst ps d : Nat) : Int)) H') ∧ (isIn ps d = false → rs.getD e 0 = 4 → ∀ H', Same H H' → Q .non H') ∧
    (isIn ps d = false → rs.getD e 0 ≠ 4 → ∀ H', Ty C H' x L R B (ps ++ [cs]) (rs.set e (rs.getD e 0 + 1)) → Chg2 L R H H' → Q (.int ((2 + ps.length : Nat) : Int)) H'))
section
variable {P : Program} {w : World} {K : PySem.W.Frag} {mg : Str → Option Value} {base : Heap} {C_Types C_NotValid : Addr}
abbrev s_is_environment : Stmt := topS 9
abbrev ns_is_environment : List Str := ["value"]
theorem sc_is_environment : FnScope ns_is_environment ["value"] (defScope s_is_environment) := ⟨rfl, rfl, rfl, by decide +kernel, rfl, by decide +kernel, by decide +kernel⟩

theorem ok_is_environment {f : Addr} {fd : FuncData} (F : Fun K "is_environment" "is_environment" s_is_environment f fd) (T : Txt K mg C_Types C_NotValid) (D_is_index : Dfn P w K mg base CX0 3 "is_index" ["value", "many"] spIdx) : FnOk P w K mg base CX0 4 f fd ["value"] spEnv := by
  refine F.ok sc_is_environment (fun vs H Q E h => ?_) (fun cdv A outer s H vs Q E hr h => ?_)
  · obtain ⟨v, d, rfl, _⟩ := h
    rfl
  · obtain ⟨v, d, rfl, hd, k⟩ := h
    refine ⟨_, (pss_one (ps_ret (pe_dcall D_is_index (hr.mono (by decide)) (by rfl) pass0 (pa_cons (pv 0) (pa_cons (pe_gint (by rfl) T.c_ENVIRONMENTS) pa_nil))))), ?_⟩
    walk_at "run"
    exact ⟨_, d, _, rfl, hd, k⟩
abbrev s_Types_add : Stmt := inClass (topS 31) 1
abbrev ns_Types_add : List Str := ["self", "program", "environment"]
theorem sc_Types_add : FnScope ns_Types_add ["self", "program", "environment"] (defScope s_Types_add) := ⟨rfl, rfl, rfl, by decide +kernel, rfl, by decide +kernel, by decide +kernel⟩

theorem ok_Types_add {f : Addr} {fd : FuncData} (F : Fun K "add" "Types.add" s_Types_add f fd) (T : Txt K mg C_Types C_NotValid) (D_is_environment : Dfn P w K mg base CX0 4 "is_environment" ["value"] spEnv) (D_is_program : Dfn P w K mg base CX0 6 "is_program" ["value", "count"] spPg) (D_Types_count : Mth P w K mg base CX0 1 C_Types "count" ["self"] (spCnt C_Types)) : FnOk P w K mg base (L2.CX P w) 7 f fd ["self", "program", "environment"] (spAdd C_Types) := by
  have ho_Types := T.o_Types; have hn_Types__blocks := T.n_Types__blocks; have hn_Types__programs := T.n_Types__programs; have hn_Types__registered := T.n_Types__registered
  refine F.okX sc_Types_add (fun vs H Q E h => ?_) (fun cdv A outer s H vs Q E hr h => ?_)
  · obtain ⟨x, L, R, B, ps, rs, v, d, e, rfl, _⟩ := h
    rfl
  · obtain ⟨x, L, R, B, ps, rs, v, d, e, rfl, ty, hd, he, hrs, hps, hfit, k1, k2⟩ := h
    obtain ⟨dx, h1⟩ := ty.ins
    refine ⟨_, (pss_cons (ps_if (pt_not (pt_val (pe_dcall D_is_environment (hr.mono (by decide)) (by rfl) pass0 (pa_cons (pv 2) pa_nil)))) (pss_one (ps_raise (by rfl) (takes_of rfl rfl rfl rfl) (pmk_x T.x_NotValid (by rfl)))) pss_nil)
  (pss_cons (ps_if (pt_not (pt_val (pe_dcall D_is_program (hr.mono (by decide)) (by rfl) pass0 (pa_cons (pv 1) (pa_cons (pe_dmeth0 (pv 0) D_Types_count (hr.mono (by decide)) pass0 ) pa_nil))))) (pss_one (ps_ret pe_non)) pss_nil)
  (pss_cons (ps_if (pt_cmpR (kInD K (units65 hr)) (pv 1) (kFld K (pv 0) rfl) (by rfl)) (pss_one (ps_ret (pe_op op_add (pe_gint (by rfl) T.c__FIRST_OF_PROGRAMS) (kBM K PySem.F.plainAttrs_list PySem.F.slot_list_index PySem.F.type_list_index (kIndexD K (units65 hr)) (kFld K (pv 0) rfl) (pa_cons (pv 1) pa_nil))))) pss_nil)
  (pss_cons (ps_if (pt_cmpR op_eq (pe_ix (kIxL K) (kFld K (pv 0) rfl) (pv 2) (fun _ _ => rfl)) (pe_gint (by rfl) T.c_MOST_TYPES) (nomark _)) (pss_one (ps_ret pe_non)) pss_nil)
  (pss_cons (ps_expr (kBM K PySem.F.plainAttrs_list PySem.F.slot_list_append PySem.F.type_list_append mt_append (kFld K (pv 0) rfl) (pa_cons (pv 1) pa_nil)))
  (pss_cons (ps_augS (kFld K (pv 0) rfl) (pv 2) (kGetL K) pe_int ip_add set_list)
  (pss_one (ps_ret (pe_op op_sub (pe_dmeth0 (pv 0) D_Types_count (hr.mono (by decide)) pass0 ) pe_int))))))))), ?_⟩
    refine ⟨_, rfl, _, .int (e : Int), rfl, .int _, _, rfl, ?_⟩
    have ev : isI (.int (e : Int)) 0 3 = true := isI_nat (lo := 0) (hi := 3) (by omega) (by omega)
    rw [ev]
    refine iteF ?_
    walk_at "ro"
    refine ⟨x, L, R, B, ps, rs, rfl, ty, ?_⟩
    refine ⟨v, d, _, rfl, hd, hfit, fun H1 s1 => ?_⟩
    have ty1 := ty.same s1
    have hd1 := hd.same s1
    cases e1 : isPg (2 + ps.length : Nat) d with
    | false => exact ⟨_, rfl, iteT (k1 e1 H1 s1)⟩
    | true =>
      refine ⟨_, rfl, iteF ?_⟩
      obtain ⟨cs, rfl, q1, q2, q3⟩ := k2 e1
      obtain ⟨⟨dx, h1⟩, ⟨xs, h2, h3⟩, h4, h5⟩ := ty1
      walk_at "ro"
      refine ⟨pgD cs, ps.map pgD, hd1.dp, (Dt.lst h2 h3).dp, (sh_pg cs).ok, (sh_pgs ps).ok, ?_⟩
      refine ⟨_, rfl, ?_⟩
      cases e2 : isIn ps (pgD cs) with
      | true =>
        have e2' : ((ps.map pgD).any fun z => PyData.eqv z (pgD cs)) = true := e2
        rw [e2']
        refine iteT ?_
        walk_at "ro"
        refine ⟨.inl ⟨rfl, _, SqL.of h2⟩, ?_⟩
        walk_at "ro"
        have hlt : fst ps (pgD cs) < (ps.map pgD).length := by
          refine List.findIdx_lt_length.mpr ?_
          obtain ⟨z, hz, hz2⟩ := List.any_eq_true.mp e2'
          exact ⟨z, hz, hz2⟩
        refine ⟨L, v, pgD cs, ps.map pgD, fst ps (pgD cs), _, rfl, rfl, (Dt.lst h2 h3).dp, hd1.dp, (sh_pgs ps).ok, (sh_pg cs).ok, List.getElem?_eq_getElem hlt, List.findIdx_getElem (p := fun z => PyData.eqv z (pgD cs)) (xs := ps.map pgD) (w := hlt), fun m z' hm hz' => ?_, ?_⟩
        · have hml : m < (ps.map pgD).length := by omega
          have := List.not_of_lt_findIdx hm
          rw [List.getElem?_eq_getElem hml] at hz'
          rw [← Option.some.inj hz']
          simpa using this
        · walk_at "ro"
          exact q1 e2 H1 s1
      | false =>
        have e2' : ((ps.map pgD).any fun z => PyData.eqv z (pgD cs)) = false := e2
        rw [e2']
        refine iteF ?_
        walk_at "ro"
        refine ⟨_, _, _, _, rfl, rfl, SqL.of h4, atC e rfl (getVN (by omega)), ?_⟩
        walk_at "ro"
        refine iteD (fun e3 => ?_) (fun e3 => ?_)
        · have z : rs.getD e 0 = 4 := by
            have q : ((rs.getD e 0 : Nat) : Int) = 4 := by injection e3
            omega
          exact q2 e2 z H1 s1
        · have z : rs.getD e 0 ≠ 4 := fun q => e3 (by rw [q]; rfl)
          have nLx : L ≠ x := ne_of h2 h1 (by intro q; cases q)
          have nRx : R ≠ x := ne_of h4 h1 (by intro q; cases q)
          have xl : xs.length = ps.length := by rw [h3.len, List.length_map]
          walk_at "ro"
          refine ⟨.inl ⟨rfl, _, SqL.of h2⟩, ?_⟩
          walk_at "ro"
          refine ⟨_, _, _, rfl, rfl, h2, szt (by omega), ?_⟩
          have h1' : upd H1 L (.lst (xs ++ [v])) x = some (.ins C_Types dx [("_blocks", .int (B : Int)), ("_programs", .ref L), ("_registered", .ref R)]) := by rw [upd_ne nLx.symm]; exact h1
          have h4' : upd H1 L (.lst (xs ++ [v])) R = some (.lst (rs.map vN)) := by rw [upd_ne h5.symm]; exact h4
          have h2' : upd H1 L (.lst (xs ++ [v])) L = some (.lst (xs ++ [v])) := upd_same
          have h3' : DtAll (upd H1 L (.lst (xs ++ [v]))) (xs ++ [v]) ((ps ++ [cs]).map pgD) := by
            rw [List.map_append]
            exact (h3.append (.cons hd1 .nil)).ts (Chg.upd.ts h2) (by rw [← List.map_append (f := pgD) (l₂ := [cs])]; exact pgs_tonly _)
          have c12 : Chg2 L R H (upd H1 L (.lst (xs ++ [v]))) := fun b o n1 n2 h => by
            rw [upd_ne n1]
            exact s1 b o h
          generalize upd H1 L (.lst (xs ++ [v])) = G at h1' h2' h3' h4' c12
          walk_at "ro"
          refine ⟨_, _, _, _, rfl, rfl, SqL.of h4', atC e rfl (getVN (by omega)), ?_⟩
          refine ⟨_, _, rfl, rfl, ?_⟩
          refine ⟨_, _, _, e, rfl, rfl, h4', ixC e rfl (by rw [List.length_map]; omega), ?_⟩
          have er : (rs.map vN).set e (V.int ((rs.getD e 0 : Nat) + 1 : Int)) = (rs.set e (rs.getD e 0 + 1)).map vN := by rw [List.map_set]; rfl
          rw [er]
          have h1'' : upd G R (.lst ((rs.set e (rs.getD e 0 + 1)).map vN)) x = some (.ins C_Types dx [("_blocks", .int (B : Int)), ("_programs", .ref L), ("_registered", .ref R)]) := by rw [upd_ne nRx.symm]; exact h1'
          have ty2 : Ty C_Types (upd G R (.lst ((rs.set e (rs.getD e 0 + 1)).map vN))) x L R B (ps ++ [cs]) (rs.set e (rs.getD e 0 + 1)) :=
            ⟨⟨dx, h1''⟩, ⟨_, by rw [upd_ne h5]; exact h2', h3'.ts (Chg.upd.ts h4') (pgs_tonly _)⟩, upd_same, h5⟩
          walk_at "ro"
          refine ⟨x, L, R, B, ps ++ [cs], _, rfl, ty2, ?_⟩
          walk_at "ro"
          have k3 := q3 e2 z _ ty2 fun b o n1 n2 h => by
            rw [upd_ne n2]
            exact c12 b o n1 n2 h
          have el : ((2 + (ps ++ [cs]).length : Nat) : Int) - 1 = ((2 + ps.length : Nat) : Int) := by rw [List.length_append]; show ((2 + (ps.length + 1) : Nat) : Int) - 1 = _; omega
          rw [← el] at k3
          exact k3
end
end My

namespace My
open PySem L2
local macro_rules | `(tactic| walk_at "ne") => `(tactic| first | assumption | exact Ne.symm (by assumption) | exact ne_of_none (by assumption) (by assumption) | exact Ne.symm (ne_of_none (by assumption) (by assumption)))
local macro_rules | `(tactic| walk_at "hp") => `(tactic| first | assumption | with_reducible exact upd_same | (with_reducible refine Eq.trans (upd_ne ?_) ?_; rotate_left; walk_at "hp"; walk_at "ne"))
local macro_rules | `(tactic| walk_at "cnd") => `(tactic| first | omega | (show (0 : Int) < _; omega) | exact ⟨by omega, by omega⟩ | exact Or.inl ⟨by omega, by omega⟩ | exact Or.inr ⟨by omega, by omega⟩ | exact ⟨by omega, by omega, by decide⟩ | exact ⟨by omega, by omega, by omega⟩)
local macro_rules | `(tactic| walk_at "at") => `(tactic| first | exact atC 0 rfl rfl | exact atC 1 rfl rfl | exact atC 2 rfl rfl | exact atC 3 rfl rfl | exact atC 4 rfl rfl | exact atC 5 rfl rfl | exact atC 6 rfl rfl | exact atC 7 rfl rfl)
local macro_rules | `(tactic| walk_at "ix") => `(tactic| first | exact ixC 0 rfl (Nat.le_of_ble_eq_true rfl) | exact ixC 1 rfl (Nat.le_of_ble_eq_true rfl) | exact ixC 2 rfl (Nat.le_of_ble_eq_true rfl) | exact ixC 3 rfl (Nat.le_of_ble_eq_true rfl) | exact ixC 4 rfl (Nat.le_of_ble_eq_true rfl) | exact ixC 5 rfl (Nat.le_of_ble_eq_true rfl))
local macro_rules | `(tactic| walk_at "st") => `(tactic| first
  | refine ⟨_, rfl, ?_⟩
  | refine ⟨_, _, rfl, rfl, (by walk_at "cnd" : (_ : Prop)), ?_⟩
  | refine ⟨_, _, rfl, rfl, ?_⟩
  | refine ⟨rfl, ?_⟩
  | refine Or.inl ⟨_, rfl, ?_⟩
  | refine ⟨_, _, _, _, rfl, rfl, by exact SqL.of (by walk_at "hp"), by walk_at "at", ?_⟩
  | refine ⟨_, _, _, _, rfl, rfl, by exact SqT.of (by walk_at "hp"), by walk_at "at", ?_⟩
  | refine ⟨_, _, _, _, rfl, rfl, by walk_at "hp", by walk_at "ix", ?_⟩
  | refine ⟨_, _, rfl, Or.inl (by exact SqL.of (by walk_at "hp")), ?_⟩
  | refine ⟨_, _, rfl, Or.inr (by exact SqT.of (by walk_at "hp")), ?_⟩)
local macro_rules | `(tactic| walk_at "so") => `(tactic| first
  | refine ⟨_, _, _, _, _, rfl, by walk_at "hp", by assumption, by assumption, rfl, ?_⟩
  | refine ⟨_, _, _, _, rfl, by walk_at "hp", by assumption, by assumption, Nat.le_of_ble_eq_true rfl, ?_⟩
  | refine ⟨_, _, _, rfl, by walk_at "hp", rfl, ?_⟩
  | walk_at "st")
local macro_rules | `(tactic| walk_at "ro") => `(tactic| repeat walk_at "so")
local macro_rules | `(tactic| walk_at "run") => `(tactic| repeat walk_at "st")

/-! data of which no list is the tape -/
mutual
def noTp : PyData → Bool
  | .list ds => (match ds with | .list _ :: _ => false | _ => true) && noTpAll ds
  | .tuple ds => noTpAll ds
  | .dict _ => false
  | _ => true
def noTpAll : List PyData → Bool
  | [] => true
  | x :: xs => noTp x && noTpAll xs
end
mutual
theorem Dt.tp {H H' : Hp} {a t : Addr} (T : Tape H a t) (c : Chg a H H') : ∀ {d : PyData} {v : V}, noTp d = true → Dt H v d → Dt H' v d
  | .none, _, _, h => by cases h; exact .non
  | .bool b, _, _, h => by cases h; exact .bl b
  | .int i, _, _, h => by cases h; exact .int i
  | .str x, _, _, h => by cases h; exact .str x
  | .list ds, _, n, h => by
    unfold noTp at n
    rw [Bool.and_eq_true] at n
    cases h with
    | lst hx hs =>
      refine .lst (c _ _ ?_ hx) (DtAll.tp T c n.2 hs)
      rintro rfl
      obtain ⟨ns, i, r, z, ha, hs', _⟩ := T
      rw [ha] at hx
      cases hx
      cases hs with
      | cons d1 _ =>
        cases d1 with
        | lst _ _ => exact absurd n.1 Bool.false_ne_true
        | tup h' _ => rw [hs'] at h'; cases h'
  | .tuple ds, _, n, h => by
    unfold noTp at n
    cases h with
    | tup hx hs =>
      refine .tup (c _ _ ?_ hx) (DtAll.tp T c n hs)
      rintro rfl
      obtain ⟨ns, i, r, z, ha, hs', _⟩ := T
      rw [ha] at hx
      cases hx
  | .dict _, _, _, h => by cases h
theorem DtAll.tp {H H' : Hp} {a t : Addr} (T : Tape H a t) (c : Chg a H H') : ∀ {ds : List PyData} {vs : List V}, noTpAll ds = true → DtAll H vs ds → DtAll H' vs ds
  | [], _, _, h => by cases h; exact .nil
  | d :: ds, _, n, h => by
    unfold noTpAll at n
    rw [Bool.and_eq_true] at n
    cases h with
    | cons h1 h2 => exact .cons (Dt.tp T c n.1 h1) (DtAll.tp T c n.2 h2)
end
mutual
theorem noTp_of : ∀ {d : PyData}, tonly d = true → noTp d = true
  | .none, _ => rfl
  | .bool _, _ => rfl
  | .int _, _ => rfl
  | .str _, _ => rfl
  | .list _, h => by unfold tonly at h; cases h
  | .tuple ds, h => by
    unfold tonly at h
    unfold noTp
    exact noTpAll_of h
  | .dict _, h => by unfold tonly at h; cases h
theorem noTpAll_of : ∀ {ds : List PyData}, tonlyAll ds = true → noTpAll ds = true
  | [], _ => rfl
  | d :: ds, h => by
    unfold tonlyAll at h
    rw [Bool.and_eq_true] at h
    unfold noTpAll
    rw [noTp_of h.1, noTpAll_of h.2]; rfl
end
structure Apart3 (tp p x L R Kn Mk : Addr) : Prop where
  Lt : L ≠ tp
  Rt : R ≠ tp
  Kt : Kn ≠ tp
  Mt : Mk ≠ tp
  Lp : L ≠ p
  Rp : R ≠ p
  Kp : Kn ≠ p
  Mp : Mk ≠ p
  KL : Kn ≠ L
  KR : Kn ≠ R
  ML : Mk ≠ L
  MR : Mk ≠ R
  KM : Kn ≠ Mk
structure J3 (C tp p x L R Kn Mk : Addr) (B : Nat) (ps ks : List (List Cl)) (ms rs : List Nat) (H : Hp) : Prop where
  tp : Tape H tp p
  ty : Ty C H x L R B ps rs
  kn : ∃ xs, H Kn = some (.lst xs) ∧ DtAll H xs (ks.map pgD)
  hm : H Mk = some (.lst (ms.map vN))
section
variable {C tp p x L R Kn Mk : Addr} {B : Nat} {ps ks : List (List Cl)} {ms rs : List Nat} {H H' : Hp}
theorem J3.same (j : J3 C tp p x L R Kn Mk B ps ks ms rs H) (s : Same H H') : J3 C tp p x L R Kn Mk B ps ks ms rs H' := by
  obtain ⟨a, b, ⟨xs, c1, c2⟩, d⟩ := j
  exact ⟨a.same s, b.same s, ⟨xs, s _ _ c1, c2.same s⟩, s _ _ d⟩
theorem J3.next (A : Apart3 tp p x L R Kn Mk) (j : J3 C tp p x L R Kn Mk B ps ks ms rs H) (t : Tape H' tp p) (c : Chg tp H H') : J3 C tp p x L R Kn Mk B ps ks ms rs H' := by
  obtain ⟨a, ⟨⟨dx, b1⟩, ⟨ys, b2, b3⟩, b4, b5⟩, ⟨xs, c1, c2⟩, d⟩ := j
  have ts := a.ts c
  have nx : x ≠ tp := by
    obtain ⟨zs, hz⟩ := a.lst
    exact ne_of b1 hz (by intro q; cases q)
  exact ⟨t, ⟨⟨dx, c _ _ nx b1⟩, ⟨ys, c _ _ A.Lt b2, b3.ts ts (pgs_tonly ps)⟩, c _ _ A.Rt b4, b5⟩, ⟨xs, c _ _ A.Kt c1, c2.ts ts (pgs_tonly ks)⟩, c _ _ A.Mt d⟩
/-- a list that is not one of these may change at will -/
theorem J3.other (j : J3 C tp p x L R Kn Mk B ps ks ms rs H) {D : Addr} {xs : List V} {o : HO} (hD : H D = some (.lst xs)) (n : D ≠ tp ∧ D ≠ p ∧ D ≠ L ∧ D ≠ R ∧ D ≠ Kn ∧ D ≠ Mk) : J3 C tp p x L R Kn Mk B ps ks ms rs (upd H D o) := by
  obtain ⟨a, ⟨⟨dx, b1⟩, ⟨ys, b2, b3⟩, b4, b5⟩, ⟨zs, c1, c2⟩, d⟩ := j
  obtain ⟨n1, n2, n3, n4, n5, n6⟩ := n
  have ts : TS H (upd H D o) := Chg.upd.ts hD
  have nx : x ≠ D := ne_of b1 hD (by intro q; cases q)
  exact ⟨a.upd n1 n2, ⟨⟨dx, by rw [upd_ne nx]; exact b1⟩, ⟨ys, by rw [upd_ne n3.symm]; exact b2, b3.ts ts (pgs_tonly ps)⟩, by rw [upd_ne n4.symm]; exact b4, b5⟩, ⟨zs, by rw [upd_ne n5.symm]; exact c1, c2.ts ts (pgs_tonly ks)⟩, by rw [upd_ne n6.symm]; exact d⟩
theorem J3.fresh (j : J3 C tp p x L R Kn Mk B ps ks ms rs H) {D : Addr} (hD : H D = none) : D ≠ tp ∧ D ≠ p ∧ D ≠ L ∧ D ≠ R ∧ D ≠ Kn ∧ D ≠ Mk := by
  obtain ⟨a, ⟨_, ⟨ys, b2, b3⟩, b4, b5⟩, ⟨zs, c1, c2⟩, d⟩ := j
  exact ⟨a.at hD, a.at2 hD, (ne_of_none b2 hD).symm, (ne_of_none b4 hD).symm, (ne_of_none c1 hD).symm, (ne_of_none d hD).symm⟩
end
theorem sh_root (ws : List Nat) (B n : Nat) : SeqAt.shaped (rootD ws B n) = true := by
  unfold rootD
  split
  · exact (Sh.tup (n := 0) fun d hd => by cases hd).ok
  · split
    · refine (Sh.tup (n := 1) fun d hd => ?_).ok
      rw [List.mem_singleton.mp hd]
      exact Sh.tup (n := 0) fun d hd => by
        simp only [List.mem_cons, List.not_mem_nil, or_false] at hd
        rcases hd with rfl | rfl <;> exact Sh.int 0 _
    · exact (Sh.none 0).ok
theorem sh_own (n : Nat) (ps : List (List Cl)) (ws : List Nat) (B : Nat) : SeqAt.shaped (ownD n ps ws B) = true := by
  unfold ownD
  split
  · exact (Sh.tup (n := 0) fun d hd => by cases hd).ok
  · split
    · exact sh_root _ _ _
    · exact sh_run _ _ _ _
theorem Tape.chg {H H' : Hp} {a t q : Addr} (T : Tape H a t) (c : Chg q H H') (n1 : a ≠ q) (n2 : t ≠ q) : Tape H' a t := by
  obtain ⟨ns, i, r, z, ha, hs, w⟩ := T
  exact ⟨ns, i, r, z, c _ _ n1 ha, c _ _ n2 hs, w⟩
def is2 (c : Cl) : Bool := decide (c.2.2.2 = some 2)
theorem cnt_is2 {cs : List Cl} {j : Nat} {c : Cl} (hc : cs[j]? = some c) : (cs.take (j + 1)).countP is2 = (cs.take j).countP is2 + (if is2 c = true then 1 else 0) := by
  rw [← take_snoc hc, List.countP_append, List.countP_cons, List.countP_nil]; omega
theorem isPg_all {cs : List Cl} (pk : PgOk cs) (n : Int) : isPg n (pgD cs) = cs.all fun c => isKd (kdD c.2.2.2) n := by
  show (decide ((cs.map clD).length ≤ 8) && (cs.map clD).all (isCl n)) = _
  have := pk.c4
  rw [decide_eq_true (by rw [List.length_map]; omega), Bool.true_and, List.all_map, Bool.eq_iff_iff, List.all_eq_true, List.all_eq_true]
  constructor
  · intro q c hc
    have := q c hc
    rwa [Function.comp_apply, isCl_ok (pk.ok c hc)] at this
  · intro q c hc
    rw [Function.comp_apply, isCl_ok (pk.ok c hc)]
    exact q c hc
theorem kdN {k : Option Nat} (h : k = none ∨ k = some 0 ∨ k = some 2) {n : Int} (hn : 3 ≤ n) : isKd (kdD k) n = true := by
  rcases h with rfl | rfl | rfl
  · rfl
  · show (false || ((decide ((0 : Int) ≤ 0) && decide ((0 : Int) ≤ n - 1)) && true)) = true
    rw [decide_eq_true (by omega : (0 : Int) ≤ n - 1)]; rfl
  · show (false || ((decide ((0 : Int) ≤ 2) && decide ((2 : Int) ≤ n - 1)) && true)) = true
    rw [decide_eq_true (by omega : (2 : Int) ≤ n - 1)]; rfl
theorem good_is {cs : List Cl} (pk : PgOk cs) {ps : List (List Cl)} {l : Nat} (hl : l = if ps = [] then cs.countP is2 else 0) : decide (V.int (l : Int) = V.int 0) = isPg ((2 + ps.length : Nat) : Int) (pgD cs) := by
  rw [isPg_all pk]
  by_cases hps : ps = []
  · subst hps
    rw [if_pos rfl] at hl
    subst hl
    have e : (cs.all fun c => isKd (kdD c.2.2.2) ((2 + ([] : List (List Cl)).length : Nat) : Int)) = cs.all fun c => !is2 c := by
      rw [Bool.eq_iff_iff, List.all_eq_true, List.all_eq_true]
      constructor
      · intro q c hc
        have := q c hc
        show (!decide (c.2.2.2 = some 2)) = true
        rw [← kd2 (pk.ok c hc).kd]
        exact this
      · intro q c hc
        have := q c hc
        unfold is2 at this
        rw [← kd2 (pk.ok c hc).kd] at this
        exact this
    rw [e]
    clear e pk
    by_cases z : cs.countP is2 = 0
    · rw [z]
      rw [List.countP_eq_zero] at z
      symm
      rw [show decide (V.int ((0 : Nat) : Int) = V.int 0) = true from rfl, List.all_eq_true]
      intro c hc
      have := z c hc
      simpa using this
    · rw [decide_eq_false (by intro q; injection q with q; omega)]
      symm
      rw [Bool.eq_false_iff]
      intro q
      refine z (List.countP_eq_zero.mpr fun c hc => ?_)
      have := List.all_eq_true.mp q c hc
      simpa using this
  · rw [if_neg hps] at hl
    subst hl
    have pp : 0 < ps.length := List.length_pos_iff.mpr hps
    symm
    rw [show decide (V.int ((0 : Nat) : Int) = V.int 0) = true from rfl, List.all_eq_true]
    intro c hc
    exact kdN (pk.ok c hc).kd (by omega)
theorem noTp_cls (cs : List Cl) : noTp (.list (cs.map clD)) = true := by
  unfold noTp
  rw [noTpAll_of (cls_tonly cs), Bool.and_true]
  cases cs <;> rfl
theorem all_vN (ms : List Nat) : (ms.map vN).all flatV = true := by
  rw [List.all_eq_true]
  intro v hv
  obtain ⟨n, _, rfl⟩ := List.mem_map.mp hv
  rfl
theorem count_vN (ms : List Nat) (e : Nat) : (ms.map vN).countP (fun z => eqV z (.int (e : Int))) = ms.count e := by
  rw [List.countP_map, List.count]
  congr 1
  funext m
  show ((m : Int) == (e : Int)) = (m == e)
  by_cases h : m = e
  · subst h
    simp
  · have h' : ¬ (m : Int) = (e : Int) := fun q => h (Int.ofNat.inj q)
    rw [beq_eq_false_iff_ne.mpr h', beq_eq_false_iff_ne.mpr h]
theorem rowD_inj {r r' : Row3} (h : rowD r = rowD r') : r = r' := by
  obtain ⟨a, b, c⟩ := r
  obtain ⟨a', b', c'⟩ := r'
  unfold rowD at h
  injection h with h
  injection h with h1 h
  injection h with h2 h
  injection h with h3 _
  injection h1 with h1
  injection h2 with h2
  injection h3 with h3
  exact Prod.ext (Int.ofNat.inj h1) (Prod.ext (Int.ofNat.inj h2) (Int.ofNat.inj h3))
theorem map_inj {α β : Type} {f : α → β} (hf : ∀ {a b}, f a = f b → a = b) : ∀ {xs ys : List α}, xs.map f = ys.map f → xs = ys
  | [], [], _ => rfl
  | [], y :: ys, h => by cases h
  | x :: xs, [], h => by cases h
  | x :: xs, y :: ys, h => by
    injection h with h1 h2
    rw [hf h1, map_inj hf h2]
theorem mnD_inj {m m' : Nat ⊕ Nat} (h : mnD m = mnD m') : m = m' := by
  cases m with
  | inl n => cases m' with
    | inl n' => injection h with h; rw [Int.ofNat.inj h]
    | inr n' => cases h
  | inr n => cases m' with
    | inl n' => cases h
    | inr n' =>
      injection h with h
      injection h with _ h
      injection h with h _
      injection h with h
      rw [Int.ofNat.inj h]
theorem kdD_inj {m m' : Option Nat} (h : kdD m = kdD m') : m = m' := by
  cases m with
  | none => cases m' with
    | none => rfl
    | some n' => cases h
  | some n => cases m' with
    | none => cases h
    | some n' => injection h with h; rw [Int.ofNat.inj h]
theorem clD_inj {c c' : Cl} (h : clD c = clD c') : c = c' := by
  obtain ⟨a, b, m, k⟩ := c
  obtain ⟨a', b', m', k'⟩ := c'
  unfold clD at h
  injection h with h
  injection h with h1 h
  injection h with h2 h
  injection h with h3 h
  injection h with h4 _
  injection h1 with h1
  injection h2 with h2
  exact Prod.ext (map_inj rowD_inj h1) (Prod.ext (Int.ofNat.inj h2) (Prod.ext (mnD_inj h3) (kdD_inj h4)))
theorem pgD_inj {c c' : List Cl} (h : pgD c = pgD c') : c = c' := by
  injection h with h
  exact map_inj clD_inj h
def DueIs (gb : Bool) (ps : List (List Cl)) (ms : List Nat) (e : Nat) (d : PyData) (vd : V) (ks : List (List Cl)) (ms' : List Nat) : Prop :=
  (gb = true ∧ isIn ps d = true ∧ vd = .int ((2 + fst ps d : Nat) : Int) ∧ ks = ps ∧ ms' = ms) ∨
  (gb = true ∧ isIn ps d = false ∧ ms.count e < 4 ∧ vd = .int ((2 + ps.length : Nat) : Int) ∧ (∃ cs, d = pgD cs ∧ PgOk cs ∧ ks = ps ++ [cs]) ∧ ms' = ms ++ [e]) ∨
  ((gb = false ∨ (isIn ps d = false ∧ ¬ ms.count e < 4)) ∧ vd = .non ∧ ks = ps ∧ ms' = ms)
theorem J3.chg2 {C tp p x L R Kn Mk : Addr} {B : Nat} {ps ks ps' : List (List Cl)} {ms rs rs' : List Nat} {H H' : Hp} (A : Apart3 tp p x L R Kn Mk) (j : J3 C tp p x L R Kn Mk B ps ks ms rs H) (t : Ty C H' x L R B ps' rs') (c : Chg2 L R H H') : J3 C tp p x L R Kn Mk B ps' ks ms rs' H' := by
  obtain ⟨a, b, ⟨xs, c1, c2⟩, d⟩ := j
  obtain ⟨ns, i, r, z, ha, hs, w⟩ := a
  obtain ⟨_, ⟨ys, b2, _⟩, b4, _⟩ := b
  have ts : TS H H' := fun q us h => c q _ (ne_of h b2 (by intro q; cases q)) (ne_of h b4 (by intro q; cases q)) h
  exact ⟨⟨ns, i, r, z, c _ _ A.Lt.symm A.Rt.symm ha, c _ _ A.Lp.symm A.Rp.symm hs, w⟩, t, ⟨xs, c _ _ A.KL A.KR c1, c2.ts ts (pgs_tonly ks)⟩, c _ _ A.ML A.MR d⟩
theorem J3.app {C tp p x L R Kn Mk : Addr} {B : Nat} {ps ks : List (List Cl)} {ms rs : List Nat} {H : Hp} (A : Apart3 tp p x L R Kn Mk) (j : J3 C tp p x L R Kn Mk B ps ks ms rs H) {xs : List V} {vp : V} {cs : List Cl} {e : Nat} (h1 : H Kn = some (.lst xs)) (h2 : DtAll H xs (ks.map pgD)) (hd : Dt H vp (pgD cs)) :
    J3 C tp p x L R Kn Mk B ps (ks ++ [cs]) (ms ++ [e]) rs (upd (upd H Kn (.lst (xs ++ [vp]))) Mk (.lst (ms.map vN ++ [.int (e : Int)]))) := by
  have hm' : upd H Kn (.lst (xs ++ [vp])) Mk = some (.lst (ms.map vN)) := by rw [upd_ne A.KM.symm]; exact j.hm
  have ts : TS H (upd (upd H Kn (.lst (xs ++ [vp]))) Mk (.lst (ms.map vN ++ [.int (e : Int)]))) := (Chg.upd.ts h1).trans (Chg.upd.ts hm')
  have c : ∀ b o, b ≠ Kn → b ≠ Mk → H b = some o → upd (upd H Kn (.lst (xs ++ [vp]))) Mk (.lst (ms.map vN ++ [.int (e : Int)])) b = some o := fun b o n1 n2 h => by rw [upd_ne n2, upd_ne n1]; exact h
  obtain ⟨a, ⟨⟨dx, b1⟩, ⟨ys, b2, b3⟩, b4, b5⟩, _, d⟩ := j
  obtain ⟨ns, i, r, z, ha, hs, w⟩ := a
  have nx : x ≠ Kn := ne_of b1 h1 (by intro q; cases q)
  have nx' : x ≠ Mk := ne_of b1 d (by intro q; cases q)
  refine ⟨⟨ns, i, r, z, c _ _ A.Kt.symm A.Mt.symm ha, c _ _ A.Kp.symm A.Mp.symm hs, w⟩, ⟨⟨dx, c _ _ nx nx' b1⟩, ⟨ys, c _ _ A.KL.symm A.ML.symm b2, b3.ts ts (pgs_tonly ps)⟩, c _ _ A.KR.symm A.MR.symm b4, b5⟩, ⟨_, by rw [upd_ne A.KM]; exact upd_same, ?_⟩, by rw [upd_same, List.map_append]; rfl⟩
  have e1 : (ks ++ [cs]).map pgD = ks.map pgD ++ [pgD cs] := List.map_append
  rw [e1]
  refine (h2.append (.cons hd .nil)).ts ts ?_
  rw [← e1]
  exact pgs_tonly _
theorem spAdd_use {C : Addr} {vs : List V} {H : Hp} {Q : VK} {E : XK} (φ : V → Hp → Prop) (x L R : Addr) (B : Nat) (ps : List (List Cl)) (rs : List Nat) (v : V) (d : PyData) (e : Nat) (hv : vs = [.ref x, v, .int e]) (ty : Ty C H x L R B ps rs) (hd : Dt H v d) (e4 : e < 4) (rl : rs.length = 4) (pl : ps.length ≤ 100) (hfit : ∀ ds, d = .tuple ds → ∀ c ∈ ds, ClFit c)
    (hφ : ∀ v H', φ v H' → Q v H') (k1 : isPg (2 + ps.length : Nat) d = false → ∀ H', Same H H' → φ .non H')
    (k2 : isPg (2 + ps.length : Nat) d = true → ∃ cs, d = pgD cs ∧ (isIn ps d = true → ∀ H', Same H H' → φ (.int ((2 + fst ps d : Nat) : Int)) H') ∧ (isIn ps d = false → rs.getD e 0 = 4 → ∀ H', Same H H' → φ .non H') ∧
    (isIn ps d = false → rs.getD e 0 ≠ 4 → ∀ H', Ty C H' x L R B (ps ++ [cs]) (rs.set e (rs.getD e 0 + 1)) → Chg2 L R H H' → φ (.int ((2 + ps.length : Nat) : Int)) H')) : spAdd C vs H Q E := by
  refine ⟨x, L, R, B, ps, rs, v, d, e, hv, ty, hd, e4, rl, pl, hfit, fun z H' s => hφ _ _ (k1 z H' s), fun z => ?_⟩
  obtain ⟨cs, e1, a1, a2, a3⟩ := k2 z
  exact ⟨cs, e1, fun q H' s => hφ _ _ (a1 q H' s), fun q r H' s => hφ _ _ (a2 q r H' s), fun q r H' t c => hφ _ _ (a3 q r H' t c)⟩
def spLaw (K : PySem.W.Frag) : Sp := fun vs H Q _ => ∃ (a : Addr) (ns : List Int), vs = [.ref a] ∧ SqL K H a (ns.map V.int) ∧ ∀ H', Q (.bl true) H'
section
variable {P : Program} {w : World} {K : PySem.W.Frag} {mg : Str → Option Value} {base : Heap} {C_Types C_NotValid : Addr}
abbrev s_law : Stmt := topS 37
abbrev ns_law : List Str := ["script", "tape", "blocks", "types", "known", "makers", "turn", "program", "good", "clause", "environment", "due", "words", "k", "number"]
theorem sc_law : FnScope ns_law ["script"] (defScope s_law) := ⟨rfl, rfl, rfl, by decide +kernel, rfl, by decide +kernel, by decide +kernel⟩

theorem ok_law {f : Addr} {fd : FuncData} (F : Fun K "law" "law" s_law f fd) (T : Txt K mg C_Types C_NotValid) (D_law_next : Dfn P w K mg base CX0 1 "_law_next" ["tape", "many"] spNext) (D_law_program : Dfn P w K mg base CX0 2 "_law_program" ["tape"] spLProg)
    (D_law_root : Dfn P w K mg base CX0 1 "_law_root" ["words", "blocks", "count"] spLRoot) (D_law_run : Dfn P w K mg base CX0 1 "_law_run" ["program", "words", "blocks", "own"] spRun)
    (M_Types : Mkr P w K mg base CX0 1 "Types" C_Types ["self", "blocks"] (spTInit C_Types)) (D_Types_count : Mth P w K mg base CX0 1 C_Types "count" ["self"] (spCnt C_Types)) (D_Types_programs : Mth P w K mg base CX0 1 C_Types "programs" ["self"] (spProgs C_Types))
    (D_Types_is_known : Mth P w K mg base CX0 4 C_Types "is_known" ["self", "number"] (spKnown C_Types)) (D_Types_owned : Mth P w K mg base CX0 6 C_Types "owned" ["self", "number", "words"] (spOwned C_Types))
    (D_Types_add : Mth P w K mg base (L2.CX P w) 7 C_Types "add" ["self", "program", "environment"] (spAdd C_Types)) : FnOk P w K mg base CX0 8 f fd ["script"] (spLaw K) := by
  have ho_Types := T.o_Types; have hn_Types__blocks := T.n_Types__blocks; have hn_Types__programs := T.n_Types__programs; have hn_Types__registered := T.n_Types__registered
  refine F.ok sc_law (fun vs H Q E h => ?_) (fun cdv A outer s H vs Q E hr h => ?_)
  · obtain ⟨a, ns, rfl, _⟩ := h
    rfl
  · obtain ⟨a, ns, rfl, hS, k⟩ := h
    refine ⟨_, (pss_cons (ps_set (i := 1) sc_law.nd rfl (Or.inr rfl) (pe_lst (pa_cons (pe_callTy (kListOf K) (by rfl) T.b_list (by decide +kernel) (pa_cons (pv 0) pa_nil)) (pa_cons pe_int (pa_cons pe_int (pa_cons pe_int pa_nil))))))
  (pss_cons (ps_set (i := 2) sc_law.nd rfl (Or.inr rfl) (pe_op op_add pe_int (pe_dcall D_law_next (hr.mono (by decide)) (by rfl) pass0 (pa_cons (pv 1) (pa_cons pe_int pa_nil)))))
  (pss_cons (ps_set (i := 3) sc_law.nd rfl (Or.inl rfl) (pe_dmake M_Types (hr.mono (by decide)) (by rfl) pass0 (pa_cons (pv 2) pa_nil)))
  (pss_cons (ps_set (i := 4) sc_law.nd rfl (Or.inr rfl) (pe_lst pa_nil))
  (pss_cons (ps_set (i := 5) sc_law.nd rfl (Or.inl rfl) (pe_lst pa_nil))
  (pss_cons (ps_if (PW.pt (pw_or (pt_cmpR op_ne (pe_gint (by rfl) T.c_MOST_TYPES) pe_int (nomark _)) (pw_or (pt_cmpR op_ne (pe_dmeth0 (pv 3) D_Types_count (hr.mono (by decide)) pass0 ) pe_int (nomark _)) (pw_or1 (pt_cmpR (kNeD K hr.units) (pe_dmeth0 (pv 3) D_Types_programs (hr.mono (by decide)) pass0 ) (pe_lst pa_nil) (nomark _)))))) (pss_one (ps_ret pe_bl)) pss_nil)
  (pss_cons (ps_for PassesOwn.never (by rfl) (pi_range1 (by rfl) T.b_range (pa_cons (pe_op op_add pe_int (pe_dcall D_law_next (hr.mono (by decide)) (by rfl) pass0 (pa_cons (pv 1) (pa_cons pe_int pa_nil)))) pa_nil)) (pg_name (i := 6) sc_law.nd rfl (Or.inl rfl)) (pss_cons (ps_set (i := 7) sc_law.nd rfl (Or.inl rfl) (pe_dcall D_law_program (hr.mono (by decide)) (by rfl) pass0 (pa_cons (pv 1) pa_nil)))
  (C8.pss_cut (ps_if (PW.pt (pw_and (pt_cmpR (kNeD K hr.units) (pv 4) (pe_lst pa_nil) (nomark _)) (pw_and1 (pt_cmpR op_eq (pe_dcall D_law_next (hr.mono (by decide)) (by rfl) pass0 (pa_cons (pv 1) (pa_cons pe_int pa_nil))) pe_int (nomark _))))) (pss_one (ps_set (i := 7) sc_law.nd rfl (Or.inl rfl) (pe_ix (kIxL K) (pv 4) (pe_dcall D_law_next (hr.mono (by decide)) (by rfl) pass0 (pa_cons (pv 1) (pa_cons (pe_callB (kLen K) (by rfl) T.b_len (by decide +kernel) (pa_cons (pv 4) pa_nil)) pa_nil))) (fun _ _ => rfl)))) pss_nil)
  (pss_cons (ps_set (i := 8) sc_law.nd rfl (Or.inl rfl) (pe_cmpR op_eq (pe_callB (kLen K) (by rfl) T.b_len (by decide +kernel) (pa_cons (pe_lc (own := [("clause", 9)]) (by rfl) sc_law.nd (kpiT K (pv 7)) (blkOk_by (N := ns_law) (sc := defScope s_law) (by decide +kernel)) (fun _ _ _ _ _ => (pg_name (i := 9) sc_law.nd rfl (Or.inl rfl))) (fun _ _ _ _ _ => (pts_one (PW.pt (pw_and (pt_cmpR (kEqD K hr.units) (pe_ix (kIxT K) (pv 9) pe_int (fun _ _ => rfl)) pe_int (nomark _)) (pw_and1 (pt_cmpR (kEqD K hr.units) (pv 4) (pe_lst pa_nil) (nomark _))))))) (fun _ _ _ _ _ => (pv 9))) pa_nil)) pe_int (nomark _)))
  (C8.pss_cut (ps_if (pt_cmpR op_eq (pe_dcall D_law_next (hr.mono (by decide)) (by rfl) pass0 (pa_cons (pv 1) (pa_cons pe_int pa_nil))) pe_int (nomark _)) (pss_cons (ps_set (i := 7) sc_law.nd rfl (Or.inl rfl) (pe_ix (kIxL K) (pe_lst (pa_cons (pe_callTy (kListOf K) (by rfl) T.b_list (by decide +kernel) (pa_cons (pv 7) pa_nil)) (pa_cons pe_non (pa_cons (pe_op (kCatT K) (pv 7) (pe_tup (pa_cons (pe_tup (pa_cons (pe_tup pa_nil) (pa_cons pe_int (pa_cons pe_int (pa_cons pe_int pa_nil))))) pa_nil))) pa_nil)))) (pe_dcall D_law_next (hr.mono (by decide)) (by rfl) pass0 (pa_cons (pv 1) (pa_cons pe_int pa_nil))) (fun _ _ => rfl)))
  (pss_one (ps_set (i := 8) sc_law.nd rfl (Or.inl rfl) pe_bl))) pss_nil)
  (pss_cons (ps_set (i := 10) sc_law.nd rfl (Or.inl rfl) (pe_dcall D_law_next (hr.mono (by decide)) (by rfl) pass0 (pa_cons (pv 1) (pa_cons pe_int pa_nil))))
  (pss_cons (ps_set (i := 11) sc_law.nd rfl (Or.inl rfl) pe_non)
  (C8.pss_cut (ps_if (PW.pt (pw_and (pt_val (pv 8)) (pw_and1 (pt_cmpR (kInD K (units65 hr)) (pv 7) (pv 4) (by rfl))))) (pss_one (ps_set (i := 11) sc_law.nd rfl (Or.inl rfl) (pe_op op_add pe_int (kBM K PySem.F.plainAttrs_list PySem.F.slot_list_index PySem.F.type_list_index (kIndexD K (units65 hr)) (pv 4) (pa_cons (pv 7) pa_nil))))) (pss_one (ps_if (PW.pt (pw_and (pt_val (pv 8)) (pw_and1 (pt_cmpR op_lt (kBM K PySem.F.plainAttrs_list PySem.F.slot_list_count PySem.F.type_list_count (kCount K) (pv 5) (pa_cons (pv 10) pa_nil)) pe_int (nomark _))))) (pss_cons (ps_set (i := 11) sc_law.nd rfl (Or.inl rfl) (pe_op op_add pe_int (pe_callB (kLen K) (by rfl) T.b_len (by decide +kernel) (pa_cons (pv 4) pa_nil))))
  (pss_cons (ps_expr (kBM K PySem.F.plainAttrs_list PySem.F.slot_list_append PySem.F.type_list_append mt_append (pv 4) (pa_cons (pv 7) pa_nil)))
  (pss_one (ps_expr (kBM K PySem.F.plainAttrs_list PySem.F.slot_list_append PySem.F.type_list_append mt_append (pv 5) (pa_cons (pv 10) pa_nil)))))) pss_nil)))
  (pss_cons (ps_if (pt_cmpR (kNeD K hr.units) (pe_dmeth (pv 3) D_Types_add (hr.mono (by decide)) passL (pa_cons (pv 7) (pa_cons (pv 10) pa_nil))) (pv 11) (nomark _)) (pss_one (ps_ret pe_bl)) pss_nil)
  (pss_cons (ps_if (PW.pt (pw_or (pt_cmpR (kNeD K hr.units) (pe_dmeth0 (pv 3) D_Types_programs (hr.mono (by decide)) pass0 ) (pv 4) (nomark _)) (pw_or1 (pt_cmpR op_ne (pe_dmeth0 (pv 3) D_Types_count (hr.mono (by decide)) pass0 ) (pe_op op_add pe_int (pe_callB (kLen K) (by rfl) T.b_len (by decide +kernel) (pa_cons (pv 4) pa_nil))) (nomark _))))) (pss_one (ps_ret pe_bl)) pss_nil)
  (pss_one (ps_if (PW.pt (pw_or (pt_cmpR op_isnot_bl (pe_dmeth (pv 3) D_Types_is_known (hr.mono (by decide)) pass0 (pa_cons (pe_op op_add pe_int (pe_callB (kLen K) (by rfl) T.b_len (by decide +kernel) (pa_cons (pv 4) pa_nil))) pa_nil)) pe_bl (nomark _)) (pw_or1 (pt_cmpR op_isnot_bl (pe_dmeth (pv 3) D_Types_is_known (hr.mono (by decide)) pass0 (pa_cons (pe_op op_add pe_int (pe_callB (kLen K) (by rfl) T.b_len (by decide +kernel) (pa_cons (pv 4) pa_nil))) pa_nil)) pe_bl (nomark _))))) (pss_one (ps_ret pe_bl)) pss_nil))))))))))))
  (pss_cons (ps_for PassesOwn.never (by rfl) (pi_range1 (by rfl) T.b_range (pa_cons pe_int pa_nil)) (pg_name (i := 6) sc_law.nd rfl (Or.inl rfl)) (pss_cons (ps_set (i := 12) sc_law.nd rfl (Or.inl rfl) (pe_callTy (kTupOf K) (by rfl) T.b_tuple (by decide +kernel) (pa_cons (pe_lc (own := [("k", 13)]) (by rfl) sc_law.nd (pi_range1 (by rfl) T.b_range (pa_cons pe_int pa_nil)) (blkOk_by (N := ns_law) (sc := defScope s_law) (by decide +kernel)) (fun _ _ _ _ _ => (pg_name (i := 13) sc_law.nd rfl (Or.inl rfl))) (fun _ _ _ _ _ => pts_nil) (fun _ _ _ _ _ => (pe_ix (kIxL K) (pe_lst (pa_cons pe_int (pa_cons (pe_dcall D_law_next (hr.mono (by decide)) (by rfl) pass0 (pa_cons (pv 1) (pa_cons pe_int pa_nil))) (pa_cons (pe_op op_add pe_int (pe_dcall D_law_next (hr.mono (by decide)) (by rfl) pass0 (pa_cons (pv 1) (pa_cons pe_int pa_nil)))) (pa_cons (pv 2) pa_nil))))) (pe_dcall D_law_next (hr.mono (by decide)) (by rfl) pass0 (pa_cons (pv 1) (pa_cons pe_int pa_nil))) (fun _ _ => rfl)))) pa_nil)))
  (pss_cons (ps_set (i := 14) sc_law.nd rfl (Or.inl rfl) (pe_dcall D_law_next (hr.mono (by decide)) (by rfl) pass0 (pa_cons (pv 1) (pa_cons (pe_dmeth0 (pv 3) D_Types_count (hr.mono (by decide)) pass0 ) pa_nil))))
  (pss_cons (ps_set (i := 11) sc_law.nd rfl (Or.inl rfl) (pe_tup pa_nil))
  (C8.pss_cut (ps_if (pt_cmpR op_eq (pv 14) pe_int (nomark _)) (pss_one (ps_set (i := 11) sc_law.nd rfl (Or.inl rfl) (pe_dcall D_law_root (hr.mono (by decide)) (by rfl) pass0 (pa_cons (pv 12) (pa_cons (pv 2) (pa_cons (pe_dmeth0 (pv 3) D_Types_count (hr.mono (by decide)) pass0 ) pa_nil)))))) (pss_one (ps_if (pt_cmpR op_gt (pv 14) pe_int (nomark _)) (pss_one (ps_set (i := 11) sc_law.nd rfl (Or.inl rfl) (pe_dcall D_law_run (hr.mono (by decide)) (by rfl) pass0 (pa_cons (pe_ix (kIxL K) (pv 4) (pe_op op_sub (pv 14) pe_int) (fun _ _ => rfl)) (pa_cons (pv 12) (pa_cons (pv 2) (pa_cons (pv 14) pa_nil))))))) pss_nil)))
  (pss_one (ps_if (pt_cmpR (kNeD K hr.units) (pe_dmeth (pv 3) D_Types_owned (hr.mono (by decide)) pass0 (pa_cons (pv 14) (pa_cons (pv 12) pa_nil))) (pv 11) (nomark _)) (pss_one (ps_ret pe_bl)) pss_nil)))))))
  (pss_one (ps_ret (pe_and (pe_cmpR op_is_bl (pe_dmeth (pv 3) D_Types_is_known (hr.mono (by decide)) pass0 (pa_cons pe_non pa_nil)) pe_bl (nomark _)) (pe_and (pe_cmpR op_is_bl (pe_dmeth (pv 3) D_Types_is_known (hr.mono (by decide)) pass0 (pa_cons pe_bl pa_nil)) pe_bl (nomark _)) (pe_one (pe_cmpR op_is_bl (pe_dmeth (pv 3) D_Types_is_known (hr.mono (by decide)) pass0 (pa_cons (pe_un un_neg pe_int) pa_nil)) pe_bl (nomark _))))))))))))))), ?_⟩
    refine ⟨_, rfl, _, _, rfl, .inl hS, fun p hp => ⟨szl rfl, fun tp htp => ?_⟩⟩
    have T0 : Tape (upd (upd H p (.lst (ns.map V.int))) tp (.lst [.ref p, .int 0, .int 0, .int 7])) tp p :=
      ⟨ns, 0, 0, 7, upd_same, Same.new htp _ _ upd_same, by decide, by decide, by decide, by decide⟩
    generalize upd (upd H p (.lst (ns.map V.int))) tp (.lst [.ref p, .int 0, .int 0, .int 7]) = G0 at T0
    walk_at "run"
    refine ⟨tp, p, 41, rfl, by decide, by decide, T0, fun b0 H1 b00 b01 t1 c1 => ?_⟩
    obtain ⟨b', rfl⟩ := Int.eq_ofNat_of_zero_le b00
    walk_at "run"
    refine fun x dx hx hdx ne => ?_
    have s1 : Same H1 (upd (upd H1 dx (.own x)) x (.ins C_Types dx [])) := (Same.new hdx).trans (Same.new (by rw [upd_ne ne.symm]; exact hx))
    have ntx : tp ≠ x := (t1.at hx).symm
    have npx : p ≠ x := (t1.at2 hx).symm
    have tc := t1.same s1
    refine ⟨x, dx, 24 + b', rfl, upd_same, fun L R H2 ty hL hR c2 => ⟨rfl, ?_⟩⟩
    have t2 := tc.chg c2 ntx npx
    have nL := tc.at hL
    have nL2 := tc.at2 hL
    have nR := tc.at hR
    have nR2 := tc.at2 hR
    clear hL hR c2 tc s1 ne hx hdx t1 c1
    walk_at "run"
    refine ⟨szl rfl, fun Kn hKn => ?_⟩
    have t3 := t2.same (Same.new (o := .lst []) hKn)
    have ty3 := ty.same (Same.new (o := .lst []) hKn)
    have hK3 : upd H2 Kn (.lst []) Kn = some (.lst []) := upd_same
    have nK := t2.at hKn
    have nK2 := t2.at2 hKn
    have nKL : Kn ≠ L := by obtain ⟨_, ⟨ys, b2, _⟩, _, _⟩ := ty; exact (ne_of_none b2 hKn).symm
    have nKR : Kn ≠ R := (ne_of_none ty.hR hKn).symm
    generalize upd H2 Kn (.lst []) = G3 at t3 ty3 hK3
    walk_at "run"
    refine ⟨szl rfl, fun Mk hMk => ?_⟩
    have A : Apart3 tp p x L R Kn Mk := ⟨nL, nR, nK, t3.at hMk, nL2, nR2, nK2, t3.at2 hMk, nKL, nKR, by obtain ⟨_, ⟨ys, b2, _⟩, _, _⟩ := ty3; exact (ne_of_none b2 hMk).symm, (ne_of_none ty3.hR hMk).symm, ne_of_none hK3 hMk⟩
    have s4 := Same.new (o := .lst []) hMk
    have j0 : J3 C_Types tp p x L R Kn Mk (24 + b') [] [] [] [0, 0, 0, 0] (upd G3 Mk (.lst [])) := ⟨t3.same s4, ty3.same s4, ⟨[], s4 _ _ hK3, .nil⟩, upd_same⟩
    generalize upd G3 Mk (.lst []) = G4 at j0
    clear s4 hMk hKn t2 t3 ty ty3 hK3 nL nL2 nR nR2 nK nK2 nKL nKR T0
    obtain ⟨dx', hx4⟩ := j0.ty.ins
    -- MOST_TYPES, count, programs of the new ones
    walk_at "ro"
    refine ⟨x, L, R, 24 + b', [], [0, 0, 0, 0], rfl, j0.ty, ?_⟩
    walk_at "ro"
    refine ⟨x, L, R, 24 + b', [], [0, 0, 0, 0], rfl, j0.ty, fun v1 H5 s5 hv1 => ⟨szl rfl, fun q hq => ?_⟩⟩
    have j1 := (j0.same s5).same (Same.new (o := .lst []) hq)
    refine ⟨.list [], .list [], (hv1.same (Same.new hq)).dp, (Dt.lst upd_same .nil).dp, (sh_pgs []).ok, (sh_pgs []).ok, _, rfl, iteF ?_⟩
    generalize upd H5 q (.lst []) = G6 at j1
    clear hx4 dx' s5 hv1 hq j0
    walk_at "ro"
    refine ⟨tp, p, 16, rfl, by decide, by decide, j1.tp, fun m0 H6 m00 m01 t6 c6 => ?_⟩
    have j2 := j1.next A t6 c6
    walk_at "ro"
    refine ⟨by omega, by omega, for_range (fun i σ H' => ∃ (ps : List (List Cl)) (ms rs : List Nat) (v6 v7 v8 v10 v11 : Option V), σ = [some (.ref a), some (.ref tp), some (.int ((24 + b' : Nat) : Int)), some (.ref x), some (.ref Kn), some (.ref Mk), v6, v7, v8, none, v10, v11, none, none, none] ∧
      ps.length ≤ i ∧ (∀ q ∈ ps, PgOk q) ∧ rs.length = 4 ∧ (∀ e, e < 4 → rs.getD e 0 = ms.count e ∧ ms.count e ≤ 4) ∧ ms.length ≤ i ∧ J3 C_Types tp p x L R Kn Mk (24 + b') ps ps ms rs H') ?_ ?_ ?_⟩
    · exact ⟨[], [], [0, 0, 0, 0], none, none, none, none, none, rfl, Nat.le_refl _, fun _ h => (by cases h), rfl, fun e he => (by
        match e, he with
        | 0, _ => exact ⟨rfl, by decide⟩
        | 1, _ => exact ⟨rfl, by decide⟩
        | 2, _ => exact ⟨rfl, by decide⟩
        | 3, _ => exact ⟨rfl, by decide⟩), Nat.le_refl _, j2⟩
    · rintro i σ H7 hi ⟨ps, ms, rs, v6, v7, v8, v10, v11, rfl, pl, pok, rl, rc, ml, j⟩
      have i16 : i < 16 := by omega
      walk_at "ro"
      refine ⟨tp, p, rfl, j.tp, fun vp cs H8 hc4 hok hdp t8 c8 => ?_⟩
      have j := j.next A t8 c8
      walk_at "ro"
      -- program = known[..]
      refine ⟨fun σ H' => ∃ (vp : V) (cs : List Cl), σ = [some (.ref a), some (.ref tp), some (.int ((24 + b' : Nat) : Int)), some (.ref x), some (.ref Kn), some (.ref Mk), some (.int (0 + (i : Int))), some vp, v8, none, v10, v11, none, none, none] ∧ Dt H' vp (pgD cs) ∧ PgOk cs ∧ J3 C_Types tp p x L R Kn Mk (24 + b') ps ps ms rs H', ?_, ?_⟩
      · obtain ⟨xs, hk1, hk2⟩ := j.kn
        have same : ∀ H', Same H8 H' → ∃ (vp' : V) (cs : List Cl), [some (V.ref a), some (.ref tp), some (.int ((24 + b' : Nat) : Int)), some (.ref x), some (.ref Kn), some (.ref Mk), some (.int (0 + (i : Int))), some vp, v8, none, v10, v11, none, none, none] = [some (V.ref a), some (.ref tp), some (.int ((24 + b' : Nat) : Int)), some (.ref x), some (.ref Kn), some (.ref Mk), some (.int (0 + (i : Int))), some vp', v8, none, v10, v11, none, none, none] ∧ Dt H' vp' (pgD cs) ∧ PgOk cs ∧ J3 C_Types tp p x L R Kn Mk (24 + b') ps ps ms rs H' :=
          fun H' s => ⟨vp, cs, rfl, hdp.same s, ⟨hc4, hok⟩, j.same s⟩
        walk_at "ro"
        refine ⟨szl rfl, fun q hq => ?_⟩
        have sq := Same.new (o := .lst []) hq
        refine ⟨.list (ps.map pgD), .list [], (Dt.lst (sq _ _ hk1) (hk2.same sq)).dp, (Dt.lst upd_same .nil).dp, (sh_pgs ps).ok, (sh_pgs []).ok, ?_⟩
        refine ⟨_, rfl, ?_⟩
        by_cases hps : ps = []
        · subst hps
          exact iteF (same _ sq)
        · have ene : PyData.eqv (.list (ps.map pgD)) (.list []) = false := by
            cases ps with
            | nil => exact absurd rfl hps
            | cons c cs => rfl
          rw [ene]
          refine iteT ?_
          have j := j.same sq
          have hdp := hdp.same sq
          generalize upd H8 q (.lst []) = H9 at sq j hdp
          walk_at "ro"
          refine ⟨tp, p, 4, rfl, by decide, by decide, j.tp, fun y H10 y0 y1 t10 c10 => ?_⟩
          have hdp := hdp.ts (j.tp.ts c10) (show tonly (.tuple (cs.map clD)) = true from cls_tonly cs)
          have j := j.next A t10 c10
          walk_at "ro"
          refine iteD (fun e => ?_) (fun e => ?_)
          · obtain ⟨xs2, hk1, hk2⟩ := j.kn
            have xl2 : xs2.length = ps.length := by rw [hk2.len, List.length_map]
            have pp : 0 < ps.length := List.length_pos_iff.mpr hps
            walk_at "ro"
            refine ⟨tp, p, (xs2.length : Int), rfl, by omega, by omega, j.tp, fun z H11 z0 z1 t11 c11 => ?_⟩
            have j := j.next A t11 c11
            obtain ⟨z', rfl⟩ := Int.eq_ofNat_of_zero_le z0
            obtain ⟨xs3, hk3, hk4⟩ := j.kn
            have hi : z' < ps.length := by omega
            have hd : (ps.map pgD)[z']? = some (pgD ps[z']) := by rw [List.getElem?_map, List.getElem?_eq_getElem hi]; rfl
            obtain ⟨v, hv, hvd⟩ := hk4.get hd
            refine ⟨_, _, _, _, rfl, rfl, SqL.of hk3, atC z' rfl hv, ?_⟩
            exact ⟨v, ps[z'], rfl, hvd, pok _ (List.getElem_mem hi), j⟩
          · exact ⟨vp, cs, rfl, hdp, ⟨hc4, hok⟩, j⟩
      · clear hok hc4 hdp t8 c8 j vp cs
        rintro σ H9 ⟨vp, cs, rfl, hdp, pk, j⟩
        walk_at "ro"
        have hdp' := hdp
        unfold pgD at hdp'
        cases hdp' with
        | @tup va xs _ hva hxs =>
          refine ⟨va, rfl, ⟨_, SqT.of hva⟩, fun D hD => ?_⟩
          have hcl : xs.length = cs.length := by rw [hxs.len, List.length_map]
          have c4 := pk.c4
          refine lc_tup (K := K) (xs := xs) (fun m H7 => ∃ ac : List V, H7 D = some (.lst ac) ∧ ac.length = (if ps = [] then (cs.take m).countP is2 else 0) ∧ ac.length ≤ m ∧ Same H9 H7) ⟨_, upd_same, by split <;> rfl, Nat.le_refl _, Same.new hD⟩ (fun m H7 _ h => by obtain ⟨_, _, _, _, h⟩ := h; exact SqT.of (h _ _ hva)) ?_ ?_
          · rintro m y H7 hx ⟨ac, hac, hl, hl2, s7⟩
            have hm : m < xs.length := (List.getElem?_eq_some_iff.mp hx).1
            obtain ⟨c, hc, hcD⟩ := get_cl hxs hx
            obtain ⟨t', g, vm, vk, rfl, ht, hg, hmm, hk⟩ := cl_open (hcD.same s7)
            have hkd := (pk.ok c (List.mem_of_getElem? hc)).kd
            refine ⟨rfl, ?_⟩
            walk_at "ro"
            refine ⟨kdD c.2.2.2, .int 2, hk.dp, (Dt.int 2).dp, sh_kd _, sh_int _, ?_⟩
            refine ⟨_, rfl, ?_⟩
            rw [kdE hkd]
            refine iteD (fun e => ?_) (fun e => ?_)
            · obtain ⟨zs, hk1, hk2⟩ := (j.same s7).kn
              walk_at "ro"
              refine ⟨szl rfl, fun q hq => ?_⟩
              have sq := Same.new (o := .lst []) hq
              refine ⟨.list (ps.map pgD), .list [], (Dt.lst (sq _ _ hk1) (hk2.same sq)).dp, (Dt.lst upd_same .nil).dp, (sh_pgs ps).ok, (sh_pgs []).ok, ?_⟩
              refine ⟨_, rfl, ?_⟩
              have hac' : upd H7 q (.lst []) D = some (.lst ac) := sq _ _ hac
              by_cases hps : ps = []
              · have ee : PyData.eqv (.list (ps.map pgD)) (.list []) = true := by rw [hps]; rfl
                rw [ee]
                refine iteT ⟨_, rfl, ac, hac', szt (by omega), ac ++ [_], upd_same, ?_, by rw [List.length_append]; show _ + 1 ≤ _; omega, Same.mut (s7.trans sq) hD⟩
                rw [List.length_append, cnt_is2 hc, if_pos (show is2 c = true from decide_eq_true e), hl, if_pos hps, if_pos hps]; rfl
              · have ee : PyData.eqv (.list (ps.map pgD)) (.list []) = false := by
                  cases ps with
                  | nil => exact absurd rfl hps
                  | cons c cs => rfl
                rw [ee]
                refine iteF ⟨ac, hac', ?_, by omega, s7.trans sq⟩
                rw [hl, if_neg hps, if_neg hps]
            · refine ⟨ac, hac, ?_, by omega, s7⟩
              rw [cnt_is2 hc, if_neg (show ¬ is2 c = true by unfold is2; rw [decide_eq_false e]; decide), hl, Nat.add_zero]
          · rintro H7 ⟨ac, hac, hl, hl2, s7⟩
            rw [hcl, List.take_length] at hl
            have eg := good_is pk hl
            have hdp := hdp.same s7
            have j := j.same s7
            walk_at "ro"
            rw [eg]
            clear eg hl hl2 hac hD D hva hxs hcl s7 xs ac
            -- program and good, spoilt at times
            refine ⟨fun σ H' => ∃ (vp : V) (d : PyData) (gb : Bool), σ = [some (.ref a), some (.ref tp), some (.int ((24 + b' : Nat) : Int)), some (.ref x), some (.ref Kn), some (.ref Mk), some (.int (0 + (i : Int))), some vp, some (.bl gb), none, v10, v11, none, none, none] ∧ Dt H' vp d ∧ SeqAt.shaped d = true ∧ noTp d = true ∧ (∀ ds, d = .tuple ds → ∀ c ∈ ds, ClFit c) ∧
              gb = isPg ((2 + ps.length : Nat) : Int) d ∧ (gb = true → ∃ cs, d = pgD cs ∧ PgOk cs) ∧ J3 C_Types tp p x L R Kn Mk (24 + b') ps ps ms rs H', ?_, ?_⟩
            · walk_at "ro"
              refine ⟨tp, p, 8, rfl, by decide, by decide, j.tp, fun y H10 y0 y1 t10 c10 => ?_⟩
              have hdp := hdp.ts (j.tp.ts c10) (show tonly (.tuple (cs.map clD)) = true from cls_tonly cs)
              have j := j.next A t10 c10
              walk_at "ro"
              refine iteD (fun e => ?_) (fun e => ?_)
              · have hd' := hdp
                unfold pgD at hd'
                cases hd' with
                | @tup _ xs _ hva hxs =>
                  have c4 := pk.c4
                  walk_at "ro"
                  refine fun u hu => ?_
                  have su := Same.new (o := .lst xs) hu
                  have nu := j.tp.at hu
                  have hu1 : upd H10 u (.lst xs) u = some (.lst xs) := upd_same
                  have j := j.same su
                  have hdp := hdp.same su
                  have hxs := hxs.same su
                  generalize upd H10 u (.lst xs) = H11 at hu1 j hdp hxs
                  refine ⟨_, rfl, ?_⟩
                  refine go_tup (ds := [cl e0 (.int 0) (.int 1) (.int 40)]) (lit_tup (lit_cons (lit_tup (lit_cons (lit_tup lit_nil rfl) (lit_cons (lit_int _) (lit_cons (lit_int _) (lit_cons (lit_int _) lit_nil)))) rfl) lit_nil) rfl) fun vt H12 s12 ht => ?_
                  refine r_catD (ds := cs.map clD) (hdp.same s12) ht (by rw [List.length_map]; show _ + 1 ≤ _; omega) fun vc H13 s13 hvc => ?_
                  refine ⟨szl rfl, fun wl hwl => ?_⟩
                  have s14 := Same.new (o := .lst [.ref u, .non, vc]) hwl
                  have j := ((j.same s12).same s13).same s14
                  have nwl := (j.fresh (D := wl))
                  have hu4 := s14 _ _ (s13 _ _ (s12 _ _ hu1))
                  have hxs4 := ((hxs.same s12).same s13).same s14
                  have hvc4 := hvc.same s14
                  have hwl4 : upd H13 wl (.lst [.ref u, .non, vc]) wl = some (.lst [.ref u, .non, vc]) := upd_same
                  have nw : wl ≠ tp := by
                    obtain ⟨ns', i', r', z', ha', _⟩ := j.tp
                    refine ne_of hwl4 ha' ?_
                    intro q
                    injection q with q
                    exact absurd (congrArg List.length q) (by show ¬ ((3 : Nat) = 4); decide)
                  generalize upd H13 wl (.lst [.ref u, .non, vc]) = H14 at j hu4 hxs4 hvc4 hwl4
                  walk_at "ro"
                  refine ⟨tp, p, 3, rfl, by decide, by decide, j.tp, fun z H15 z0 z1 t15 c15 => ?_⟩
                  have ts := j.tp.ts c15
                  have hwl5 := c15 wl _ nw hwl4
                  have d1 : Dt H15 (.ref u) (.list (cs.map clD)) := .lst (c15 u _ nu hu4) (hxs4.ts ts (cls_tonly cs))
                  have oc : ∀ es : List PyData, tonlyAll es = true → tonlyAll (es ++ [cl e0 (.int 0) (.int 1) (.int 40)]) = true := by
                    intro es
                    induction es with
                    | nil => intro _; rfl
                    | cons e es ih =>
                      intro h
                      have h' : (tonly e && tonlyAll es) = true := h
                      rw [Bool.and_eq_true] at h'
                      show (tonly e && tonlyAll (es ++ [_])) = true
                      rw [h'.1, ih h'.2]; rfl
                  have d3 : Dt H15 vc (.tuple (cs.map clD ++ [cl e0 (.int 0) (.int 1) (.int 40)])) := hvc4.ts ts (oc _ (cls_tonly cs))
                  have j := j.next A t15 c15
                  have shc : Sh 4 (cl e0 (.int 0) (.int 1) (.int 40)) := Sh.tup (n := 3) fun d hd => by
                    simp only [List.mem_cons, List.not_mem_nil, or_false] at hd
                    rcases hd with rfl | rfl | rfl | rfl
                    · exact Sh.tup (n := 2) fun d hd => (by cases hd)
                    · exact Sh.int _ _
                    · exact Sh.int _ _
                    · exact Sh.int _ _
                  have bad : isCl ((2 + ps.length : Nat) : Int) (cl e0 (.int 0) (.int 1) (.int 40)) = false := by
                    show (true && (true && (true && (false || ((decide ((0 : Int) ≤ 40) && decide ((40 : Int) ≤ ((2 + ps.length : Nat) : Int) - 1)) && true))))) = false
                    rw [decide_eq_false (by omega : ¬ (40 : Int) ≤ ((2 + ps.length : Nat) : Int) - 1)]; rfl
                  have pick : ∃ (v : V) (d : PyData), atI [V.ref u, V.non, vc] z = some v ∧ Dt H15 v d ∧ SeqAt.shaped d = true ∧ noTp d = true ∧ (∀ ds, d = .tuple ds → ∀ c ∈ ds, ClFit c) ∧ isPg ((2 + ps.length : Nat) : Int) d = false := by
                    have hz : z = 0 ∨ z = 1 ∨ z = 2 := by omega
                    rcases hz with rfl | rfl | rfl
                    · exact ⟨_, _, atC 0 rfl rfl, d1, (Sh.lst (n := 4) fun d hd => (by obtain ⟨c, _, rfl⟩ := List.mem_map.mp hd; exact sh_cl c)).ok, noTp_cls cs, fun ds e => (by cases e), rfl⟩
                    · exact ⟨_, .none, atC 1 rfl rfl, .non, (Sh.none 0).ok, rfl, fun ds e => (by cases e), rfl⟩
                    · refine ⟨_, _, atC 2 rfl rfl, d3, (Sh.tup (n := 4) fun d hd => ?_).ok, noTp_of (d := .tuple _) (oc _ (cls_tonly cs)), fun ds e c hc => ?_, ?_⟩
                      · rcases List.mem_append.mp hd with h | h
                        · obtain ⟨c, _, rfl⟩ := List.mem_map.mp h
                          exact sh_cl c
                        · rw [List.mem_singleton.mp h]
                          exact shc
                      · cases e
                        rcases List.mem_append.mp hc with h | h
                        · obtain ⟨c', _, rfl⟩ := List.mem_map.mp h
                          exact clD_fit c'
                        · rw [List.mem_singleton.mp h]
                          intro g s m k' e
                          unfold cl at e
                          cases e
                          exact ⟨sh_int _, fun a b e => (by cases e)⟩
                      · show (decide _ && (cs.map clD ++ [_]).all (isCl _)) = false
                        rw [List.all_append, List.all_cons, bad, Bool.false_and, Bool.and_false, Bool.and_false]
                  obtain ⟨v, d, hat, hvd, hvs, hvn, hvf, hvp⟩ := pick
                  refine ⟨_, _, _, _, rfl, rfl, SqL.of hwl5, hat, ?_⟩
                  walk_at "ro"
                  exact ⟨v, d, false, rfl, hvd, hvs, hvn, hvf, hvp.symm, fun e => (by cases e), j⟩
              · exact ⟨_, _, _, rfl, hdp, (sh_pg cs).ok, noTp_of (d := pgD cs) (cls_tonly cs), fun ds e c hc => (by
                  cases e
                  obtain ⟨c', _, rfl⟩ := List.mem_map.mp hc
                  exact clD_fit c'), rfl, fun _ => ⟨cs, rfl, pk⟩, j⟩
            · skip
              rintro σ H8 ⟨vp, d, gb, rfl, hd, hsh, hnt, hfit, hgb, hcs, j⟩
              walk_at "ro"
              refine ⟨tp, p, 4, rfl, by decide, by decide, j.tp, fun ev H9 ev0 ev1 t9 c9 => ?_⟩
              have hd := hd.tp j.tp c9 hnt
              have j := j.next A t9 c9
              obtain ⟨e, rfl⟩ := Int.eq_ofNat_of_zero_le ev0
              have e4 : e < 4 := by omega
              clear c9 t9 ev0 ev1
              walk_at "ro"
              refine ⟨fun σ H' => ∃ (vd : V) (dd : PyData) (ks : List (List Cl)) (ms' : List Nat), σ = [some (.ref a), some (.ref tp), some (.int ((24 + b' : Nat) : Int)), some (.ref x), some (.ref Kn), some (.ref Mk), some (.int (0 + (i : Int))), some vp, some (.bl gb), none, some (.int (e : Int)), some vd, none, none, none] ∧ (∀ H, Dt H vd dd) ∧ SeqAt.shaped dd = true ∧ Dt H' vp d ∧ J3 C_Types tp p x L R Kn Mk (24 + b') ps ks ms' rs H' ∧ DueIs gb ps ms e d vd ks ms', ?_, ?_⟩
              · cases gb with
                | false =>
                  walk_at "ro"
                  exact ⟨.non, .none, ps, ms, rfl, fun _ => .non, (Sh.none 0).ok, hd, j, .inr (.inr ⟨.inl rfl, rfl, rfl, rfl⟩)⟩
                | true =>
                  obtain ⟨cs, rfl, pk⟩ := hcs rfl
                  obtain ⟨xs, hk1, hk2⟩ := j.kn
                  walk_at "ro"
                  refine ⟨pgD cs, ps.map pgD, hd.dp, (Dt.lst hk1 hk2).dp, (sh_pg cs).ok, (sh_pgs ps).ok, ?_⟩
                  refine ⟨_, rfl, ?_⟩
                  cases e2 : isIn ps (pgD cs) with
                  | true =>
                    have e2' : ((ps.map pgD).any fun z => PyData.eqv z (pgD cs)) = true := e2
                    rw [e2']
                    refine iteT ?_
                    walk_at "ro"
                    refine ⟨.inl ⟨rfl, _, SqL.of hk1⟩, ?_⟩
                    walk_at "ro"
                    have hlt : fst ps (pgD cs) < (ps.map pgD).length := by
                      refine List.findIdx_lt_length.mpr ?_
                      obtain ⟨z, hz, hz2⟩ := List.any_eq_true.mp e2'
                      exact ⟨z, hz, hz2⟩
                    refine ⟨Kn, vp, pgD cs, ps.map pgD, fst ps (pgD cs), _, rfl, rfl, (Dt.lst hk1 hk2).dp, hd.dp, (sh_pgs ps).ok, (sh_pg cs).ok, List.getElem?_eq_getElem hlt, List.findIdx_getElem (p := fun z => PyData.eqv z (pgD cs)) (xs := ps.map pgD) (w := hlt), fun m z' hm hz' => ?_, ?_⟩
                    · have hml : m < (ps.map pgD).length := by omega
                      have := List.not_of_lt_findIdx hm
                      rw [List.getElem?_eq_getElem hml] at hz'
                      rw [← Option.some.inj hz']
                      simpa using this
                    · walk_at "ro"
                      exact ⟨_, .int ((2 + fst ps (pgD cs) : Nat) : Int), ps, ms, rfl, fun _ => (by show Dt _ (.int (2 + (fst ps (pgD cs) : Int))) _; rw [show (2 : Int) + (fst ps (pgD cs) : Int) = ((2 + fst ps (pgD cs) : Nat) : Int) by omega]; exact .int _), (Sh.int 0 _).ok, hd, j, .inl ⟨rfl, e2, (by show V.int (2 + (fst ps (pgD cs) : Int)) = _; rw [show (2 : Int) + (fst ps (pgD cs) : Int) = ((2 + fst ps (pgD cs) : Nat) : Int) by omega]), rfl, rfl⟩⟩
                  | false =>
                    have e2' : ((ps.map pgD).any fun z => PyData.eqv z (pgD cs)) = false := e2
                    rw [e2']
                    refine iteF ?_
                    have hm := j.hm
                    walk_at "ro"
                    refine ⟨.inl ⟨rfl, _, SqL.of hm⟩, ?_⟩
                    walk_at "ro"
                    refine ⟨Mk, _, .int (e : Int), rfl, rfl, SqL.of hm, rfl, all_vN ms, ?_⟩
                    rw [count_vN]
                    walk_at "ro"
                    refine iteD (fun e5 => ?_) (fun e5 => ?_)
                    · walk_at "ro"
                      refine ⟨.inl ⟨rfl, _, SqL.of hk1⟩, ?_⟩
                      walk_at "ro"
                      have xl : xs.length = ps.length := by rw [hk2.len, List.length_map]
                      refine ⟨_, _, _, rfl, rfl, hk1, szt (by omega), ?_⟩
                      have jn := j.app A (e := e) hk1 hk2 hd
                      have hm' : upd H9 Kn (.lst (xs ++ [vp])) Mk = some (.lst (ms.map vN)) := by rw [upd_ne A.KM.symm]; exact hm
                      have ts : TS H9 (upd (upd H9 Kn (.lst (xs ++ [vp]))) Mk (.lst (ms.map vN ++ [.int (e : Int)]))) := (Chg.upd.ts hk1).trans (Chg.upd.ts hm')
                      have hd2 := hd.ts ts (show tonly (.tuple (cs.map clD)) = true from cls_tonly cs)
                      walk_at "ro"
                      refine ⟨.inl ⟨rfl, _, SqL.of hm'⟩, ?_⟩
                      walk_at "ro"
                      refine ⟨_, _, _, rfl, rfl, hm', szt (by rw [List.length_map]; omega), ?_⟩
                      exact ⟨_, .int ((2 + ps.length : Nat) : Int), ps ++ [cs], ms ++ [e], rfl, fun _ => (by show Dt _ (.int (2 + (xs.length : Int))) _; rw [show (2 : Int) + (xs.length : Int) = ((2 + ps.length : Nat) : Int) by omega]; exact .int _), (Sh.int 0 _).ok, hd2, jn, .inr (.inl ⟨rfl, e2, by omega, (by show V.int (2 + (xs.length : Int)) = _; rw [show (2 : Int) + (xs.length : Int) = ((2 + ps.length : Nat) : Int) by omega]), ⟨cs, rfl, pk, rfl⟩, rfl⟩)⟩
                    · exact ⟨.non, .none, ps, ms, rfl, fun _ => .non, (Sh.none 0).ok, hd, j, .inr (.inr ⟨.inr ⟨e2, by omega⟩, rfl, rfl, rfl⟩)⟩
              · rintro σ H10 ⟨vd, dd, ks, ms', rfl, hdd, hds, hd, jj, due⟩
                obtain ⟨dx, hx⟩ := jj.ty.ins
                walk_at "ro"
                dsimp only [tNil]
                refine spAdd_use (fun v H' => v = vd ∧ ∃ ps' rs', J3 C_Types tp p x L R Kn Mk (24 + b') ps' ps' ms' rs' H' ∧ ps'.length ≤ i + 1 ∧ (∀ q ∈ ps', PgOk q) ∧ rs'.length = 4 ∧ (∀ e, e < 4 → rs'.getD e 0 = ms'.count e ∧ ms'.count e ≤ 4) ∧ ms'.length ≤ i + 1) x L R (24 + b') ps rs vp d e rfl jj.ty hd e4 rl (by omega) hfit ?_ ?_ ?_
                · rintro v H' ⟨rfl, ps', rs', j, pl, pok, rl, rc, ml⟩
                  clear jj due hx
                  walk_at "ro"
                  refine ⟨dd, dd, (hdd _).dp, (hdd _).dp, hds, hds, ?_⟩
                  refine ⟨_, rfl, ?_⟩
                  rw [PySem.SeqAt.eqv_refl _ (SeqAt.canLay_of_shaped hds)]
                  refine iteF ?_
                  obtain ⟨dx', hx'⟩ := j.ty.ins
                  walk_at "ro"
                  refine ⟨x, L, R, 24 + b', ps', rs', rfl, j.ty, fun v1 H5 s5 hv1 => ?_⟩
                  have j := j.same s5
                  obtain ⟨xs, hk1, hk2⟩ := j.kn
                  have xl : xs.length = ps'.length := by rw [hk2.len, List.length_map]
                  walk_at "ro"
                  refine ⟨_, _, hv1.dp, (Dt.lst hk1 hk2).dp, (sh_pgs ps').ok, (sh_pgs ps').ok, ?_⟩
                  refine ⟨_, rfl, ?_⟩
                  rw [PySem.SeqAt.eqv_refl _ (SeqAt.canLay_of_shaped (sh_pgs ps').ok)]
                  refine iteF ?_
                  obtain ⟨dx', hx'⟩ := j.ty.ins
                  walk_at "ro"
                  refine ⟨x, L, R, 24 + b', ps', rs', rfl, j.ty, ?_⟩
                  walk_at "ro"
                  refine iteDn (fun h => absurd (show V.int ((2 + ps'.length : Nat) : Int) = V.int (2 + (xs.length : Int)) by congr 1; omega) h) (fun _ => ?_)
                  have q1 : isI (.int (1 + (xs.length : Int))) 0 (((2 + ps'.length : Nat) : Int) - 1) = true := by
                    show (decide ((0 : Int) ≤ 1 + (xs.length : Int)) && decide (1 + (xs.length : Int) ≤ ((2 + ps'.length : Nat) : Int) - 1)) = true
                    rw [decide_eq_true (by omega), decide_eq_true (by omega)]; rfl
                  have q2 : isI (.int (2 + (xs.length : Int))) 0 (((2 + ps'.length : Nat) : Int) - 1) = false := by
                    show (decide ((0 : Int) ≤ 2 + (xs.length : Int)) && decide (2 + (xs.length : Int) ≤ ((2 + ps'.length : Nat) : Int) - 1)) = false
                    rw [decide_eq_false (by omega : ¬ 2 + (xs.length : Int) ≤ ((2 + ps'.length : Nat) : Int) - 1), Bool.and_false]
                  walk_at "ro"
                  refine ⟨x, L, R, 24 + b', ps', rs', _, .int (1 + (xs.length : Int)), rfl, j.ty, .int _, ?_⟩
                  rw [q1]
                  walk_at "ro"
                  refine ⟨x, L, R, 24 + b', ps', rs', _, .int (2 + (xs.length : Int)), rfl, j.ty, .int _, ?_⟩
                  rw [q2]
                  walk_at "ro"
                  refine iteDn (fun h => absurd rfl h) (fun _ => ?_)
                  exact ⟨ps', ms', rs', _, _, _, _, _, rfl, pl, pok, rl, rc, ml, j⟩
                · intro n H' s
                  rw [← hgb] at n
                  subst n
                  rcases due with ⟨z, _⟩ | ⟨z, _⟩ | ⟨_, rfl, rfl, rfl⟩
                  · cases z
                  · cases z
                  · exact ⟨rfl, ks, rs, jj.same s, by omega, pok, rl, rc, by omega⟩
                · intro n
                  rw [← hgb] at n
                  obtain ⟨cs, rfl, pk⟩ := hcs n
                  subst n
                  refine ⟨cs, rfl, fun q H' s => ?_, fun q r H' s => ?_, fun q r H' t c => ?_⟩
                  · rcases due with ⟨_, _, rfl, rfl, rfl⟩ | ⟨_, z, _⟩ | ⟨z | ⟨z, _⟩, _⟩
                    · exact ⟨rfl, ks, rs, jj.same s, by omega, pok, rl, rc, by omega⟩
                    · rw [q] at z; cases z
                    · cases z
                    · rw [q] at z; cases z
                  · rcases due with ⟨_, z, _⟩ | ⟨_, _, z, _⟩ | ⟨_, rfl, rfl, rfl⟩
                    · rw [q] at z; cases z
                    · have := (rc e e4).1
                      omega
                    · exact ⟨rfl, ks, rs, jj.same s, by omega, pok, rl, rc, by omega⟩
                  · rcases due with ⟨_, z, _⟩ | ⟨_, _, z, rfl, ⟨cs', e1, pk', rfl⟩, rfl⟩ | ⟨z | ⟨_, z⟩, _⟩
                    · rw [q] at z; cases z
                    · have ecs : cs' = cs := pgD_inj e1.symm
                      subst ecs
                      refine ⟨rfl, _, _, jj.chg2 A t c, by rw [List.length_append]; show _ + 1 ≤ _; omega, fun q hq => ?_, by rw [List.length_set]; exact rl, fun e' he' => ?_, by rw [List.length_append]; show _ + 1 ≤ _; omega⟩
                      · rcases List.mem_append.mp hq with h | h
                        · exact pok q h
                        · rw [List.mem_singleton.mp h]
                          exact pk
                      · have h1 := rc e' he'
                        have h2 := rc e e4
                        rw [List.count_append]
                        by_cases ee : e' = e
                        · subst ee
                          rw [List.count_singleton_self]
                          refine ⟨?_, by omega⟩
                          rw [List.getD_eq_getElem?_getD, List.getElem?_set_self (by omega), ← h1.1]; rfl
                        · rw [List.count_singleton, if_neg (by simpa using fun q => ee q.symm)]
                          refine ⟨?_, by omega⟩
                          rw [List.getD_eq_getElem?_getD, List.getElem?_set_ne (fun q => ee q.symm), ← List.getD_eq_getElem?_getD]
                          exact h1.1
                    · cases z
                    · have := (rc e e4)
                      omega
    · rintro σ H7 ⟨ps, ms, rs, v6, v7, v8, v10, v11, rfl, pl, pok, rl, rc, ml, j⟩
      have p16 : ps.length ≤ 16 := by omega
      clear ml rc rl pl c6 t6 j2 j1
      walk_at "ro"
      refine ⟨by decide, by decide, for_range (fun i σ H' => ∃ (v6 v11 v12 v14 : Option V), σ = [some (.ref a), some (.ref tp), some (.int ((24 + b' : Nat) : Int)), some (.ref x), some (.ref Kn), some (.ref Mk), v6, v7, v8, none, v10, v11, v12, none, v14] ∧ J3 C_Types tp p x L R Kn Mk (24 + b') ps ps ms rs H') ?_ ?_ ?_⟩
      · exact ⟨_, _, _, _, rfl, j⟩
      · rintro i σ H8 hi ⟨v6, v11, v12, v14, rfl, j⟩
        walk_at "ro"
        refine ⟨by decide, by decide, fun D hD => ?_⟩
        have fD := j.fresh hD
        refine lc_range (fun i H' => ∃ ws : List Nat, ws.length = i ∧ H' D = some (.lst (ws.map vN)) ∧ J3 C_Types tp p x L R Kn Mk (24 + b') ps ps ms rs H') ?_ ?_ ?_
        · exact ⟨[], rfl, upd_same, j.same (Same.new hD)⟩
        · rintro m H9 hm ⟨ws, wl, hD9, j⟩
          have hm8 : m < 8 := hm
          refine ⟨rfl, ?_⟩
          walk_at "ro"
          refine ⟨tp, p, 6, rfl, by decide, by decide, j.tp, fun y H10 y0 y1 t10 c10 => ?_⟩
          have j := j.next A t10 c10
          have hD9 := c10 D _ fD.1 hD9
          walk_at "ro"
          refine ⟨tp, p, 12, rfl, by decide, by decide, j.tp, fun z H11 z0 z1 t11 c11 => ?_⟩
          have j := j.next A t11 c11
          have hD9 := c11 D _ fD.1 hD9
          walk_at "ro"
          refine ⟨szl rfl, fun u hu => ?_⟩
          have su := Same.new (o := .lst [.int 0, .int y, .int (4 + z), .int ((24 + b' : Nat) : Int)]) hu
          have nu := t11.at hu
          have j := j.same su
          have hD9 := su _ _ hD9
          walk_at "ro"
          refine ⟨tp, p, 4, rfl, by decide, by decide, j.tp, fun g H12 g0 g1 t12 c12 => ?_⟩
          have hu12 := c12 u _ nu upd_same
          have j := j.next A t12 c12
          have hD9 := c12 D _ fD.1 hD9
          have pick : ∃ n : Nat, atI [V.int 0, V.int y, V.int (4 + z), V.int ((24 + b' : Nat) : Int)] g = some (V.int (n : Int)) := by
            have hg : g = 0 ∨ g = 1 ∨ g = 2 ∨ g = 3 := by omega
            rcases hg with rfl | rfl | rfl | rfl
            · exact ⟨0, atC 0 rfl rfl⟩
            · exact ⟨y.toNat, atC 1 rfl (by rw [Int.toNat_of_nonneg y0]; rfl)⟩
            · exact ⟨(4 + z).toNat, atC 2 rfl (by rw [Int.toNat_of_nonneg (by omega)]; rfl)⟩
            · exact ⟨24 + b', atC 3 rfl rfl⟩
          obtain ⟨n, hn⟩ := pick
          refine ⟨_, _, _, _, rfl, rfl, SqL.of hu12, hn, ?_⟩
          refine ⟨_, hD9, szt (by rw [List.length_map]; omega), ws ++ [n], by rw [List.length_append, wl]; rfl, ?_, j.other hD9 fD⟩
          rw [upd_same, List.map_append]; rfl
        · rintro H9 ⟨ws, h8, hD9, j⟩
          walk_at "ro"
          refine ⟨_, _, rfl, .inl ⟨SqL.of hD9, fun u hu => ?_⟩⟩
          have hw : Dt (upd H9 u (.tup (ws.map vN))) (.ref u) (pD ws) := pD_mk upd_same
          have j := j.same (Same.new (o := .tup (ws.map vN)) hu)
          generalize upd H9 u (.tup (ws.map vN)) = H10 at hw j
          obtain ⟨dx, hx⟩ := j.ty.ins
          walk_at "ro"
          refine ⟨x, L, R, 24 + b', ps, rs, rfl, j.ty, ?_⟩
          refine ⟨tp, p, ((2 + ps.length : Nat) : Int), rfl, by omega, by omega, j.tp, fun nb H11 nb0 nb1 t11 c11 => ?_⟩
          have hw := hw.ts (j.tp.ts c11) (pD_tonly ws)
          have j := j.next A t11 c11
          obtain ⟨n, rfl⟩ := Int.eq_ofNat_of_zero_le nb0
          have hn : n < 2 + ps.length := by omega
          clear hx dx c11 t11 nb0 nb1
          walk_at "ro"
          refine ⟨szl rfl, fun q hq => ?_⟩
          have hdq : Dt (upd H11 q (.tup [])) (.ref q) (.tuple []) := Dt.new .nil hq
          have hw := hw.same (Same.new (o := .tup []) hq)
          have j := j.same (Same.new (o := .tup []) hq)
          generalize upd H11 q (.tup []) = H12 at hdq hw j
          refine ⟨fun σ H' => ∃ vd : V, σ = [some (.ref a), some (.ref tp), some (.int ((24 + b' : Nat) : Int)), some (.ref x), some (.ref Kn), some (.ref Mk), some (.int (0 + (i : Int))), v7, v8, none, v10, some vd, some (.ref u), none, some (.int (n : Int))] ∧ Dt H' vd (ownD n ps ws (24 + b')) ∧ Dt H' (.ref u) (pD ws) ∧ J3 C_Types tp p x L R Kn Mk (24 + b') ps ps ms rs H', ?_, ?_⟩
          · obtain ⟨dx, hx⟩ := j.ty.ins
            walk_at "ro"
            refine iteD (fun e => ?_) (fun e => ?_)
            · have z : n = 1 := by
                have q : ((n : Nat) : Int) = 1 := by injection e
                omega
              subst z
              walk_at "ro"
              refine ⟨x, L, R, 24 + b', ps, rs, rfl, j.ty, ?_⟩
              exact ⟨.ref u, ws, 24 + b', 2 + ps.length, rfl, hw, h8, fun v H13 s13 hv => ⟨v, rfl, hv, hw.same s13, j.same s13⟩⟩
            · have z : ¬ n = 1 := fun q => e (by rw [q]; rfl)
              walk_at "ro"
              refine iteD (fun e => ?_) (fun e => ?_)
              · obtain ⟨xs, hk1, hk2⟩ := j.kn
                have hi : n - 2 < ps.length := by omega
                have hd : (ps.map pgD)[n - 2]? = some (pgD ps[n - 2]) := by rw [List.getElem?_map, List.getElem?_eq_getElem hi]; rfl
                obtain ⟨v, hv, hvd⟩ := hk2.get hd
                have eg : ownD n ps ws (24 + b') = runD ps[n - 2] ws (24 + b') n := by
                  unfold ownD
                  rw [if_neg (by omega), if_neg z, List.getD_eq_getElem?_getD, List.getElem?_eq_getElem hi]; rfl
                have pk := pok _ (List.getElem_mem hi)
                walk_at "ro"
                refine ⟨_, _, _, _, rfl, rfl, SqL.of hk1, atC (n - 2) (by omega) hv, ?_⟩
                walk_at "ro"
                refine ⟨v, .ref u, _, ws, 24 + b', n, rfl, hvd, hw, h8, by have := pk.c4; omega, pk.ok, fun r H13 s13 hr => ⟨r, rfl, ?_, hw.same s13, j.same s13⟩⟩
                rw [eg]
                exact hr
              · have z0 : n = 0 := by omega
                subst z0
                exact ⟨_, rfl, hdq, hw, j⟩
          · rintro σ H13 ⟨vd, rfl, hd, hw, j⟩
            obtain ⟨dx, hx⟩ := j.ty.ins
            walk_at "ro"
            refine ⟨x, L, R, 24 + b', ps, rs, .ref u, ws, n, rfl, j.ty, pok, hn, hw, h8, fun v H14 s14 hv => ?_⟩
            walk_at "ro"
            refine ⟨_, _, hv.dp, (hd.same s14).dp, sh_own _ _ _ _, sh_own _ _ _ _, _, rfl, ?_⟩
            rw [PySem.SeqAt.eqv_refl _ (SeqAt.canLay_of_shaped (sh_own _ _ _ _))]
            exact iteF ⟨_, _, _, _, rfl, j.same s14⟩
      · rintro σ H8 ⟨v6, v11, v12, v14, rfl, j⟩
        obtain ⟨dx, hx⟩ := j.ty.ins
        walk_at "ro"
        refine ⟨x, L, R, 24 + b', ps, rs, _, .none, rfl, j.ty, .non, ?_⟩
        refine ⟨_, _, rfl, rfl, _, rfl, iteT ?_⟩
        walk_at "ro"
        refine ⟨x, L, R, 24 + b', ps, rs, _, .bool true, rfl, j.ty, .bl true, ?_⟩
        refine ⟨_, _, rfl, rfl, _, rfl, iteT ?_⟩
        walk_at "ro"
        refine ⟨x, L, R, 24 + b', ps, rs, _, .int (-1), rfl, j.ty, .int _, ?_⟩
        refine ⟨_, _, rfl, rfl, ?_⟩
        exact k H8
end
end My

namespace My
open PySem L2
/-! ### what the top has written, and the end -/
/-- an error of the class at S is what an except of S names -/
theorem exm_self {K : PySem.W.Frag} {S : Addr} (h1 : PySem.W.subIn K (.ref S) (.type "BaseException") = some true) (h2 : PySem.W.isClsIn K S = true) (h3 : PySem.W.typeIn K (.ref S) = some (.type "type")) (h4 : PySem.W.subIn K (.ref S) (.ref S) = some true) : PySem.W.exmOne K (.ref S) (.ref S) = some true := by
  have e1 : (PySem.W.subIn K (.ref S) (.type "BaseException") == some true) = true := by rw [h1] <;> rfl
  have e2 : ((PySem.W.clsIn K S).isSome && PySem.W.typeIn K (.ref S) == some (.type "type")) = true := by
    have h2' : (PySem.W.clsIn K S).isSome = true := h2
    rw [h2', h3] <;> rfl
  unfold PySem.W.exmOne PySem.W.kitCls
  refine (if_pos e1).trans ((if_pos e2).trans ?_)
  exact h4
theorem all_mk {l : PySem.W.OpenLaw} {w : World} {K : PySem.W.Frag} {h : Heap} {mg : Str → Option Value} {fa : Addr} (X : K.In h) (G : h.Ns mainGlobals mg) (hfa : mg "law" = some (.ref fa))
    {C_Types C_NotValid : Addr}
    {f_law_next : Addr} {od_law_next an_law_next : Option Addr} {sl_law_next : Array (Option Value)} {oc_law_next kV_law_next dc_law_next pm_law_next cd_law_next ct_law_next : Value}
    {f_is_at_least : Addr} {od_is_at_least an_is_at_least : Option Addr} {sl_is_at_least : Array (Option Value)} {oc_is_at_least kV_is_at_least dc_is_at_least pm_is_at_least cd_is_at_least ct_is_at_least : Value}
    {f_is_between : Addr} {od_is_between an_is_between : Option Addr} {sl_is_between : Array (Option Value)} {oc_is_between kV_is_between dc_is_between pm_is_between cd_is_between ct_is_between : Value}
    {f_is_index : Addr} {od_is_index an_is_index : Option Addr} {sl_is_index : Array (Option Value)} {oc_is_index kV_is_index dc_is_index pm_is_index cd_is_index ct_is_index : Value}
    {f_is_word : Addr} {od_is_word an_is_word : Option Addr} {sl_is_word : Array (Option Value)} {oc_is_word kV_is_word dc_is_word pm_is_word cd_is_word ct_is_word : Value}
    {f_is_guard : Addr} {od_is_guard an_is_guard : Option Addr} {sl_is_guard : Array (Option Value)} {oc_is_guard kV_is_guard dc_is_guard pm_is_guard cd_is_guard ct_is_guard : Value}
    {f_is_many : Addr} {od_is_many an_is_many : Option Addr} {sl_is_many : Array (Option Value)} {oc_is_many kV_is_many dc_is_many pm_is_many cd_is_many ct_is_many : Value}
    {f_is_kind : Addr} {od_is_kind an_is_kind : Option Addr} {sl_is_kind : Array (Option Value)} {oc_is_kind kV_is_kind dc_is_kind pm_is_kind cd_is_kind ct_is_kind : Value}
    {f_is_clause : Addr} {od_is_clause an_is_clause : Option Addr} {sl_is_clause : Array (Option Value)} {oc_is_clause kV_is_clause dc_is_clause pm_is_clause cd_is_clause ct_is_clause : Value}
    {f_is_program : Addr} {od_is_program an_is_program : Option Addr} {sl_is_program : Array (Option Value)} {oc_is_program kV_is_program dc_is_program pm_is_program cd_is_program ct_is_program : Value}
    {f_let_pass : Addr} {od_let_pass an_let_pass : Option Addr} {sl_let_pass : Array (Option Value)} {oc_let_pass kV_let_pass dc_let_pass pm_let_pass cd_let_pass ct_let_pass : Value}
    {f_told : Addr} {od_told an_told : Option Addr} {sl_told : Array (Option Value)} {oc_told kV_told dc_told pm_told cd_told ct_told : Value}
    {f_can_be_owned : Addr} {od_can_be_owned an_can_be_owned : Option Addr} {sl_can_be_owned : Array (Option Value)} {oc_can_be_owned kV_can_be_owned dc_can_be_owned pm_can_be_owned cd_can_be_owned ct_can_be_owned : Value}
    {f_run_program : Addr} {od_run_program an_run_program : Option Addr} {sl_run_program : Array (Option Value)} {oc_run_program kV_run_program dc_run_program pm_run_program cd_run_program ct_run_program : Value}
    {f_law_run : Addr} {od_law_run an_law_run : Option Addr} {sl_law_run : Array (Option Value)} {oc_law_run kV_law_run dc_law_run pm_law_run cd_law_run ct_law_run : Value}
    {f_law_program : Addr} {od_law_program an_law_program : Option Addr} {sl_law_program : Array (Option Value)} {oc_law_program kV_law_program dc_law_program pm_law_program cd_law_program ct_law_program : Value}
    {f_Types_count : Addr} {od_Types_count an_Types_count : Option Addr} {sl_Types_count : Array (Option Value)} {oc_Types_count kV_Types_count dc_Types_count pm_Types_count cd_Types_count ct_Types_count : Value}
    {f_Types_is_known : Addr} {od_Types_is_known an_Types_is_known : Option Addr} {sl_Types_is_known : Array (Option Value)} {oc_Types_is_known kV_Types_is_known dc_Types_is_known pm_Types_is_known cd_Types_is_known ct_Types_is_known : Value}
    {f_Types_programs : Addr} {od_Types_programs an_Types_programs : Option Addr} {sl_Types_programs : Array (Option Value)} {oc_Types_programs kV_Types_programs dc_Types_programs pm_Types_programs cd_Types_programs ct_Types_programs : Value}
    {f_law_root : Addr} {od_law_root an_law_root : Option Addr} {sl_law_root : Array (Option Value)} {oc_law_root kV_law_root dc_law_root pm_law_root cd_law_root ct_law_root : Value}
    {f_Types_owned_by_root : Addr} {od_Types_owned_by_root an_Types_owned_by_root : Option Addr} {sl_Types_owned_by_root : Array (Option Value)} {oc_Types_owned_by_root kV_Types_owned_by_root dc_Types_owned_by_root pm_Types_owned_by_root cd_Types_owned_by_root ct_Types_owned_by_root : Value}
    {f_Types_owned : Addr} {od_Types_owned an_Types_owned : Option Addr} {sl_Types_owned : Array (Option Value)} {oc_Types_owned kV_Types_owned dc_Types_owned pm_Types_owned cd_Types_owned ct_Types_owned : Value}
    {f_Types_init : Addr} {od_Types_init an_Types_init : Option Addr} {sl_Types_init : Array (Option Value)} {oc_Types_init kV_Types_init dc_Types_init pm_Types_init cd_Types_init ct_Types_init : Value}
    {f_is_environment : Addr} {od_is_environment an_is_environment : Option Addr} {sl_is_environment : Array (Option Value)} {oc_is_environment kV_is_environment dc_is_environment pm_is_environment cd_is_environment ct_is_environment : Value}
    {f_Types_add : Addr} {od_Types_add an_Types_add : Option Addr} {sl_Types_add : Array (Option Value)} {oc_Types_add kV_Types_add dc_Types_add pm_Types_add cd_Types_add ct_Types_add : Value}
    {f_law : Addr} {od_law an_law : Option Addr} {sl_law : Array (Option Value)} {oc_law kV_law dc_law pm_law cd_law ct_law : Value}
    {t_DATA : Tok}
    {t_ENVIRONMENTS : Tok}
    {t_MOST_TYPES : Tok}
    {t_ROOT : Tok}
    {t_ROOT_BLOCKS : Tok}
    {t_TOP : Tok}
    {t_WORDS : Tok}
    {t__FIRST_OF_PROGRAMS : Tok}
    {t__MOST_CLAUSES : Tok}
    {t__MOST_GUARDS : Tok}
    (a_Types : PySem.W.nsIn K mainGlobals "Types" = some (some (.ref C_Types)))
    (g1_Types : PySem.W.plainGet K C_Types Str.empty = true)
    (g2_Types : PySem.W.hasDictIn K C_Types = true)
    (g3_Types : PySem.W.plainOver K C_Types = true)
    (g4_Types : PySem.W.findIn K (.ref C_Types) "__setattr__" = some (some (.builtin "object.__setattr__")))
    (m_Types : PySem.W.makesIn K C_Types = true)
    (k_Types : PySem.W.keepIn K (.ref C_Types) = true)
    (n_Types__blocks : PySem.W.findIn K (.ref C_Types) "_blocks" = some none)
    (n_Types__programs : PySem.W.findIn K (.ref C_Types) "_programs" = some none)
    (n_Types__registered : PySem.W.findIn K (.ref C_Types) "_registered" = some none)
    (a_NotValid : PySem.W.nsIn K mainGlobals "NotValid" = some (some (.ref C_NotValid)))
    (k_NotValid : PySem.W.keepIn K (.ref C_NotValid) = true)
    (x_NotValid : PySem.W.excIn K C_NotValid [.type "ValueError", .type "Exception", .type "BaseException", .type "object"] "ValueError.__new__" = true)
    (e1_NotValid : PySem.W.subIn K (.ref C_NotValid) (.type "BaseException") = some true)
    (e2_NotValid : PySem.W.isClsIn K C_NotValid = true)
    (e3_NotValid : PySem.W.typeIn K (.ref C_NotValid) = some (.type "type"))
    (e4_NotValid : PySem.W.subIn K (.ref C_NotValid) (.ref C_NotValid) = some true)
    (a_law_next : PySem.W.nsIn K mainGlobals "_law_next" = some (some (.ref f_law_next)))
    (l_law_next : K.lookup f_law_next = some ⟨oc_law_next, od_law_next, .func (PySem.W.fnOf "_law_next" "_law_next" (defArgs s_law_next) (defBody s_law_next) (defScope s_law_next) .none kV_law_next dc_law_next pm_law_next an_law_next cd_law_next ct_law_next), sl_law_next⟩)
    (q_law_next : PySem.W.codeIn K cd_law_next "_law_next" = true)
    (k_law_next : PySem.W.keepIn K (.ref f_law_next) = true)
    (a_is_at_least : PySem.W.nsIn K mainGlobals "is_at_least" = some (some (.ref f_is_at_least)))
    (l_is_at_least : K.lookup f_is_at_least = some ⟨oc_is_at_least, od_is_at_least, .func (PySem.W.fnOf "is_at_least" "is_at_least" (defArgs s_is_at_least) (defBody s_is_at_least) (defScope s_is_at_least) .none kV_is_at_least dc_is_at_least pm_is_at_least an_is_at_least cd_is_at_least ct_is_at_least), sl_is_at_least⟩)
    (q_is_at_least : PySem.W.codeIn K cd_is_at_least "is_at_least" = true)
    (k_is_at_least : PySem.W.keepIn K (.ref f_is_at_least) = true)
    (a_is_between : PySem.W.nsIn K mainGlobals "is_between" = some (some (.ref f_is_between)))
    (l_is_between : K.lookup f_is_between = some ⟨oc_is_between, od_is_between, .func (PySem.W.fnOf "is_between" "is_between" (defArgs s_is_between) (defBody s_is_between) (defScope s_is_between) .none kV_is_between dc_is_between pm_is_between an_is_between cd_is_between ct_is_between), sl_is_between⟩)
    (q_is_between : PySem.W.codeIn K cd_is_between "is_between" = true)
    (k_is_between : PySem.W.keepIn K (.ref f_is_between) = true)
    (a_is_index : PySem.W.nsIn K mainGlobals "is_index" = some (some (.ref f_is_index)))
    (l_is_index : K.lookup f_is_index = some ⟨oc_is_index, od_is_index, .func (PySem.W.fnOf "is_index" "is_index" (defArgs s_is_index) (defBody s_is_index) (defScope s_is_index) .none kV_is_index dc_is_index pm_is_index an_is_index cd_is_index ct_is_index), sl_is_index⟩)
    (q_is_index : PySem.W.codeIn K cd_is_index "is_index" = true)
    (k_is_index : PySem.W.keepIn K (.ref f_is_index) = true)
    (a_is_word : PySem.W.nsIn K mainGlobals "is_word" = some (some (.ref f_is_word)))
    (l_is_word : K.lookup f_is_word = some ⟨oc_is_word, od_is_word, .func (PySem.W.fnOf "is_word" "is_word" (defArgs s_is_word) (defBody s_is_word) (defScope s_is_word) .none kV_is_word dc_is_word pm_is_word an_is_word cd_is_word ct_is_word), sl_is_word⟩)
    (q_is_word : PySem.W.codeIn K cd_is_word "is_word" = true)
    (k_is_word : PySem.W.keepIn K (.ref f_is_word) = true)
    (a_is_guard : PySem.W.nsIn K mainGlobals "_is_guard" = some (some (.ref f_is_guard)))
    (l_is_guard : K.lookup f_is_guard = some ⟨oc_is_guard, od_is_guard, .func (PySem.W.fnOf "_is_guard" "_is_guard" (defArgs s_is_guard) (defBody s_is_guard) (defScope s_is_guard) .none kV_is_guard dc_is_guard pm_is_guard an_is_guard cd_is_guard ct_is_guard), sl_is_guard⟩)
    (q_is_guard : PySem.W.codeIn K cd_is_guard "_is_guard" = true)
    (k_is_guard : PySem.W.keepIn K (.ref f_is_guard) = true)
    (a_is_many : PySem.W.nsIn K mainGlobals "_is_many" = some (some (.ref f_is_many)))
    (l_is_many : K.lookup f_is_many = some ⟨oc_is_many, od_is_many, .func (PySem.W.fnOf "_is_many" "_is_many" (defArgs s_is_many) (defBody s_is_many) (defScope s_is_many) .none kV_is_many dc_is_many pm_is_many an_is_many cd_is_many ct_is_many), sl_is_many⟩)
    (q_is_many : PySem.W.codeIn K cd_is_many "_is_many" = true)
    (k_is_many : PySem.W.keepIn K (.ref f_is_many) = true)
    (a_is_kind : PySem.W.nsIn K mainGlobals "_is_kind" = some (some (.ref f_is_kind)))
    (l_is_kind : K.lookup f_is_kind = some ⟨oc_is_kind, od_is_kind, .func (PySem.W.fnOf "_is_kind" "_is_kind" (defArgs s_is_kind) (defBody s_is_kind) (defScope s_is_kind) .none kV_is_kind dc_is_kind pm_is_kind an_is_kind cd_is_kind ct_is_kind), sl_is_kind⟩)
    (q_is_kind : PySem.W.codeIn K cd_is_kind "_is_kind" = true)
    (k_is_kind : PySem.W.keepIn K (.ref f_is_kind) = true)
    (a_is_clause : PySem.W.nsIn K mainGlobals "_is_clause" = some (some (.ref f_is_clause)))
    (l_is_clause : K.lookup f_is_clause = some ⟨oc_is_clause, od_is_clause, .func (PySem.W.fnOf "_is_clause" "_is_clause" (defArgs s_is_clause) (defBody s_is_clause) (defScope s_is_clause) .none kV_is_clause dc_is_clause pm_is_clause an_is_clause cd_is_clause ct_is_clause), sl_is_clause⟩)
    (q_is_clause : PySem.W.codeIn K cd_is_clause "_is_clause" = true)
    (k_is_clause : PySem.W.keepIn K (.ref f_is_clause) = true)
    (a_is_program : PySem.W.nsIn K mainGlobals "is_program" = some (some (.ref f_is_program)))
    (l_is_program : K.lookup f_is_program = some ⟨oc_is_program, od_is_program, .func (PySem.W.fnOf "is_program" "is_program" (defArgs s_is_program) (defBody s_is_program) (defScope s_is_program) .none kV_is_program dc_is_program pm_is_program an_is_program cd_is_program ct_is_program), sl_is_program⟩)
    (q_is_program : PySem.W.codeIn K cd_is_program "is_program" = true)
    (k_is_program : PySem.W.keepIn K (.ref f_is_program) = true)
    (a_let_pass : PySem.W.nsIn K mainGlobals "_let_pass" = some (some (.ref f_let_pass)))
    (l_let_pass : K.lookup f_let_pass = some ⟨oc_let_pass, od_let_pass, .func (PySem.W.fnOf "_let_pass" "_let_pass" (defArgs s_let_pass) (defBody s_let_pass) (defScope s_let_pass) .none kV_let_pass dc_let_pass pm_let_pass an_let_pass cd_let_pass ct_let_pass), sl_let_pass⟩)
    (q_let_pass : PySem.W.codeIn K cd_let_pass "_let_pass" = true)
    (k_let_pass : PySem.W.keepIn K (.ref f_let_pass) = true)
    (a_told : PySem.W.nsIn K mainGlobals "_told" = some (some (.ref f_told)))
    (l_told : K.lookup f_told = some ⟨oc_told, od_told, .func (PySem.W.fnOf "_told" "_told" (defArgs s_told) (defBody s_told) (defScope s_told) .none kV_told dc_told pm_told an_told cd_told ct_told), sl_told⟩)
    (q_told : PySem.W.codeIn K cd_told "_told" = true)
    (k_told : PySem.W.keepIn K (.ref f_told) = true)
    (a_can_be_owned : PySem.W.nsIn K mainGlobals "_can_be_owned" = some (some (.ref f_can_be_owned)))
    (l_can_be_owned : K.lookup f_can_be_owned = some ⟨oc_can_be_owned, od_can_be_owned, .func (PySem.W.fnOf "_can_be_owned" "_can_be_owned" (defArgs s_can_be_owned) (defBody s_can_be_owned) (defScope s_can_be_owned) .none kV_can_be_owned dc_can_be_owned pm_can_be_owned an_can_be_owned cd_can_be_owned ct_can_be_owned), sl_can_be_owned⟩)
    (q_can_be_owned : PySem.W.codeIn K cd_can_be_owned "_can_be_owned" = true)
    (k_can_be_owned : PySem.W.keepIn K (.ref f_can_be_owned) = true)
    (a_run_program : PySem.W.nsIn K mainGlobals "run_program" = some (some (.ref f_run_program)))
    (l_run_program : K.lookup f_run_program = some ⟨oc_run_program, od_run_program, .func (PySem.W.fnOf "run_program" "run_program" (defArgs s_run_program) (defBody s_run_program) (defScope s_run_program) .none kV_run_program dc_run_program pm_run_program an_run_program cd_run_program ct_run_program), sl_run_program⟩)
    (q_run_program : PySem.W.codeIn K cd_run_program "run_program" = true)
    (k_run_program : PySem.W.keepIn K (.ref f_run_program) = true)
    (a_law_run : PySem.W.nsIn K mainGlobals "_law_run" = some (some (.ref f_law_run)))
    (l_law_run : K.lookup f_law_run = some ⟨oc_law_run, od_law_run, .func (PySem.W.fnOf "_law_run" "_law_run" (defArgs s_law_run) (defBody s_law_run) (defScope s_law_run) .none kV_law_run dc_law_run pm_law_run an_law_run cd_law_run ct_law_run), sl_law_run⟩)
    (q_law_run : PySem.W.codeIn K cd_law_run "_law_run" = true)
    (k_law_run : PySem.W.keepIn K (.ref f_law_run) = true)
    (a_law_program : PySem.W.nsIn K mainGlobals "_law_program" = some (some (.ref f_law_program)))
    (l_law_program : K.lookup f_law_program = some ⟨oc_law_program, od_law_program, .func (PySem.W.fnOf "_law_program" "_law_program" (defArgs s_law_program) (defBody s_law_program) (defScope s_law_program) .none kV_law_program dc_law_program pm_law_program an_law_program cd_law_program ct_law_program), sl_law_program⟩)
    (q_law_program : PySem.W.codeIn K cd_law_program "_law_program" = true)
    (k_law_program : PySem.W.keepIn K (.ref f_law_program) = true)
    (a_Types_count : PySem.W.findIn K (.ref C_Types) "count" = some (some (.ref f_Types_count)))
    (i_Types_count : PySem.W.isFn K (.ref f_Types_count) = true)
    (l_Types_count : K.lookup f_Types_count = some ⟨oc_Types_count, od_Types_count, .func (PySem.W.fnOf "count" "Types.count" (defArgs s_Types_count) (defBody s_Types_count) (defScope s_Types_count) .none kV_Types_count dc_Types_count pm_Types_count an_Types_count cd_Types_count ct_Types_count), sl_Types_count⟩)
    (q_Types_count : PySem.W.codeIn K cd_Types_count "Types.count" = true)
    (k_Types_count : PySem.W.keepIn K (.ref f_Types_count) = true)
    (a_Types_is_known : PySem.W.findIn K (.ref C_Types) "is_known" = some (some (.ref f_Types_is_known)))
    (i_Types_is_known : PySem.W.isFn K (.ref f_Types_is_known) = true)
    (l_Types_is_known : K.lookup f_Types_is_known = some ⟨oc_Types_is_known, od_Types_is_known, .func (PySem.W.fnOf "is_known" "Types.is_known" (defArgs s_Types_is_known) (defBody s_Types_is_known) (defScope s_Types_is_known) .none kV_Types_is_known dc_Types_is_known pm_Types_is_known an_Types_is_known cd_Types_is_known ct_Types_is_known), sl_Types_is_known⟩)
    (q_Types_is_known : PySem.W.codeIn K cd_Types_is_known "Types.is_known" = true)
    (k_Types_is_known : PySem.W.keepIn K (.ref f_Types_is_known) = true)
    (a_Types_programs : PySem.W.findIn K (.ref C_Types) "programs" = some (some (.ref f_Types_programs)))
    (i_Types_programs : PySem.W.isFn K (.ref f_Types_programs) = true)
    (l_Types_programs : K.lookup f_Types_programs = some ⟨oc_Types_programs, od_Types_programs, .func (PySem.W.fnOf "programs" "Types.programs" (defArgs s_Types_programs) (defBody s_Types_programs) (defScope s_Types_programs) .none kV_Types_programs dc_Types_programs pm_Types_programs an_Types_programs cd_Types_programs ct_Types_programs), sl_Types_programs⟩)
    (q_Types_programs : PySem.W.codeIn K cd_Types_programs "Types.programs" = true)
    (k_Types_programs : PySem.W.keepIn K (.ref f_Types_programs) = true)
    (a_law_root : PySem.W.nsIn K mainGlobals "_law_root" = some (some (.ref f_law_root)))
    (l_law_root : K.lookup f_law_root = some ⟨oc_law_root, od_law_root, .func (PySem.W.fnOf "_law_root" "_law_root" (defArgs s_law_root) (defBody s_law_root) (defScope s_law_root) .none kV_law_root dc_law_root pm_law_root an_law_root cd_law_root ct_law_root), sl_law_root⟩)
    (q_law_root : PySem.W.codeIn K cd_law_root "_law_root" = true)
    (k_law_root : PySem.W.keepIn K (.ref f_law_root) = true)
    (a_Types_owned_by_root : PySem.W.findIn K (.ref C_Types) "_owned_by_root" = some (some (.ref f_Types_owned_by_root)))
    (i_Types_owned_by_root : PySem.W.isFn K (.ref f_Types_owned_by_root) = true)
    (l_Types_owned_by_root : K.lookup f_Types_owned_by_root = some ⟨oc_Types_owned_by_root, od_Types_owned_by_root, .func (PySem.W.fnOf "_owned_by_root" "Types._owned_by_root" (defArgs s_Types_owned_by_root) (defBody s_Types_owned_by_root) (defScope s_Types_owned_by_root) .none kV_Types_owned_by_root dc_Types_owned_by_root pm_Types_owned_by_root an_Types_owned_by_root cd_Types_owned_by_root ct_Types_owned_by_root), sl_Types_owned_by_root⟩)
    (q_Types_owned_by_root : PySem.W.codeIn K cd_Types_owned_by_root "Types._owned_by_root" = true)
    (k_Types_owned_by_root : PySem.W.keepIn K (.ref f_Types_owned_by_root) = true)
    (a_Types_owned : PySem.W.findIn K (.ref C_Types) "owned" = some (some (.ref f_Types_owned)))
    (i_Types_owned : PySem.W.isFn K (.ref f_Types_owned) = true)
    (l_Types_owned : K.lookup f_Types_owned = some ⟨oc_Types_owned, od_Types_owned, .func (PySem.W.fnOf "owned" "Types.owned" (defArgs s_Types_owned) (defBody s_Types_owned) (defScope s_Types_owned) .none kV_Types_owned dc_Types_owned pm_Types_owned an_Types_owned cd_Types_owned ct_Types_owned), sl_Types_owned⟩)
    (q_Types_owned : PySem.W.codeIn K cd_Types_owned "Types.owned" = true)
    (k_Types_owned : PySem.W.keepIn K (.ref f_Types_owned) = true)
    (a_Types_init : PySem.W.findIn K (.ref C_Types) "__init__" = some (some (.ref f_Types_init)))
    (i_Types_init : PySem.W.isFn K (.ref f_Types_init) = true)
    (l_Types_init : K.lookup f_Types_init = some ⟨oc_Types_init, od_Types_init, .func (PySem.W.fnOf "__init__" "Types.__init__" (defArgs s_Types_init) (defBody s_Types_init) (defScope s_Types_init) .none kV_Types_init dc_Types_init pm_Types_init an_Types_init cd_Types_init ct_Types_init), sl_Types_init⟩)
    (q_Types_init : PySem.W.codeIn K cd_Types_init "Types.__init__" = true)
    (k_Types_init : PySem.W.keepIn K (.ref f_Types_init) = true)
    (a_is_environment : PySem.W.nsIn K mainGlobals "is_environment" = some (some (.ref f_is_environment)))
    (l_is_environment : K.lookup f_is_environment = some ⟨oc_is_environment, od_is_environment, .func (PySem.W.fnOf "is_environment" "is_environment" (defArgs s_is_environment) (defBody s_is_environment) (defScope s_is_environment) .none kV_is_environment dc_is_environment pm_is_environment an_is_environment cd_is_environment ct_is_environment), sl_is_environment⟩)
    (q_is_environment : PySem.W.codeIn K cd_is_environment "is_environment" = true)
    (k_is_environment : PySem.W.keepIn K (.ref f_is_environment) = true)
    (a_Types_add : PySem.W.findIn K (.ref C_Types) "add" = some (some (.ref f_Types_add)))
    (i_Types_add : PySem.W.isFn K (.ref f_Types_add) = true)
    (l_Types_add : K.lookup f_Types_add = some ⟨oc_Types_add, od_Types_add, .func (PySem.W.fnOf "add" "Types.add" (defArgs s_Types_add) (defBody s_Types_add) (defScope s_Types_add) .none kV_Types_add dc_Types_add pm_Types_add an_Types_add cd_Types_add ct_Types_add), sl_Types_add⟩)
    (q_Types_add : PySem.W.codeIn K cd_Types_add "Types.add" = true)
    (k_Types_add : PySem.W.keepIn K (.ref f_Types_add) = true)
    (a_law : PySem.W.nsIn K mainGlobals "law" = some (some (.ref f_law)))
    (l_law : K.lookup f_law = some ⟨oc_law, od_law, .func (PySem.W.fnOf "law" "law" (defArgs s_law) (defBody s_law) (defScope s_law) .none kV_law dc_law pm_law an_law cd_law ct_law), sl_law⟩)
    (q_law : PySem.W.codeIn K cd_law "law" = true)
    (k_law : PySem.W.keepIn K (.ref f_law) = true)
    (z_abs : PySem.W.nsIn K mainGlobals "abs" = some none)
    (z_all : PySem.W.nsIn K mainGlobals "all" = some none)
    (z_bool : PySem.W.nsIn K mainGlobals "bool" = some none)
    (z_int : PySem.W.nsIn K mainGlobals "int" = some none)
    (z_isinstance : PySem.W.nsIn K mainGlobals "isinstance" = some none)
    (z_len : PySem.W.nsIn K mainGlobals "len" = some none)
    (z_list : PySem.W.nsIn K mainGlobals "list" = some none)
    (z_min : PySem.W.nsIn K mainGlobals "min" = some none)
    (z_range : PySem.W.nsIn K mainGlobals "range" = some none)
    (z_set : PySem.W.nsIn K mainGlobals "set" = some none)
    (z_tuple : PySem.W.nsIn K mainGlobals "tuple" = some none)
    (y_DATA : PySem.W.nsIn K mainGlobals "DATA" = some (some (.int 0 t_DATA)))
    (y_ENVIRONMENTS : PySem.W.nsIn K mainGlobals "ENVIRONMENTS" = some (some (.int 4 t_ENVIRONMENTS)))
    (y_MOST_TYPES : PySem.W.nsIn K mainGlobals "MOST_TYPES" = some (some (.int 4 t_MOST_TYPES)))
    (y_ROOT : PySem.W.nsIn K mainGlobals "ROOT" = some (some (.int 1 t_ROOT)))
    (y_ROOT_BLOCKS : PySem.W.nsIn K mainGlobals "ROOT_BLOCKS" = some (some (.int 4 t_ROOT_BLOCKS)))
    (y_TOP : PySem.W.nsIn K mainGlobals "TOP" = some (some (.int 4294967295 t_TOP)))
    (y_WORDS : PySem.W.nsIn K mainGlobals "WORDS" = some (some (.int 8 t_WORDS)))
    (y__FIRST_OF_PROGRAMS : PySem.W.nsIn K mainGlobals "_FIRST_OF_PROGRAMS" = some (some (.int 2 t__FIRST_OF_PROGRAMS)))
    (y__MOST_CLAUSES : PySem.W.nsIn K mainGlobals "_MOST_CLAUSES" = some (some (.int 8 t__MOST_CLAUSES)))
    (y__MOST_GUARDS : PySem.W.nsIn K mainGlobals "_MOST_GUARDS" = some (some (.int 4 t__MOST_GUARDS))) :
    ∃ fd : FuncData, (∀ (s : Shared) (v : Value), BindsTo s fd ⟨[v], []⟩ [("script", v)]) ∧ ∀ base : Heap, K.In base → base.Ns mainGlobals mg → FnOk l.prog w K mg base CX0 8 fa fd ["script"] (spLaw K) := by
  have e := hfa.symm.trans (PySem.W.mg_of X G a_law)
  cases e
  have T : Txt K mg C_Types C_NotValid := ⟨PySem.W.mg_none_of X G z_abs, PySem.W.mg_none_of X G z_all, PySem.W.mg_none_of X G z_bool, PySem.W.mg_none_of X G z_int, PySem.W.mg_none_of X G z_isinstance, PySem.W.mg_none_of X G z_len, PySem.W.mg_none_of X G z_list, PySem.W.mg_none_of X G z_min, PySem.W.mg_none_of X G z_range, PySem.W.mg_none_of X G z_set, PySem.W.mg_none_of X G z_tuple, ⟨_, PySem.W.mg_of X G y_DATA⟩, ⟨_, PySem.W.mg_of X G y_ENVIRONMENTS⟩, ⟨_, PySem.W.mg_of X G y_MOST_TYPES⟩, ⟨_, PySem.W.mg_of X G y_ROOT⟩, ⟨_, PySem.W.mg_of X G y_ROOT_BLOCKS⟩, ⟨_, PySem.W.mg_of X G y_TOP⟩, ⟨_, PySem.W.mg_of X G y_WORDS⟩, ⟨_, PySem.W.mg_of X G y__FIRST_OF_PROGRAMS⟩, ⟨_, PySem.W.mg_of X G y__MOST_CLAUSES⟩, ⟨_, PySem.W.mg_of X G y__MOST_GUARDS⟩, ⟨PySem.W.mg_of X G a_NotValid, k_NotValid, x_NotValid, e1_NotValid, e3_NotValid, exm_self e1_NotValid e2_NotValid e3_NotValid e4_NotValid⟩, ⟨g1_Types, g2_Types, g3_Types, g4_Types⟩, n_Types__blocks, n_Types__programs, n_Types__registered⟩
  have F_law_next := fun_mk (st := s_law_next) l_law_next q_law_next k_law_next
  have B_law_next := F_law_next.binds (ps := ["tape", "many"]) fun _ _ _ _ _ _ us hl => match us, hl with | [_, _], _ => rfl
  have F_is_at_least := fun_mk (st := s_is_at_least) l_is_at_least q_is_at_least k_is_at_least
  have B_is_at_least := F_is_at_least.binds (ps := ["value", "least"]) fun _ _ _ _ _ _ us hl => match us, hl with | [_, _], _ => rfl
  have F_is_between := fun_mk (st := s_is_between) l_is_between q_is_between k_is_between
  have B_is_between := F_is_between.binds (ps := ["value", "least", "most"]) fun _ _ _ _ _ _ us hl => match us, hl with | [_, _, _], _ => rfl
  have F_is_index := fun_mk (st := s_is_index) l_is_index q_is_index k_is_index
  have B_is_index := F_is_index.binds (ps := ["value", "many"]) fun _ _ _ _ _ _ us hl => match us, hl with | [_, _], _ => rfl
  have F_is_word := fun_mk (st := s_is_word) l_is_word q_is_word k_is_word
  have B_is_word := F_is_word.binds (ps := ["value"]) fun _ _ _ _ _ _ us hl => match us, hl with | [_], _ => rfl
  have F_is_guard := fun_mk (st := s_is_guard) l_is_guard q_is_guard k_is_guard
  have B_is_guard := F_is_guard.binds (ps := ["value"]) fun _ _ _ _ _ _ us hl => match us, hl with | [_], _ => rfl
  have F_is_many := fun_mk (st := s_is_many) l_is_many q_is_many k_is_many
  have B_is_many := F_is_many.binds (ps := ["value", "start"]) fun _ _ _ _ _ _ us hl => match us, hl with | [_, _], _ => rfl
  have F_is_kind := fun_mk (st := s_is_kind) l_is_kind q_is_kind k_is_kind
  have B_is_kind := F_is_kind.binds (ps := ["value", "count"]) fun _ _ _ _ _ _ us hl => match us, hl with | [_, _], _ => rfl
  have F_is_clause := fun_mk (st := s_is_clause) l_is_clause q_is_clause k_is_clause
  have B_is_clause := F_is_clause.binds (ps := ["value", "count"]) fun _ _ _ _ _ _ us hl => match us, hl with | [_, _], _ => rfl
  have F_is_program := fun_mk (st := s_is_program) l_is_program q_is_program k_is_program
  have B_is_program := F_is_program.binds (ps := ["value", "count"]) fun _ _ _ _ _ _ us hl => match us, hl with | [_, _], _ => rfl
  have F_let_pass := fun_mk (st := s_let_pass) l_let_pass q_let_pass k_let_pass
  have B_let_pass := F_let_pass.binds (ps := ["guards", "words"]) fun _ _ _ _ _ _ us hl => match us, hl with | [_, _], _ => rfl
  have F_told := fun_mk (st := s_told) l_told q_told k_told
  have B_told := F_told.binds (ps := ["words", "start", "many"]) fun _ _ _ _ _ _ us hl => match us, hl with | [_, _, _], _ => rfl
  have F_can_be_owned := fun_mk (st := s_can_be_owned) l_can_be_owned q_can_be_owned k_can_be_owned
  have B_can_be_owned := F_can_be_owned.binds (ps := ["block", "blocks"]) fun _ _ _ _ _ _ us hl => match us, hl with | [_, _], _ => rfl
  have F_run_program := fun_mk (st := s_run_program) l_run_program q_run_program k_run_program
  have B_run_program := F_run_program.binds (ps := ["program", "words", "blocks", "own"]) fun _ _ _ _ _ _ us hl => match us, hl with | [_, _, _, _], _ => rfl
  have F_law_run := fun_mk (st := s_law_run) l_law_run q_law_run k_law_run
  have B_law_run := F_law_run.binds (ps := ["program", "words", "blocks", "own"]) fun _ _ _ _ _ _ us hl => match us, hl with | [_, _, _, _], _ => rfl
  have F_law_program := fun_mk (st := s_law_program) l_law_program q_law_program k_law_program
  have B_law_program := F_law_program.binds (ps := ["tape"]) fun _ _ _ _ _ _ us hl => match us, hl with | [_], _ => rfl
  have F_Types_count := fun_mk (st := s_Types_count) l_Types_count q_Types_count k_Types_count
  have B_Types_count := F_Types_count.binds (ps := ["self"]) fun _ _ _ _ _ _ us hl => match us, hl with | [_], _ => rfl
  have F_Types_is_known := fun_mk (st := s_Types_is_known) l_Types_is_known q_Types_is_known k_Types_is_known
  have B_Types_is_known := F_Types_is_known.binds (ps := ["self", "number"]) fun _ _ _ _ _ _ us hl => match us, hl with | [_, _], _ => rfl
  have F_Types_programs := fun_mk (st := s_Types_programs) l_Types_programs q_Types_programs k_Types_programs
  have B_Types_programs := F_Types_programs.binds (ps := ["self"]) fun _ _ _ _ _ _ us hl => match us, hl with | [_], _ => rfl
  have F_law_root := fun_mk (st := s_law_root) l_law_root q_law_root k_law_root
  have B_law_root := F_law_root.binds (ps := ["words", "blocks", "count"]) fun _ _ _ _ _ _ us hl => match us, hl with | [_, _, _], _ => rfl
  have F_Types_owned_by_root := fun_mk (st := s_Types_owned_by_root) l_Types_owned_by_root q_Types_owned_by_root k_Types_owned_by_root
  have B_Types_owned_by_root := F_Types_owned_by_root.binds (ps := ["self", "words"]) fun _ _ _ _ _ _ us hl => match us, hl with | [_, _], _ => rfl
  have F_Types_owned := fun_mk (st := s_Types_owned) l_Types_owned q_Types_owned k_Types_owned
  have B_Types_owned := F_Types_owned.binds (ps := ["self", "number", "words"]) fun _ _ _ _ _ _ us hl => match us, hl with | [_, _, _], _ => rfl
  have F_Types_init := fun_mk (st := s_Types_init) l_Types_init q_Types_init k_Types_init
  have B_Types_init := F_Types_init.binds (ps := ["self", "blocks"]) fun _ _ _ _ _ _ us hl => match us, hl with | [_, _], _ => rfl
  have F_is_environment := fun_mk (st := s_is_environment) l_is_environment q_is_environment k_is_environment
  have B_is_environment := F_is_environment.binds (ps := ["value"]) fun _ _ _ _ _ _ us hl => match us, hl with | [_], _ => rfl
  have F_Types_add := fun_mk (st := s_Types_add) l_Types_add q_Types_add k_Types_add
  have B_Types_add := F_Types_add.binds (ps := ["self", "program", "environment"]) fun _ _ _ _ _ _ us hl => match us, hl with | [_, _, _], _ => rfl
  have F_law := fun_mk (st := s_law) l_law q_law k_law
  refine ⟨PySem.W.fnOf "law" "law" (defArgs s_law) (defBody s_law) (defScope s_law) .none kV_law dc_law pm_law an_law cd_law ct_law, fun s v => .of_eq rfl, fun base _ _ => ?_⟩
  have D_law_next : Dfn l.prog w K mg base CX0 1 "_law_next" ["tape", "many"] spNext := ⟨f_law_next, _, ok_law_next F_law_next T , PySem.W.mg_of X G a_law_next, k_law_next, B_law_next⟩
  have D_is_at_least : Dfn l.prog w K mg base CX0 1 "is_at_least" ["value", "least"] spGe := ⟨f_is_at_least, _, ok_is_at_least F_is_at_least T , PySem.W.mg_of X G a_is_at_least, k_is_at_least, B_is_at_least⟩
  have D_is_between : Dfn l.prog w K mg base CX0 2 "is_between" ["value", "least", "most"] spBtw := ⟨f_is_between, _, ok_is_between F_is_between T D_is_at_least, PySem.W.mg_of X G a_is_between, k_is_between, B_is_between⟩
  have D_is_index : Dfn l.prog w K mg base CX0 3 "is_index" ["value", "many"] spIdx := ⟨f_is_index, _, ok_is_index F_is_index T D_is_between, PySem.W.mg_of X G a_is_index, k_is_index, B_is_index⟩
  have D_is_word : Dfn l.prog w K mg base CX0 3 "is_word" ["value"] spWord := ⟨f_is_word, _, ok_is_word F_is_word T D_is_between, PySem.W.mg_of X G a_is_word, k_is_word, B_is_word⟩
  have D_is_guard : Dfn l.prog w K mg base CX0 4 "_is_guard" ["value"] spGd := ⟨f_is_guard, _, ok_is_guard F_is_guard T D_is_index D_is_word, PySem.W.mg_of X G a_is_guard, k_is_guard, B_is_guard⟩
  have D_is_many : Dfn l.prog w K mg base CX0 4 "_is_many" ["value", "start"] spMn := ⟨f_is_many, _, ok_is_many F_is_many T D_is_index D_is_between, PySem.W.mg_of X G a_is_many, k_is_many, B_is_many⟩
  have D_is_kind : Dfn l.prog w K mg base CX0 4 "_is_kind" ["value", "count"] spKd := ⟨f_is_kind, _, ok_is_kind F_is_kind T D_is_index, PySem.W.mg_of X G a_is_kind, k_is_kind, B_is_kind⟩
  have D_is_clause : Dfn l.prog w K mg base CX0 5 "_is_clause" ["value", "count"] spCl := ⟨f_is_clause, _, ok_is_clause F_is_clause T D_is_guard D_is_index D_is_many D_is_kind, PySem.W.mg_of X G a_is_clause, k_is_clause, B_is_clause⟩
  have D_is_program : Dfn l.prog w K mg base CX0 6 "is_program" ["value", "count"] spPg := ⟨f_is_program, _, ok_is_program F_is_program T D_is_clause, PySem.W.mg_of X G a_is_program, k_is_program, B_is_program⟩
  have D_let_pass : Dfn l.prog w K mg base CX0 1 "_let_pass" ["guards", "words"] spPass := ⟨f_let_pass, _, ok_let_pass F_let_pass T , PySem.W.mg_of X G a_let_pass, k_let_pass, B_let_pass⟩
  have D_told : Dfn l.prog w K mg base CX0 1 "_told" ["words", "start", "many"] spTold := ⟨f_told, _, ok_told F_told T , PySem.W.mg_of X G a_told, k_told, B_told⟩
  have D_can_be_owned : Dfn l.prog w K mg base CX0 1 "_can_be_owned" ["block", "blocks"] spCan := ⟨f_can_be_owned, _, ok_can_be_owned F_can_be_owned T , PySem.W.mg_of X G a_can_be_owned, k_can_be_owned, B_can_be_owned⟩
  have D_run_program : Dfn l.prog w K mg base CX0 2 "run_program" ["program", "words", "blocks", "own"] spRun := ⟨f_run_program, _, ok_run_program F_run_program T D_let_pass D_told D_can_be_owned, PySem.W.mg_of X G a_run_program, k_run_program, B_run_program⟩
  have D_law_run : Dfn l.prog w K mg base CX0 1 "_law_run" ["program", "words", "blocks", "own"] spRun := ⟨f_law_run, _, ok_law_run F_law_run T , PySem.W.mg_of X G a_law_run, k_law_run, B_law_run⟩
  have D_law_program : Dfn l.prog w K mg base CX0 2 "_law_program" ["tape"] spLProg := ⟨f_law_program, _, ok_law_program F_law_program T D_law_next, PySem.W.mg_of X G a_law_program, k_law_program, B_law_program⟩
  have D_Types_count : Mth l.prog w K mg base CX0 1 C_Types "count" ["self"] (spCnt C_Types) := ⟨f_Types_count, _, ok_Types_count F_Types_count T , ⟨a_Types_count, i_Types_count, k_Types_count⟩, B_Types_count, T.o_Types⟩
  have D_Types_is_known : Mth l.prog w K mg base CX0 4 C_Types "is_known" ["self", "number"] (spKnown C_Types) := ⟨f_Types_is_known, _, ok_Types_is_known F_Types_is_known T D_is_index D_Types_count, ⟨a_Types_is_known, i_Types_is_known, k_Types_is_known⟩, B_Types_is_known, T.o_Types⟩
  have D_Types_programs : Mth l.prog w K mg base CX0 1 C_Types "programs" ["self"] (spProgs C_Types) := ⟨f_Types_programs, _, ok_Types_programs F_Types_programs T , ⟨a_Types_programs, i_Types_programs, k_Types_programs⟩, B_Types_programs, T.o_Types⟩
  have D_law_root : Dfn l.prog w K mg base CX0 1 "_law_root" ["words", "blocks", "count"] spLRoot := ⟨f_law_root, _, ok_law_root F_law_root T , PySem.W.mg_of X G a_law_root, k_law_root, B_law_root⟩
  have D_Types_owned_by_root : Mth l.prog w K mg base CX0 5 C_Types "_owned_by_root" ["self", "words"] (spRoot C_Types) := ⟨f_Types_owned_by_root, _, ok_Types_owned_by_root F_Types_owned_by_root T D_can_be_owned D_Types_is_known, ⟨a_Types_owned_by_root, i_Types_owned_by_root, k_Types_owned_by_root⟩, B_Types_owned_by_root, T.o_Types⟩
  have D_Types_owned : Mth l.prog w K mg base CX0 6 C_Types "owned" ["self", "number", "words"] (spOwned C_Types) := ⟨f_Types_owned, _, ok_Types_owned F_Types_owned T D_Types_owned_by_root D_run_program, ⟨a_Types_owned, i_Types_owned, k_Types_owned⟩, B_Types_owned, T.o_Types⟩
  have M_Types : Mkr l.prog w K mg base CX0 1 "Types" C_Types ["self", "blocks"] (spTInit C_Types) := ⟨f_Types_init, _, ⟨m_Types, a_Types_init, i_Types_init, k_Types⟩, ok_Types_init F_Types_init T , B_Types_init, PySem.W.mg_of X G a_Types⟩
  have D_is_environment : Dfn l.prog w K mg base CX0 4 "is_environment" ["value"] spEnv := ⟨f_is_environment, _, ok_is_environment F_is_environment T D_is_index, PySem.W.mg_of X G a_is_environment, k_is_environment, B_is_environment⟩
  have D_Types_add : Mth l.prog w K mg base (L2.CX l.prog w) 7 C_Types "add" ["self", "program", "environment"] (spAdd C_Types) := ⟨f_Types_add, _, ok_Types_add F_Types_add T D_is_environment D_is_program D_Types_count, ⟨a_Types_add, i_Types_add, k_Types_add⟩, B_Types_add, T.o_Types⟩
  exact ok_law F_law T D_law_next D_law_program D_law_root D_law_run M_Types D_Types_count D_Types_programs D_Types_is_known D_Types_owned D_Types_add
theorem walk {l : PySem.W.OpenLaw} {q : Program} {loose : List Str} {XP : (Str → Option Value) → Heap → Prop} {YP : World → Heap → Prop} {d : DefRec} {K : Params → PySem.W.Frag} (hn : l.most = some 63) (hdf : d.params.defaults = [])
    (hY : ∀ (w : World) (h : Heap), YP w h → (K w.params).In h)
    (F : ∀ (w : World) (mg : Str → Option Value) (fa : Addr) (h : Heap), (K w.params).In h → h.Ns mainGlobals mg → mg d.name = some (.ref fa) →
      ∃ fd : FuncData, (∀ (s : Shared) (u : Value), BindsTo s fd ⟨[u], []⟩ [("script", u)]) ∧ ∀ base : Heap, (K w.params).In base → base.Ns mainGlobals mg → FnOk l.prog w (K w.params) mg base CX0 8 fa fd ["script"] (spLaw (K w.params))) :
    PySem.W.WalkO q loose XP YP l.row.toRowW d [] (fun f vs => PySem.call f vs) :=
  L2.walk_of (n := 63) (k := 8) (x := "script") (CX := fun _ => CX0) (sp := fun w => spLaw (K w.params)) hn (by decide) hdf ⟨rfl, by decide, by decide⟩ hY F (fun _ _ a ns hl _ hS => ⟨a, ns, rfl, hS, fun _ => rfl⟩) fun _ _ _ _ _ z => z
end My
open PySem PySem.W PyProof.Rows in
set_option maxRecDepth 100000 in
set_option maxHeartbeats 0 in
theorem PySem.Challenge.cw_steadhold_k03_types_holds : PySem.Challenge.rw_steadhold_k03_types.Holds := by
  w_on; o_law; k_head; (case hw => w_witness2)
  k_fill
  refine My.walk (l := PySem.Challenge.rw_steadhold_k03_types) rfl rfl (fun w h Y => PySem.W.kIn_of Y) ?F
  case F =>
    intro w mg fa h KX G hmg
    refine' My.all_mk KX G hmg ?a_Types ?g1_Types ?g2_Types ?g3_Types ?g4_Types ?m_Types ?k_Types ?n_Types__blocks ?n_Types__programs ?n_Types__registered ?a_NotValid ?k_NotValid ?x_NotValid ?e1_NotValid ?e2_NotValid ?e3_NotValid ?e4_NotValid ?a_law_next ?l_law_next ?q_law_next ?k_law_next ?a_is_at_least ?l_is_at_least ?q_is_at_least ?k_is_at_least ?a_is_between ?l_is_between ?q_is_between ?k_is_between ?a_is_index ?l_is_index ?q_is_index ?k_is_index ?a_is_word ?l_is_word ?q_is_word ?k_is_word ?a_is_guard ?l_is_guard ?q_is_guard ?k_is_guard ?a_is_many ?l_is_many ?q_is_many ?k_is_many ?a_is_kind ?l_is_kind ?q_is_kind ?k_is_kind ?a_is_clause ?l_is_clause ?q_is_clause ?k_is_clause ?a_is_program ?l_is_program ?q_is_program ?k_is_program ?a_let_pass ?l_let_pass ?q_let_pass ?k_let_pass ?a_told ?l_told ?q_told ?k_told ?a_can_be_owned ?l_can_be_owned ?q_can_be_owned ?k_can_be_owned ?a_run_program ?l_run_program ?q_run_program ?k_run_program ?a_law_run ?l_law_run ?q_law_run ?k_law_run ?a_law_program ?l_law_program ?q_law_program ?k_law_program ?a_Types_count ?i_Types_count ?l_Types_count ?q_Types_count ?k_Types_count ?a_Types_is_known ?i_Types_is_known ?l_Types_is_known ?q_Types_is_known ?k_Types_is_known ?a_Types_programs ?i_Types_programs ?l_Types_programs ?q_Types_programs ?k_Types_programs ?a_law_root ?l_law_root ?q_law_root ?k_law_root ?a_Types_owned_by_root ?i_Types_owned_by_root ?l_Types_owned_by_root ?q_Types_owned_by_root ?k_Types_owned_by_root ?a_Types_owned ?i_Types_owned ?l_Types_owned ?q_Types_owned ?k_Types_owned ?a_Types_init ?i_Types_init ?l_Types_init ?q_Types_init ?k_Types_init ?a_is_environment ?l_is_environment ?q_is_environment ?k_is_environment ?a_Types_add ?i_Types_add ?l_Types_add ?q_Types_add ?k_Types_add ?a_law ?l_law ?q_law ?k_law ?z_abs ?z_all ?z_bool ?z_int ?z_isinstance ?z_len ?z_list ?z_min ?z_range ?z_set ?z_tuple ?y_DATA ?y_ENVIRONMENTS ?y_MOST_TYPES ?y_ROOT ?y_ROOT_BLOCKS ?y_TOP ?y_WORDS ?y__FIRST_OF_PROGRAMS ?y__MOST_CLAUSES ?y__MOST_GUARDS
    (case a_Types => k_is)
    (case g1_Types => k_is)
    (case g2_Types => k_is)
    (case g3_Types => k_is)
    (case g4_Types => k_is)
    (case m_Types => k_is)
    (case k_Types => k_is)
    (case n_Types__blocks => k_is)
    (case n_Types__programs => k_is)
    (case n_Types__registered => k_is)
    (case a_NotValid => k_is)
    (case k_NotValid => k_is)
    (case x_NotValid => k_exc)
    (case e1_NotValid => k_is)
    (case e2_NotValid => k_is)
    (case e3_NotValid => k_is)
    (case e4_NotValid => first | rfl | k_is)
    (case a_law_next => k_is)
    (case l_law_next => k_is)
    (case q_law_next => k_is)
    (case k_law_next => k_is)
    (case a_is_at_least => k_is)
    (case l_is_at_least => k_is)
    (case q_is_at_least => k_is)
    (case k_is_at_least => k_is)
    (case a_is_between => k_is)
    (case l_is_between => k_is)
    (case q_is_between => k_is)
    (case k_is_between => k_is)
    (case a_is_index => k_is)
    (case l_is_index => k_is)
    (case q_is_index => k_is)
    (case k_is_index => k_is)
    (case a_is_word => k_is)
    (case l_is_word => k_is)
    (case q_is_word => k_is)
    (case k_is_word => k_is)
    (case a_is_guard => k_is)
    (case l_is_guard => k_is)
    (case q_is_guard => k_is)
    (case k_is_guard => k_is)
    (case a_is_many => k_is)
    (case l_is_many => k_is)
    (case q_is_many => k_is)
    (case k_is_many => k_is)
    (case a_is_kind => k_is)
    (case l_is_kind => k_is)
    (case q_is_kind => k_is)
    (case k_is_kind => k_is)
    (case a_is_clause => k_is)
    (case l_is_clause => k_is)
    (case q_is_clause => k_is)
    (case k_is_clause => k_is)
    (case a_is_program => k_is)
    (case l_is_program => k_is)
    (case q_is_program => k_is)
    (case k_is_program => k_is)
    (case a_let_pass => k_is)
    (case l_let_pass => k_is)
    (case q_let_pass => k_is)
    (case k_let_pass => k_is)
    (case a_told => k_is)
    (case l_told => k_is)
    (case q_told => k_is)
    (case k_told => k_is)
    (case a_can_be_owned => k_is)
    (case l_can_be_owned => k_is)
    (case q_can_be_owned => k_is)
    (case k_can_be_owned => k_is)
    (case a_run_program => k_is)
    (case l_run_program => k_is)
    (case q_run_program => k_is)
    (case k_run_program => k_is)
    (case a_law_run => k_is)
    (case l_law_run => k_is)
    (case q_law_run => k_is)
    (case k_law_run => k_is)
    (case a_law_program => k_is)
    (case l_law_program => k_is)
    (case q_law_program => k_is)
    (case k_law_program => k_is)
    (case a_Types_count => k_is)
    (case i_Types_count => k_is)
    (case l_Types_count => k_is)
    (case q_Types_count => k_is)
    (case k_Types_count => k_is)
    (case a_Types_is_known => k_is)
    (case i_Types_is_known => k_is)
    (case l_Types_is_known => k_is)
    (case q_Types_is_known => k_is)
    (case k_Types_is_known => k_is)
    (case a_Types_programs => k_is)
    (case i_Types_programs => k_is)
    (case l_Types_programs => k_is)
    (case q_Types_programs => k_is)
    (case k_Types_programs => k_is)
    (case a_law_root => k_is)
    (case l_law_root => k_is)
    (case q_law_root => k_is)
    (case k_law_root => k_is)
    (case a_Types_owned_by_root => k_is)
    (case i_Types_owned_by_root => k_is)
    (case l_Types_owned_by_root => k_is)
    (case q_Types_owned_by_root => k_is)
    (case k_Types_owned_by_root => k_is)
    (case a_Types_owned => k_is)
    (case i_Types_owned => k_is)
    (case l_Types_owned => k_is)
    (case q_Types_owned => k_is)
    (case k_Types_owned => k_is)
    (case a_Types_init => k_is)
    (case i_Types_init => k_is)
    (case l_Types_init => k_is)
    (case q_Types_init => k_is)
    (case k_Types_init => k_is)
    (case a_is_environment => k_is)
    (case l_is_environment => k_is)
    (case q_is_environment => k_is)
    (case k_is_environment => k_is)
    (case a_Types_add => k_is)
    (case i_Types_add => k_is)
    (case l_Types_add => k_is)
    (case q_Types_add => k_is)
    (case k_Types_add => k_is)
    (case a_law => k_is)
    (case l_law => k_is)
    (case q_law => k_is)
    (case k_law => k_is)
    (case z_abs => k_is)
    (case z_all => k_is)
    (case z_bool => k_is)
    (case z_int => k_is)
    (case z_isinstance => k_is)
    (case z_len => k_is)
    (case z_list => k_is)
    (case z_min => k_is)
    (case z_range => k_is)
    (case z_set => k_is)
    (case z_tuple => k_is)
    (case y_DATA => k_is)
    (case y_ENVIRONMENTS => k_is)
    (case y_MOST_TYPES => k_is)
    (case y_ROOT => k_is)
    (case y_ROOT_BLOCKS => k_is)
    (case y_TOP => k_is)
    (case y_WORDS => k_is)
    (case y__FIRST_OF_PROGRAMS => k_is)
    (case y__MOST_CLAUSES => k_is)
    (case y__MOST_GUARDS => k_is)
