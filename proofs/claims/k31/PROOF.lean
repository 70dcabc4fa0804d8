import PyProof.Rows.All
import Wide.All
import OpenK.AllK
import Wide.FinOn
import HandS.ForMost
import HandS.IsInst
import HandS.Exc
import HandS.TryOnly
import HandS.ExcOwn
import HandS.WordsExc
import HandS.RaiseMore
import HandS.Codes
import HandS.TupAny
import PySem.Challenge.RW_steadhold_k31_slices_of_time
set_option Elab.async false
set_option linter.all false
set_option maxRecDepth 100000
set_option maxHeartbeats 4000000
namespace My
open PySem L2
/-! ### rules that the layer lacks -/
section
variable {X : Cx}
/-- xs[i] as the read of xs[i] op= e -/
theorem get_list : PGet X (rIxL X.K) := fun pins s0 σ H o1 o2 u1 u2 Q I r1 r2 hh => by
  obtain ⟨l, xs, n, z, e1, e2, hl, hn, q⟩ := hh
  subst e1; subst e2
  cases r1
  obtain ⟨tk, e3⟩ := r2
  subst e3
  obtain ⟨us, rel, pll, _⟩ := I.list hl
  obtain ⟨j, c1, c2, _, c4, c5⟩ := atI_get hn
  obtain ⟨u, hu, ru⟩ := rel.get c2
  have len := rel.length
  have big := line63
  have goal : EP X pins σ Q u s0 := ⟨z, H, I, ru, q⟩
  rcases Int.lt_or_le n 0 with neg | pos
  · have hj : (n + (us.toArray.size : Int)).toNat = j := by
      rw [seqIndex_neg neg c4] at c1
      have c1' := Option.some.inj c1
      simpa [← len] using c1'
    exact PySem.wpAny_getItem_list_neg pll.isList neg (by simp; omega) (by omega) (by rw [hj]; simpa using hu) goal
  · have hj : n.toNat = j := by
      rw [seqIndex_of pos c5] at c1
      exact Option.some.inj c1
    exact PySem.wpAny_getItem_list pll.isList pos (by omega) (by rw [hj]; simpa using hu) goal
/-- a module's int, text -/
theorem pe_gint {x : Str} {i : Int} {pos : Pos} (hg : Gl X x) (hm : ∃ t, X.mg x = some (.int i t)) (hd : (x == ("__debug__" : Str)) = false := by decide) : PE X (.Name x pos) (tC (.int i)) := by
  obtain ⟨t, hm⟩ := hm
  exact pe_glob hg hm ⟨t, rfl⟩ hd
theorem pe_gstr {x i : Str} {pos : Pos} (hg : Gl X x) (hm : ∃ t, X.mg x = some (.str i t)) (hd : (x == ("__debug__" : Str)) = false := by decide) : PE X (.Name x pos) (tC (.str i)) := by
  obtain ⟨t, hm⟩ := hm
  exact pe_glob hg hm ⟨t, rfl⟩ hd
end
/-! ### rules with the written part named -/
def rLen (K : PySem.W.Frag) : List V → Hp → VK → Prop := fun xs H Q => ∃ p ys, xs = [.ref p] ∧ (SqL K H p ys ∨ SqT K H p ys) ∧ Q (.int ys.length) H
def rListOf (K : PySem.W.Frag) : List V → Hp → VK → Prop := fun xs H Q => ∃ p ys, xs = [.ref p] ∧ (SqL K H p ys ∨ SqT K H p ys) ∧ ∀ l, H l = none → Q (.ref l) (upd H l (.lst ys))
def rTupOf (K : PySem.W.Frag) : List V → Hp → VK → Prop := fun xs H Q => ∃ p ys, xs = [.ref p] ∧ ((SqL K H p ys ∧ ∀ l, H l = none → Q (.ref l) (upd H l (.tup ys))) ∨ (SqT K H p ys ∧ Q (.ref p) H))
section
variable {X : Cx} (K : PySem.W.Frag)
theorem kIxL (h : X.K = K := by rfl) : IxR X (rIxL K) := by subst h; exact ix_list
theorem kIxT (h : X.K = K := by rfl) : IxR X (rIxT K) := by subst h; exact ix_tup
theorem kGetL (h : X.K = K := by rfl) : PGet X (rIxL K) := by subst h; exact get_list
theorem kSlL (h : X.K = K := by rfl) : SlR X (rSlL K) := by subst h; exact sl_list
theorem kSlT (h : X.K = K := by rfl) : SlR X (rSlA K) := by subst h; exact sl_tupA
theorem kEqD (hu : X.A.units + 64 < cLine) (h : X.K = K := by rfl) : OpR X (compareOp .Eq) (rEqD K) := by subst h; exact op_eqD hu
theorem kNeD (hu : X.A.units + 64 < cLine) (h : X.K = K := by rfl) : OpR X (compareOp .NotEq) (rNeD K) := by subst h; exact op_neD hu
theorem kIn (h : X.K = K := by rfl) : OpR X (compareOp .In) (rIn K false) := by subst h; exact op_in_seq
theorem kNotIn (h : X.K = K := by rfl) : OpR X (compareOp .NotIn) (rIn K true) := by subst h; exact op_notIn_seq
theorem kCatT (h : X.K = K := by rfl) : OpR X (binaryOp .Add) (rCatA K) := by subst h; exact op_catA
theorem kLen (h : X.K = K := by rfl) : CallR X (.builtin "len") (rLen K) := by subst h; exact call_len_seq
theorem kListOf (h : X.K = K := by rfl) : CallR X (.type "list") (rListOf K) := by subst h; exact call_list_of
theorem kTupOf (h : X.K = K := by rfl) : CallR X (.type "tuple") (rTupOf K) := by subst h; exact call_tuple_of
theorem kIsi (h : X.K = K := by rfl) : CallR X (.builtin "isinstance") (rIsi K) := by subst h; exact call_isi
theorem kAll (hc : X.calm = true) (h : X.K = K := by rfl) : CallR X (.builtin "all") (rAll K) := by subst h; exact cr_all hc
theorem kAny (hc : X.calm = true) (h : X.K = K := by rfl) : CallR X (.builtin "any") (rAny K) := by subst h; exact cr_any hc
theorem kSum (hc : X.calm = true) (h : X.K = K := by rfl) : CallR X (.builtin "sum") (rSum K) := by subst h; exact cr_sum hc
theorem kSorted (h : X.K = K := by rfl) : CallR X (.builtin "sorted") (rSorted K) := by subst h; exact cr_sorted
theorem kIndex (h : X.K = K := by rfl) : MtR X "list.index" (rIndex K) := by subst h; exact mt_index
section
variable {tg l : Expr} {tl : TE} {pos : Pos}
theorem kpiL (hl : PE X l tl) (h : X.K = K := by rfl) : PI X tg l (iList K tl) := by subst h; exact pi_list hl
theorem kpiT (hl : PE X l tl) (h : X.K = K := by rfl) : PI X tg l (iTup K tl) := by subst h; exact pi_tup hl
theorem kpgT {es : List Expr} {k : Nat} {t : TGs} {n : Nat} (hc : X.calm = true) (hh : PGs X es t)
    (hn : (assignEach es X.env).length = n := by rfl) (hst : (assignEach es X.env).findIdx? (·.1) = none := by rfl) (h : X.K = K := by rfl) : PG X (.Tuple es k pos) (gTup K n t) := by subst h; exact pg_tup hc hh hn hst
theorem kBM0 {o : Expr} {to : TE} {name : Str} {apos cpos : Pos} {T id : String} {r : V → List V → Hp → VK → Prop} (pa : PlainAttrs T) (slot : Slot T name id) (hty : typeOf (.builtin id) = pure (.type "method_descriptor")) (hm : MtR X id r) (ho : PE X o to)
    (hbase : attributeBase o name X.env (eval o X.env) = eval o X.env := by rfl) (hline : (apos.endLine == cpos.line) = true := by rfl) (h : X.K = K := by rfl) : PE X (.Call (.Attribute o name apos) [] [] cpos) (tBM0 K T r to) := by
  subst h; exact pe_bm0 pa slot hty hm ho hbase hline
theorem kBM {o e : Expr} {es : List Expr} {to : TE} {t : TA} {name : Str} {apos cpos : Pos} {T id : String} {r : V → List V → Hp → VK → Prop} (pa : PlainAttrs T) (slot : Slot T name id) (hty : typeOf (.builtin id) = pure (.type "method_descriptor")) (hm : MtR X id r) (ho : PE X o to) (ha : PA X (e :: es) t)
    (hbase : attributeBase o name X.env (eval o X.env) = eval o X.env := by rfl)
    (hfew : ((backTo cpos (starEach (e :: es) X.env)).all (fun x => !x.1) && (backToKw cpos (keywordEach [] X.env)).all (fun x => x.1.isSome)
      && decide ((e :: es).length + ([] : List Keyword).length + (if ([] : List Keyword).isEmpty then 0 else 1) < 30)) = true := by rfl)
    (hline : (apos.endLine == cpos.line) = true := by rfl) (hs : starEach (e :: es) X.env = (false, eval e X.env) :: starEach es X.env := by rfl) (hplain : (backTo cpos (starEach es X.env)).any (·.1) = false := by rfl) (h : X.K = K := by rfl) :
    PE X (.Call (.Attribute o name apos) (e :: es) [] cpos) (tBM K T r to t) := by
  subst h; exact pe_bm pa slot hty hm ho ha hbase hfew hline hs hplain
theorem kSFld {o value : Expr} {f : Str} {pos' : Pos} {ta tv : TE} (ha : PE X o ta) (hv : PE X value tv) (hs : swapsWith value (some (.Attribute o f pos')) pos.line X.env = pure false) (h : X.K = K := by rfl) : PS X (.Assign [.Attribute o f pos'] value pos) (sFld K ta tv f) := by subst h; exact ps_fld ha hv hs
theorem kSFldA {o value : Expr} {f : Str} {tpos : Pos} {ta tv : TE} {op : Operator} {rd : V → V → Hp → VK → Prop} (ha : PE X o ta) (hv : PE X value tv) (hop : InOp X op rd) (h : X.K = K := by rfl) : PS X (.AugAssign (.Attribute o f tpos) op value pos) (sFldAug K ta tv rd f) := by subst h; exact ps_fldaug ha hv hop
theorem kFld {f : Str} (he : PE X l tl) (hb : attributeBase l f X.env (eval l X.env) = eval l X.env) (h : X.K = K := by rfl) : PE X (.Attribute l f pos) (tFld K tl f) := by subst h; exact pe_fld he hb
end
end
/-! ### xs.count(y), flat items -/
theorem countP_eqU {x : V} {v : Value} (rx : RelV x v) : ∀ {xs : List V} {us : List Value}, Vals xs us → xs.all flatV = true → us.countP (eqU x) = xs.countP fun y => eqV y x
  | _, _, .nil, _ => rfl
  | y :: xs, u :: us, .cons r t, f => by
    rw [List.all_cons, Bool.and_eq_true] at f
    rw [List.countP_cons, List.countP_cons, countP_eqU rx t f.2, eqU_of r f.1]
def rCount (K : PySem.W.Frag) : V → List V → Hp → VK → Prop := fun x vs H Q => ∃ (p : Addr) (xs : List V) (y : V), x = .ref p ∧ vs = [y] ∧ SqL K H p xs ∧ flatV y = true ∧ xs.all flatV = true ∧ Q (.int (xs.countP (fun z => eqV z y) : Nat)) H
theorem kCount {X : Cx} (K : PySem.W.Frag) (h : X.K = K := by rfl) : MtR X "list.count" (rCount K) := by
  subst h
  intro pins s0 σ H x vs u us Q I r1 r2 hh
  obtain ⟨p, xs, y, rfl, rfl, hl, fy, fx, q⟩ := hh
  cases r1
  cases r2 with
  | cons ry rn =>
    cases rn
    obtain ⟨ws, rel, ⟨⟨c0, d0, dat, sl0⟩, n, ho, hc, _, hd⟩, _⟩ := I.list hl
    dsimp only at hc hd
    subst hc hd
    refine call_meets PySem.F.slot_list_count ⟨_, ho, rfl⟩ PySem.F.entry_list_count (PySem.F.args_list_count_2 _ _)
      (SeqAt.list_countAt p ws.toArray n d0 sl0 _ (eqU y)) ⟨ho, fun z hz => mem_eqAt ry fy rel fx z (by simpa using hz), ?_⟩
    refine ⟨.int (xs.countP (fun z => eqV z y) : Nat), H, I.tok _, ⟨s0.toks, ?_⟩, q⟩
    rw [← countP_eqU ry rel fx]
/-! ### a def by its name -/
section
variable {P : Program} {w : World} {K : PySem.W.Frag} {mg : Str → Option Value} {base : Heap}
structure Dfn (P : Program) (w : World) (K : PySem.W.Frag) (mg : Str → Option Value) (base : Heap) (CX : CXT) (k : Nat) (x : Str) (ps : List Str) (sp : Sp) : Prop where
  ex : ∃ f fd, FnOk P w K mg base CX k f fd ps sp ∧ mg x = some (.ref f) ∧ PySem.W.keepIn K (.ref f) = true ∧ Binds K fd ps []
theorem Dfn.imp {CX : CXT} {k : Nat} {x : Str} {ps : List Str} {sp sp' : Sp} (D : Dfn P w K mg base CX k x ps sp) (h : ∀ vs H Q E, sp' vs H Q E → sp vs H Q E) : Dfn P w K mg base CX k x ps sp' := by
  obtain ⟨f, fd, F, a, b, c⟩ := D.ex
  exact ⟨f, fd, F.imp h, a, b, c⟩
end
section
variable {X : Cx} {CX : CXT} {k : Nat} {x : Str} {ps : List Str} {sp : Sp} {E : XK} {t : TA} {e : Expr} {es : List Expr} {p pos : Pos}
theorem pe_dcall (D : Dfn X.prog X.w X.K X.mg X.base CX k x ps sp) (hr : Room k X.A) (hg : Gl X x) (hx : Passes CX X E) (ha : PA X (e :: es) t) (hdb : (x == ("__debug__" : Str)) = false := by decide)
    (he : starEach (e :: es) X.env = (false, eval e X.env) :: starEach es X.env := by rfl) (hpl : (backTo pos (starEach es X.env)).any (·.1) = false := by rfl) : PE X (.Call (.Name x p) (e :: es) [] pos) (tCall sp [] E t) := by
  obtain ⟨f, fd, F, hm, hk, hb⟩ := D.ex
  exact pe_call F hr hg hm hk hb .nil hx ha hdb he hpl
theorem pe_dcall0 (D : Dfn X.prog X.w X.K X.mg X.base CX k x ps sp) (hr : Room k X.A) (hg : Gl X x) (hx : Passes CX X E) (hdb : (x == ("__debug__" : Str)) = false := by decide) : PE X (.Call (.Name x p) [] [] pos) (tCall sp [] E tNil) := by
  obtain ⟨f, fd, F, hm, hk, hb⟩ := D.ex
  exact pe_call0 F hr hg hm hk hb .nil hx hdb
end
/-! ### own errors, objects, methods by their names -/
/-- an own error class without an __init__, over ValueError -/
structure Exn (K : PySem.W.Frag) (mg : Str → Option Value) (x : Str) (C : Addr) : Prop where
  gC : mg x = some (.ref C)
  kC : PySem.W.keepIn K (.ref C) = true
  xI : PySem.W.excIn K C [.type "ValueError", .type "Exception", .type "BaseException", .type "object"] "ValueError.__new__" = true
  bE : PySem.W.subIn K (.ref C) (.type "BaseException") = some true
  tE : PySem.W.typeIn K (.ref C) = some (.type "type")
  eE : PySem.W.exmOne K (.ref C) (.ref C) = some true
section
variable {X : Cx} {C : Addr} {x : Str} {p pos : Pos}
/-- X() of such a class -/
theorem pmk_x (N : Exn X.K X.mg x C) (hg : Gl X x) (hdb : (x == ("__debug__" : Str)) = false := by decide) : PMk X (.Call (.Name x p) [] [] pos) (fun _ H Q => Q (.ref C) none H) := fun pins s σ H Q I h => by
  refine wpAny_Call_Name_kw (ld_glob I hg N.gC ?_ hdb)
  refine PySem.W.callWith_K0 (first := []) I.kIn N.kC ?_
  obtain ⟨m1, m2, m3, m4, m5, m6, m7, m8, m9, m10, m11, r0, r1, r2, r3, r4, mN, hC, hN, hi, tl⟩ := exc_obj I.kIn N.xI
  exact wpAny_call_exc_subT PySem.F.excBase_ValueError tl hC hN hi (fun _ _ made => mk_of I made (raises_own N.bE N.tE) h (I.hok.gone made.new)) (Nat.zero_le _)
end
section
variable {P : Program} {w : World} {K : PySem.W.Frag} {mg : Str → Option Value} {base : Heap}
/-- a method of the class at C -/
structure Mth (P : Program) (w : World) (K : PySem.W.Frag) (mg : Str → Option Value) (base : Heap) (CX : CXT) (k : Nat) (C : Addr) (m : Str) (ps : List Str) (sp : Sp) : Prop where
  ex : ∃ f fd, FnOk P w K mg base CX k f fd ps sp ∧ Meth K C m f ∧ Binds K fd ps [] ∧ Cls K C
/-- the making of its instances -/
structure Mkr (P : Program) (w : World) (K : PySem.W.Frag) (mg : Str → Option Value) (base : Heap) (CX : CXT) (k : Nat) (x : Str) (C : Addr) (ps : List Str) (sp : Sp) : Prop where
  ex : ∃ f fd, Mk K C f ∧ FnOk P w K mg base CX k f fd ps sp ∧ Binds K fd ps [] ∧ mg x = some (.ref C)
end
section
variable {X : Cx} {CX : CXT} {k : Nat} {C : Addr} {m x : Str} {ps : List Str} {sp : Sp} {E : XK} {t : TA} {ta : TE} {e o : Expr} {es : List Expr} {p pos apos : Pos}
theorem pe_dmeth {pl : Sem Bool} (he : PE X o ta) (D : Mth X.prog X.w X.K X.mg X.base CX k C m ps sp) (hr : Room k X.A) (hx : Passes CX X E) (ha : PA X (e :: es) t)
    (hst : starEach (e :: es) X.env = (false, eval e X.env) :: starEach es X.env := by rfl) (hpl : (backTo pos (starEach es X.env)).any (·.1) = false := by rfl)
    (ht : eval (.Call (.Attribute o m apos) (e :: es) [] pos) X.env = (do
      let ov ← eval o X.env
      standAt apos.atName
      let (f, first) ← holding [ov] (getMethod ov m pl)
      callWith pos f first (backTo pos (starEach (e :: es) X.env)) (backToKw pos (keywordEach [] X.env))) := by rfl) :
    PE X (.Call (.Attribute o m apos) (e :: es) [] pos) (tMeth C m sp [] E ta t) := by
  obtain ⟨f, fd, F, hm, hb, c⟩ := D.ex
  exact pe_meth (pl := pl) he c hm F hr hb .nil hx ha hst hpl ht
theorem pe_dmeth0 {pl : Sem Bool} (he : PE X o ta) (D : Mth X.prog X.w X.K X.mg X.base CX k C m ps sp) (hr : Room k X.A) (hx : Passes CX X E)
    (ht : eval (.Call (.Attribute o m apos) [] [] pos) X.env = (do
      let ov ← eval o X.env
      standAt apos.atName
      let (f, first) ← holding [ov] (getMethod ov m pl)
      callWith pos f first (backTo pos (starEach [] X.env)) (backToKw pos (keywordEach [] X.env))) := by rfl) :
    PE X (.Call (.Attribute o m apos) [] [] pos) (tMeth C m sp [] E ta tNil) := by
  obtain ⟨f, fd, F, hm, hb, c⟩ := D.ex
  exact pe_meth0 (pl := pl) he c hm F hr hb .nil hx ht
theorem pe_dmake (D : Mkr X.prog X.w X.K X.mg X.base CX k x C ps sp) (hr : Room (k + 1) X.A) (hg : Gl X x) (hx : Passes CX X E) (ha : PA X (e :: es) t) (hdb : (x == ("__debug__" : Str)) = false := by decide)
    (he : starEach (e :: es) X.env = (false, eval e X.env) :: starEach es X.env := by rfl) (hpl : (backTo pos (starEach es X.env)).any (·.1) = false := by rfl) : PE X (.Call (.Name x p) (e :: es) [] pos) (tMake C sp [] E t) := by
  obtain ⟨f, fd, M, F, hb, hm⟩ := D.ex
  exact pe_make M F hr hg hm hb .nil hx ha hdb he hpl
/-- out of a try's body: what is wished at all slots -/
abbrev EA (W : WX) : XK := fun cls d H => ∀ σ, W cls d σ H
theorem passT {W : WX} (tk : Takes X W) : Passes (L2.CX X.prog X.w) X (EA W) := passes_call tk fun _ _ σ _ h => h σ
end
/-! ### heaps -/
/-- all but a is kept -/
def Chg (a : Addr) (H H' : Hp) : Prop := ∀ b o, b ≠ a → H b = some o → H' b = some o
/-- tuples never change -/
def TS (H H' : Hp) : Prop := ∀ b xs, H b = some (.tup xs) → H' b = some (.tup xs)
theorem TS.refl (H : Hp) : TS H H := fun _ _ h => h
theorem TS.trans {H H1 H2 : Hp} (a : TS H H1) (b : TS H1 H2) : TS H H2 := fun c xs h => b c xs (a c xs h)
theorem Same.ts {H H' : Hp} (s : Same H H') : TS H H' := fun b xs h => s b _ h
theorem Chg.refl (a : Addr) (H : Hp) : Chg a H H := fun _ _ _ h => h
theorem Chg.trans {a : Addr} {H H1 H2 : Hp} (x : Chg a H H1) (y : Chg a H1 H2) : Chg a H H2 := fun b o n h => y b o n (x b o n h)
theorem Same.chg {a : Addr} {H H' : Hp} (s : Same H H') : Chg a H H' := fun b o _ h => s b o h
theorem Same.new {H : Hp} {p : Addr} {o : HO} (h : H p = none) : Same H (upd H p o) := fun b u e => by
  rw [upd_ne (ne_of_none e h)]
  exact e
theorem Chg.upd {a : Addr} {H : Hp} {o : HO} : Chg a H (upd H a o) := fun b u n e => by
  rw [upd_ne n]
  exact e
theorem Chg.ts {a : Addr} {H H' : Hp} {xs : List V} (c : Chg a H H') (h : H a = some (.lst xs)) : TS H H' := fun b ys e => c b _ (ne_of e h (by intro z; cases z)) e
/-- a new object may change at will -/
theorem Same.mut {H H' : Hp} {p : Addr} {o : HO} (s : Same H H') (h : H p = none) : Same H (L2.upd H' p o) := fun b u e => by
  rw [upd_ne (ne_of_none e h)]
  exact s b u e
theorem Chg.mut {a : Addr} {H H' : Hp} {p : Addr} {o : HO} (s : Chg a H H') (h : H p = none) : Chg a H (L2.upd H' p o) := fun b u n e => by
  rw [upd_ne (ne_of_none e h)]
  exact s b u n e
/-- a word that the steps do not look into -/
@[irreducible] def Hide (p : Prop) : Prop := p
theorem hide {p : Prop} (h : p) : Hide p := by unfold Hide; exact h
theorem Hide.out {p : Prop} (h : Hide p) : p := by unfold Hide at h; exact h
/-! ### small lemmas of readings -/
theorem iteD {c : Prop} [Decidable c] {A B : Prop} (h1 : c → A) (h2 : ¬ c → B) : if decide c = true then A else B := by
  by_cases h : c
  · rw [if_pos (decide_eq_true h)]; exact h1 h
  · rw [if_neg (by rw [decide_eq_false h]; decide)]; exact h2 h
theorem iteDn {c : Prop} [Decidable c] {A B : Prop} (h1 : ¬ c → A) (h2 : c → B) : if (!decide c) = true then A else B := by
  by_cases h : c
  · rw [if_neg (by rw [decide_eq_true h]; decide)]; exact h2 h
  · rw [if_pos (by rw [decide_eq_false h]; rfl)]; exact h1 h
theorem iteB {b : Bool} {A B : Prop} (h1 : b = true → A) (h2 : b = false → B) : if b = true then A else B := by
  cases b
  · rw [if_neg Bool.false_ne_true]; exact h2 rfl
  · rw [if_pos rfl]; exact h1 rfl
theorem at0 {a : V} {l : List V} : atI (a :: l) 0 = some a := by
  rw [show (0 : Int) = ((0 : Nat) : Int) from rfl]; exact atI_nat (by rfl)
theorem atC {xs : List V} {i : Int} {v : V} (j : Nat) (e : i = (j : Int)) (h : xs[j]? = some v) : atI xs i = some v := by rw [e]; exact atI_nat h
theorem ixC {n : Nat} {i : Int} (j : Nat) (e : i = (j : Int)) (h : j < n) : ixN n i = some j := by
  subst e
  unfold ixN
  rw [if_pos (by omega), if_pos (by omega)]
  simp
theorem szl {n : Nat} (h : Nat.ble n 100 = true) : n ≤ sizeLine := Nat.le_trans (Nat.le_of_ble_eq_true h) (by decide)
theorem szn {n : Nat} (h : n ≤ 100000) : n ≤ sizeLine := Nat.le_trans h (by decide)
theorem szt {n : Nat} (h : n < 100000) : n < sizeLine := Nat.lt_of_lt_of_le h (by decide)
/-! ### data over the heap -/
mutual
inductive Dt (H : Hp) : V → PyData → Prop
  | non : Dt H .non .none
  | bl (b : Bool) : Dt H (.bl b) (.bool b)
  | int (i : Int) : Dt H (.int i) (.int i)
  | str (x : Str) : Dt H (.str x) (.str x)
  | lst {a : Addr} {xs : List V} {ds : List PyData} : H a = some (.lst xs) → DtAll H xs ds → Dt H (.ref a) (.list ds)
  | tup {a : Addr} {xs : List V} {ds : List PyData} : H a = some (.tup xs) → DtAll H xs ds → Dt H (.ref a) (.tuple ds)
inductive DtAll (H : Hp) : List V → List PyData → Prop
  | nil : DtAll H [] []
  | cons {v : V} {vs : List V} {d : PyData} {ds : List PyData} : Dt H v d → DtAll H vs ds → DtAll H (v :: vs) (d :: ds)
end
mutual
def tonly : PyData → Bool
  | .list _ => false
  | .dict _ => false
  | .tuple xs => tonlyAll xs
  | _ => true
def tonlyAll : List PyData → Bool
  | [] => true
  | x :: xs => tonly x && tonlyAll xs
end
mutual
theorem Dt.same {H H' : Hp} (s : Same H H') : ∀ {d : PyData} {v : V}, Dt H v d → Dt H' v d
  | .none, _, h => by cases h; exact .non
  | .bool b, _, h => by cases h; exact .bl b
  | .int i, _, h => by cases h; exact .int i
  | .str x, _, h => by cases h; exact .str x
  | .list ds, _, h => by
    cases h with
    | lst ha hs => exact .lst (s _ _ ha) (DtAll.same s hs)
  | .tuple ds, _, h => by
    cases h with
    | tup ha hs => exact .tup (s _ _ ha) (DtAll.same s hs)
  | .dict _, _, h => by cases h
theorem DtAll.same {H H' : Hp} (s : Same H H') : ∀ {ds : List PyData} {vs : List V}, DtAll H vs ds → DtAll H' vs ds
  | [], _, h => by cases h; exact .nil
  | d :: ds, _, h => by
    cases h with
    | cons h1 h2 => exact .cons (Dt.same s h1) (DtAll.same s h2)
end
mutual
theorem Dt.ts {H H' : Hp} (s : TS H H') : ∀ {d : PyData} {v : V}, tonly d = true → Dt H v d → Dt H' v d
  | .none, _, _, h => by cases h; exact .non
  | .bool b, _, _, h => by cases h; exact .bl b
  | .int i, _, _, h => by cases h; exact .int i
  | .str x, _, _, h => by cases h; exact .str x
  | .list ds, _, t, h => by unfold tonly at t; cases t
  | .tuple ds, _, t, h => by
    unfold tonly at t
    cases h with
    | tup ha hs => exact .tup (s _ _ ha) (DtAll.ts s t hs)
  | .dict _, _, _, h => by cases h
theorem DtAll.ts {H H' : Hp} (s : TS H H') : ∀ {ds : List PyData} {vs : List V}, tonlyAll ds = true → DtAll H vs ds → DtAll H' vs ds
  | [], _, _, h => by cases h; exact .nil
  | d :: ds, _, t, h => by
    unfold tonlyAll at t
    rw [Bool.and_eq_true] at t
    cases h with
    | cons h1 h2 => exact .cons (Dt.ts s t.1 h1) (DtAll.ts s t.2 h2)
end
mutual
theorem Dt.dp {K : PySem.W.Frag} {H : Hp} : ∀ {d : PyData} {v : V}, Dt H v d → Dp K H v d
  | .none, _, h => by cases h; exact .non
  | .bool b, _, h => by cases h; exact .bl b
  | .int i, _, h => by cases h; exact .int i
  | .str x, _, h => by cases h; exact .str x
  | .list ds, _, h => by
    cases h with
    | lst ha hs => exact .lst (SqL.of ha) (DtAll.dp hs)
  | .tuple ds, _, h => by
    cases h with
    | tup ha hs => exact .tup (SqT.of ha) (DtAll.dp hs)
  | .dict _, _, h => by cases h
theorem DtAll.dp {K : PySem.W.Frag} {H : Hp} : ∀ {ds : List PyData} {vs : List V}, DtAll H vs ds → DpAll K H vs ds
  | [], _, h => by cases h; exact .nil
  | d :: ds, _, h => by
    cases h with
    | cons h1 h2 => exact .cons (Dt.dp h1) (DtAll.dp h2)
end
theorem DtAll.len {H : Hp} : ∀ {ds : List PyData} {vs : List V}, DtAll H vs ds → vs.length = ds.length
  | [], _, h => by cases h; rfl
  | d :: ds, _, h => by
    cases h with
    | cons h1 h2 => rw [List.length_cons, List.length_cons, DtAll.len h2]
theorem DtAll.get {H : Hp} : ∀ {ds : List PyData} {vs : List V} {i : Nat} {d : PyData}, DtAll H vs ds → ds[i]? = some d → ∃ v, vs[i]? = some v ∧ Dt H v d
  | [], _, i, d, h, e => by simp at e
  | d :: ds, _, 0, d', h, e => by
    cases h with
    | cons h1 h2 => simp at e; subst e; exact ⟨_, rfl, h1⟩
  | d :: ds, _, i + 1, d', h, e => by
    cases h with
    | cons h1 h2 =>
      obtain ⟨v, a, b⟩ := DtAll.get (i := i) h2 (by simpa using e)
      exact ⟨v, by simpa using a, b⟩
theorem DtAll.getV {H : Hp} : ∀ {ds : List PyData} {vs : List V} {i : Nat} {v : V}, DtAll H vs ds → vs[i]? = some v → ∃ d, ds[i]? = some d ∧ Dt H v d
  | [], _, i, d, h, e => by cases h; simp at e
  | d :: ds, _, 0, d', h, e => by
    cases h with
    | cons h1 h2 => simp at e; subst e; exact ⟨_, rfl, h1⟩
  | d :: ds, _, i + 1, d', h, e => by
    cases h with
    | cons h1 h2 =>
      obtain ⟨v, a, b⟩ := DtAll.getV (i := i) h2 (by simpa using e)
      exact ⟨v, by simpa using a, b⟩
theorem DtAll.append {H : Hp} : ∀ {ds es : List PyData} {vs us : List V}, DtAll H vs ds → DtAll H us es → DtAll H (vs ++ us) (ds ++ es)
  | [], _, _, _, h, h' => by cases h; exact h'
  | d :: ds, _, _, _, h, h' => by
    cases h with
    | cons h1 h2 => exact .cons h1 (DtAll.append h2 h')
/-! ### data that == may look at -/
theorem lay_all : ∀ {ds : List PyData}, (∀ d ∈ ds, d.canLay0 = true) → PyData.canLayAll0 ds = true
  | [], _ => by rw [PyData.canLayAll0]
  | d :: ds, h => by
    rw [PyData.canLayAll0, h d List.mem_cons_self, lay_all fun e he => h e (List.mem_cons_of_mem _ he)]; rfl
theorem dep_all {n : Nat} : ∀ {ds : List PyData}, (∀ d ∈ ds, d.depth ≤ n) → PyData.depthAll ds ≤ n
  | [], _ => by rw [PyData.depthAll]; exact Nat.zero_le _
  | d :: ds, h => by
    rw [PyData.depthAll]
    exact Nat.max_le.mpr ⟨h d List.mem_cons_self, dep_all fun e he => h e (List.mem_cons_of_mem _ he)⟩
/-- shaped, of so little depth -/
def Sh (n : Nat) (d : PyData) : Prop := d.canLay0 = true ∧ d.depth ≤ n
theorem Sh.int (n : Nat) (i : Int) : Sh n (.int i) := ⟨by rw [PyData.canLay0], by rw [PyData.depth]; exact Nat.zero_le _⟩
theorem Sh.bool (n : Nat) (i : Bool) : Sh n (.bool i) := ⟨by rw [PyData.canLay0], by rw [PyData.depth]; exact Nat.zero_le _⟩
theorem Sh.none (n : Nat) : Sh n .none := ⟨by rw [PyData.canLay0], by rw [PyData.depth]; exact Nat.zero_le _⟩
theorem Sh.tup {n : Nat} {ds : List PyData} (h : ∀ d ∈ ds, Sh n d) : Sh (n + 1) (.tuple ds) := ⟨by rw [PyData.canLay0]; exact lay_all fun d hd => (h d hd).1, by rw [PyData.depth]; exact Nat.succ_le_succ (dep_all fun d hd => (h d hd).2)⟩
theorem Sh.lst {n : Nat} {ds : List PyData} (h : ∀ d ∈ ds, Sh n d) : Sh (n + 1) (.list ds) := ⟨by rw [PyData.canLay0]; exact lay_all fun d hd => (h d hd).1, by rw [PyData.depth]; exact Nat.succ_le_succ (dep_all fun d hd => (h d hd).2)⟩
theorem Sh.ok {n : Nat} {d : PyData} (h : Sh n d) (hn : n ≤ 64 := by decide) : SeqAt.shaped d = true := by
  unfold SeqAt.shaped
  rw [h.1, decide_eq_true (Nat.le_trans h.2 hn)]; rfl
def tyName : PyData → String
  | .none => "NoneType"
  | .bool _ => "bool"
  | .int _ => "int"
  | .str _ => "str"
  | .list _ => "list"
  | .tuple _ => "tuple"
  | .dict _ => "dict"
theorem Dt.ty {K : PySem.W.Frag} {H : Hp} : ∀ {d : PyData} {v : V}, Dt H v d → TyX K H v (.type (tyName d))
  | .none, _, h => by cases h; exact .base .non
  | .bool b, _, h => by cases h; exact .base (.bl b)
  | .int i, _, h => by cases h; exact .base (.int i)
  | .str x, _, h => by cases h; exact .base (.str x)
  | .list ds, _, h => by
    cases h with
    | lst ha hs => exact .base (.lst ha)
  | .tuple ds, _, h => by
    cases h with
    | tup ha hs => exact .base (.tup ha)
  | .dict _, _, h => by cases h
def isNoneD : PyData → Bool
  | .none => true
  | _ => false
theorem Dt.isNon {H : Hp} {d : PyData} {v : V} (h : Dt H v d) : decide (v = V.non) = isNoneD d := by
  cases h <;> rfl
def isIntD : PyData → Bool
  | .int _ => true
  | .bool _ => true
  | _ => false
def isBoolD : PyData → Bool
  | .bool _ => true
  | _ => false
def isTupD : PyData → Bool
  | .tuple _ => true
  | _ => false
def isListD : PyData → Bool
  | .list _ => true
  | _ => false
theorem kitInt : ∀ d : PyData, kitB (tyName d) "int" = some (isIntD d)
  | .none => (by decide +kernel : kitB "NoneType" "int" = some false)
  | .bool _ => (by decide +kernel : kitB "bool" "int" = some true)
  | .int _ => (by decide +kernel : kitB "int" "int" = some true)
  | .str _ => (by decide +kernel : kitB "str" "int" = some false)
  | .list _ => (by decide +kernel : kitB "list" "int" = some false)
  | .tuple _ => (by decide +kernel : kitB "tuple" "int" = some false)
  | .dict _ => (by decide +kernel : kitB "dict" "int" = some false)
theorem kitBool : ∀ d : PyData, kitB (tyName d) "bool" = some (isBoolD d)
  | .none => (by decide +kernel : kitB "NoneType" "bool" = some false)
  | .bool _ => (by decide +kernel : kitB "bool" "bool" = some true)
  | .int _ => (by decide +kernel : kitB "int" "bool" = some false)
  | .str _ => (by decide +kernel : kitB "str" "bool" = some false)
  | .list _ => (by decide +kernel : kitB "list" "bool" = some false)
  | .tuple _ => (by decide +kernel : kitB "tuple" "bool" = some false)
  | .dict _ => (by decide +kernel : kitB "dict" "bool" = some false)
theorem kitTup : ∀ d : PyData, kitB (tyName d) "tuple" = some (isTupD d)
  | .none => (by decide +kernel : kitB "NoneType" "tuple" = some false)
  | .bool _ => (by decide +kernel : kitB "bool" "tuple" = some false)
  | .int _ => (by decide +kernel : kitB "int" "tuple" = some false)
  | .str _ => (by decide +kernel : kitB "str" "tuple" = some false)
  | .list _ => (by decide +kernel : kitB "list" "tuple" = some false)
  | .tuple _ => (by decide +kernel : kitB "tuple" "tuple" = some true)
  | .dict _ => (by decide +kernel : kitB "dict" "tuple" = some false)
theorem kitList : ∀ d : PyData, kitB (tyName d) "list" = some (isListD d)
  | .none => (by decide +kernel : kitB "NoneType" "list" = some false)
  | .bool _ => (by decide +kernel : kitB "bool" "list" = some false)
  | .int _ => (by decide +kernel : kitB "int" "list" = some false)
  | .str _ => (by decide +kernel : kitB "str" "list" = some false)
  | .list _ => (by decide +kernel : kitB "list" "list" = some true)
  | .tuple _ => (by decide +kernel : kitB "tuple" "list" = some false)
  | .dict _ => (by decide +kernel : kitB "dict" "list" = some false)
theorem r_isi {K : PySem.W.Frag} {H : Hp} {v : V} {d : PyData} {T : String} {b : Bool} {Q : VK} (h : Dt H v d) (e : kitB (tyName d) T = some b) (k : Q (.bl b) H) : rIsi K [v, .ty T] H Q :=
  ⟨_, _, _, _, _, rfl, .ty _, h.ty, kit_ty e, k⟩
/-- lo ≤ i ≤ hi, of a whole number -/
def isI (d : PyData) (lo hi : Int) : Bool := match d with
  | .int i => decide (lo ≤ i) && decide (i ≤ hi)
  | _ => false
def geI (d : PyData) (lo : Int) : Bool := match d with
  | .int i => decide (lo ≤ i)
  | _ => false
def spGe : Sp := fun vs H Q _ => ∃ v d lo, vs = [v, .int lo] ∧ Dt H v d ∧ Q (.bl (geI d lo)) H
def spBtw : Sp := fun vs H Q _ => ∃ v d lo hi, vs = [v, .int lo, .int hi] ∧ Dt H v d ∧ Q (.bl (isI d lo hi)) H
def spIdx : Sp := fun vs H Q _ => ∃ v d n, vs = [v, .int n] ∧ Dt H v d ∧ Q (.bl (isI d 0 (n - 1))) H
def spWord : Sp := fun vs H Q _ => ∃ v d, vs = [v] ∧ Dt H v d ∧ Q (.bl (isI d 0 4294967295)) H
theorem Dt.new {H : Hp} {p : Addr} {xs : List V} {ds : List PyData} (h : DtAll H xs ds) (hp : H p = none) : Dt (upd H p (.tup xs)) (.ref p) (.tuple ds) := .tup upd_same (h.same (Same.new hp))
/-- t + u of data -/
theorem r_catD {K : PySem.W.Frag} {H : Hp} {v u : V} {ds es : List PyData} {Q : VK} (h1 : Dt H v (.tuple ds)) (h2 : Dt H u (.tuple es)) (hz : ds.length + es.length ≤ 100000) (k : ∀ v' H', Same H H' → Dt H' v' (.tuple (ds ++ es)) → Q v' H') : rCatA K v u H Q := by
  cases h1 with
  | @tup a xs _ ha hs =>
    cases h2 with
    | @tup b ys _ hb ht =>
      refine ⟨a, b, xs, ys, rfl, rfl, SqT.of ha, SqT.of hb, szn (by rw [hs.len, ht.len]; exact hz), fun e => ?_, fun _ e => ?_, fun _ _ p hp => ?_⟩
      · subst e
        have : ds = [] := List.length_eq_zero_iff.mp (by rw [← hs.len]; rfl)
        subst this
        exact k _ _ (Same.refl H) (.tup hb ht)
      · subst e
        have : es = [] := List.length_eq_zero_iff.mp (by rw [← ht.len]; rfl)
        subst this
        rw [List.append_nil] at k
        exact k _ _ (Same.refl H) (.tup ha hs)
      · exact k _ _ (Same.new hp) (Dt.new (hs.append ht) hp)
/-! ### comprehensions whose elements change nothing that stood -/
theorem take_snoc {α : Type} {l : List α} {i : Nat} {y : α} (h : l[i]? = some y) : l.take i ++ [y] = l.take (i + 1) := by
  rw [List.take_add_one, h]; rfl
section
variable {K : PySem.W.Frag} {g : TG} {te : TE} {vs : List Nat} {σ : L2.St} {H : Hp} {D : Addr} {Qd : Hp → Prop}
/-- over a tuple: ys are the elements -/
theorem lcT {a : Addr} {xs : List V} (ys : List V) (hl : ys.length = xs.length) (hz : xs.length < 100000) (hx : H a = some (.tup xs)) (hD : H D = none)
    (step : ∀ (j : Nat) (x y : V) (H1 : Hp) (Q' : VK), xs[j]? = some x → ys[j]? = some y → Same H H1 → (∀ H2, Same H1 H2 → Q' y H2) → g x (wipe σ vs) H1 fun σ2 H2 => wipe σ2 vs = wipe σ vs ∧ te σ2 H2 Q')
    (k : ∀ H1, Same H H1 → H1 D = some (.lst ys) → Qd H1) :
    ∃ W : Nat → Nat → Hp → Prop, (∃ m, W 0 m (upd H D (.lst []))) ∧ ∀ i m H, W i m H →
      ((Itt K a).stop i H ∧ Qd H) ∨ ((Itt K a).go i H ∧ ∃ Nx : Hp → Prop, (∀ H', Nx H' → ∃ m', m' < m ∧ W (i + 1) m' H') ∧ ∀ x H', (Itt K a).yld i H x H' → g x (wipe σ vs) H' fun σ2 H2 => wipe σ2 vs = wipe σ vs ∧ tYes σ2 H2 fun b H3 =>
        if b = true then te σ2 H3 fun y H4 => ∃ acc, H4 D = some (.lst acc) ∧ acc.length < sizeLine ∧ Nx (upd H4 D (.lst (acc ++ [y]))) else Nx H3) := by
  refine lc_tup (K := K) (xs := xs) (fun i H1 => Same H H1 ∧ H1 D = some (.lst (ys.take i))) ⟨Same.new hD, upd_same⟩ (fun i H1 _ h => SqT.of (h.1 _ _ hx)) ?_ ?_
  · rintro i x H1 hi ⟨s1, d1⟩
    have hil : i < xs.length := (List.getElem?_eq_some_iff.mp hi).1
    have hy : ys[i]? = some ys[i] := List.getElem?_eq_getElem (by omega)
    refine step i x _ H1 _ hi hy s1 fun H2 s2 => ?_
    refine ⟨_, s2 _ _ d1, ?_, Same.mut (s1.trans s2) hD, ?_⟩
    · rw [List.length_take]
      exact Nat.lt_of_lt_of_le (Nat.lt_of_le_of_lt (Nat.min_le_right _ _) (by omega : ys.length < 100000)) (by decide)
    · rw [take_snoc hy]; exact upd_same
  · rintro H1 ⟨s1, d1⟩
    rw [List.take_of_length_le (by omega)] at d1
    exact k H1 s1 d1
/-- over a list: ys are the elements -/
theorem lcL {a : Addr} {xs : List V} (ys : List V) (hl : ys.length = xs.length) (hz : xs.length < 100000) (hx : H a = some (.lst xs)) (hD : H D = none)
    (step : ∀ (j : Nat) (x y : V) (H1 : Hp) (Q' : VK), xs[j]? = some x → ys[j]? = some y → Same H H1 → (∀ H2, Same H1 H2 → Q' y H2) → g x (wipe σ vs) H1 fun σ2 H2 => wipe σ2 vs = wipe σ vs ∧ te σ2 H2 Q')
    (k : ∀ H1, Same H H1 → H1 D = some (.lst ys) → Qd H1) :
    ∃ W : Nat → Nat → Hp → Prop, (∃ m, W 0 m (upd H D (.lst []))) ∧ ∀ i m H, W i m H →
      ((Itl K a).stop i H ∧ Qd H) ∨ ((Itl K a).go i H ∧ ∃ Nx : Hp → Prop, (∀ H', Nx H' → ∃ m', m' < m ∧ W (i + 1) m' H') ∧ ∀ x H', (Itl K a).yld i H x H' → g x (wipe σ vs) H' fun σ2 H2 => wipe σ2 vs = wipe σ vs ∧ tYes σ2 H2 fun b H3 =>
        if b = true then te σ2 H3 fun y H4 => ∃ acc, H4 D = some (.lst acc) ∧ acc.length < sizeLine ∧ Nx (upd H4 D (.lst (acc ++ [y]))) else Nx H3) := by
  refine lc_list (K := K) (xs := xs) (fun i H1 => Same H H1 ∧ H1 D = some (.lst (ys.take i))) ⟨Same.new hD, upd_same⟩ (fun i H1 _ h => SqL.of (h.1 _ _ hx)) ?_ ?_
  · rintro i x H1 hi ⟨s1, d1⟩
    have hil : i < xs.length := (List.getElem?_eq_some_iff.mp hi).1
    have hy : ys[i]? = some ys[i] := List.getElem?_eq_getElem (by omega)
    refine step i x _ H1 _ hi hy s1 fun H2 s2 => ?_
    refine ⟨_, s2 _ _ d1, ?_, Same.mut (s1.trans s2) hD, ?_⟩
    · rw [List.length_take]
      exact Nat.lt_of_lt_of_le (Nat.lt_of_le_of_lt (Nat.min_le_right _ _) (by omega : ys.length < 100000)) (by decide)
    · rw [take_snoc hy]; exact upd_same
  · rintro H1 ⟨s1, d1⟩
    rw [List.take_of_length_le (by omega)] at d1
    exact k H1 s1 d1
theorem lcR {lo : Int} {n : Nat} (ys : List V) (hl : ys.length = n) (hz : n < 100000) (hD : H D = none)
    (step : ∀ (j : Nat) (y : V) (H1 : Hp) (Q' : VK), ys[j]? = some y → Same H H1 → (∀ H2, Same H1 H2 → Q' y H2) → g (.int (lo + j)) (wipe σ vs) H1 fun σ2 H2 => wipe σ2 vs = wipe σ vs ∧ te σ2 H2 Q')
    (k : ∀ H1, Same H H1 → H1 D = some (.lst ys) → Qd H1) :
    ∃ W : Nat → Nat → Hp → Prop, (∃ m, W 0 m (upd H D (.lst []))) ∧ ∀ i m H, W i m H →
      ((Itr lo n).stop i H ∧ Qd H) ∨ ((Itr lo n).go i H ∧ ∃ Nx : Hp → Prop, (∀ H', Nx H' → ∃ m', m' < m ∧ W (i + 1) m' H') ∧ ∀ x H', (Itr lo n).yld i H x H' → g x (wipe σ vs) H' fun σ2 H2 => wipe σ2 vs = wipe σ vs ∧ tYes σ2 H2 fun b H3 =>
        if b = true then te σ2 H3 fun y H4 => ∃ acc, H4 D = some (.lst acc) ∧ acc.length < sizeLine ∧ Nx (upd H4 D (.lst (acc ++ [y]))) else Nx H3) := by
  refine lc_range (fun i H1 => Same H H1 ∧ H1 D = some (.lst (ys.take i))) ⟨Same.new hD, upd_same⟩ ?_ ?_
  · rintro i H1 hi ⟨s1, d1⟩
    have hy : ys[i]? = some ys[i] := List.getElem?_eq_getElem (by omega)
    refine step i _ H1 _ hy s1 fun H2 s2 => ?_
    refine ⟨_, s2 _ _ d1, ?_, Same.mut (s1.trans s2) hD, ?_⟩
    · rw [List.length_take]
      exact Nat.lt_of_lt_of_le (Nat.lt_of_le_of_lt (Nat.min_le_right _ _) (by omega : ys.length < 100000)) (by decide)
    · rw [take_snoc hy]; exact upd_same
  · rintro H1 ⟨s1, d1⟩
    rw [List.take_of_length_le (by omega)] at d1
    exact k H1 s1 d1
end
end My

namespace My
open PySem L2
def topS (i : Nat) : Stmt := PySem.Challenge.pw_steadhold_k31_slices_of_time.main.body.getD i (.Pass ⟨0, 0, 0, 0⟩)
structure Txt (K : PySem.W.Frag) (mg : Str → Option Value) (C_Slices C_NotValid : Addr) : Prop where
  b_abs : mg "abs" = none
  b_all : mg "all" = none
  b_bool : mg "bool" = none
  b_int : mg "int" = none
  b_isinstance : mg "isinstance" = none
  b_len : mg "len" = none
  b_list : mg "list" = none
  b_range : mg "range" = none
  c_ENVIRONMENTS : ∃ t, mg "ENVIRONMENTS" = some (.int 4 t)
  c_SLOTS : ∃ t, mg "SLOTS" = some (.int 8 t)
  c_UNITS : ∃ t, mg "UNITS" = some (.int 6 t)
  x_NotValid : Exn K mg "NotValid" C_NotValid
  o_Slices : Cls K C_Slices
  n_Slices__owners : NoAttr K C_Slices "_owners"
  n_Slices__turn : NoAttr K C_Slices "_turn"
  n_Slices__unit : NoAttr K C_Slices "_unit"
  n_Slices__holder : NoAttr K C_Slices "_holder"
end My

namespace My
open PySem L2
local macro_rules | `(tactic| walk_at "ne") => `(tactic| first | assumption | exact Ne.symm (by assumption) | exact ne_of_none (by assumption) (by assumption) | exact Ne.symm (ne_of_none (by assumption) (by assumption)))
local macro_rules | `(tactic| walk_at "hp") => `(tactic| first | assumption | with_reducible exact upd_same | (with_reducible refine Eq.trans (upd_ne ?_) ?_; rotate_left; walk_at "hp"; walk_at "ne"))
local macro_rules | `(tactic| walk_at "cnd") => `(tactic| first | omega | (show (0 : Int) < _; omega) | exact ⟨by omega, by omega⟩ | exact Or.inl ⟨by omega, by omega⟩ | exact Or.inr ⟨by omega, by omega⟩ | exact ⟨by omega, by omega, by decide⟩ | exact ⟨by omega, by omega, by omega⟩)
local macro_rules | `(tactic| walk_at "at") => `(tactic| first | exact atC 0 rfl rfl | exact atC 1 rfl rfl | exact atC 2 rfl rfl | exact atC 3 rfl rfl | exact atC 4 rfl rfl | exact atC 5 rfl rfl | exact atC 6 rfl rfl | exact atC 7 rfl rfl)
local macro_rules | `(tactic| walk_at "ix") => `(tactic| first | exact ixC 0 rfl (Nat.le_of_ble_eq_true rfl) | exact ixC 1 rfl (Nat.le_of_ble_eq_true rfl) | exact ixC 2 rfl (Nat.le_of_ble_eq_true rfl) | exact ixC 3 rfl (Nat.le_of_ble_eq_true rfl) | exact ixC 4 rfl (Nat.le_of_ble_eq_true rfl) | exact ixC 5 rfl (Nat.le_of_ble_eq_true rfl))
local macro_rules | `(tactic| walk_at "st") => `(tactic| first
  | refine ⟨_, rfl, ?_⟩
  | refine ⟨_, _, rfl, rfl, (by walk_at "cnd" : (_ : Prop)), ?_⟩
  | refine ⟨_, _, rfl, rfl, ?_⟩
  | refine ⟨rfl, ?_⟩
  | refine Or.inl ⟨_, rfl, ?_⟩
  | refine ⟨_, _, _, _, rfl, rfl, by exact SqL.of (by walk_at "hp"), by walk_at "at", ?_⟩
  | refine ⟨_, _, _, _, rfl, rfl, by exact SqT.of (by walk_at "hp"), by walk_at "at", ?_⟩
  | refine ⟨_, _, _, _, rfl, rfl, by walk_at "hp", by walk_at "ix", ?_⟩
  | refine ⟨_, _, rfl, Or.inl (by exact SqL.of (by walk_at "hp")), ?_⟩
  | refine ⟨_, _, rfl, Or.inr (by exact SqT.of (by walk_at "hp")), ?_⟩)
local macro_rules | `(tactic| walk_at "so") => `(tactic| first
  | refine ⟨_, _, _, _, _, rfl, by walk_at "hp", by assumption, by assumption, rfl, ?_⟩
  | refine ⟨_, _, _, _, rfl, by walk_at "hp", by assumption, by assumption, Nat.le_of_ble_eq_true rfl, ?_⟩
  | refine ⟨_, _, _, rfl, by walk_at "hp", rfl, ?_⟩
  | walk_at "st")
local macro_rules | `(tactic| walk_at "ro") => `(tactic| repeat walk_at "so")
local macro_rules | `(tactic| walk_at "run") => `(tactic| repeat walk_at "st")

/-! the tape -/
def Tape (H : Hp) (a s : Addr) : Prop := ∃ (ns : List Int) (i r z : Int), H a = some (.lst [.ref s, .int i, .int r, .int z]) ∧ H s = some (.lst (ns.map V.int)) ∧ 0 ≤ i ∧ 0 ≤ r ∧ 0 ≤ z ∧ z < 2147483647
def spNext : Sp := fun vs H Q _ => ∃ (a t : Addr) (many : Int), vs = [.ref a, .int many] ∧ 0 < many ∧ many < 1000000 ∧ Tape H a t ∧ ∀ v H', 0 ≤ v → v < many → Tape H' a t → Chg a H H' → Q (.int v) H'
theorem Tape.lst {H : Hp} {a t : Addr} (h : Tape H a t) : ∃ xs, H a = some (.lst xs) := by
  obtain ⟨ns, i, r, z, ha, _⟩ := h
  exact ⟨_, ha⟩
theorem Tape.at {H : Hp} {a t p : Addr} (h : Tape H a t) (hp : H p = none) : p ≠ a := by
  obtain ⟨ns, i, r, z, ha, _⟩ := h
  exact (ne_of_none ha hp).symm
theorem Tape.at2 {H : Hp} {a t p : Addr} (h : Tape H a t) (hp : H p = none) : p ≠ t := by
  obtain ⟨ns, i, r, z, ha, hs, _⟩ := h
  exact (ne_of_none hs hp).symm
theorem Tape.same {H H' : Hp} {a t : Addr} (h : Tape H a t) (s : Same H H') : Tape H' a t := by
  obtain ⟨ns, i, r, z, ha, hs, q⟩ := h
  exact ⟨ns, i, r, z, s _ _ ha, s _ _ hs, q⟩
theorem Tape.upd {H : Hp} {a t W : Addr} {o : HO} (h : Tape H a t) (n1 : W ≠ a) (n2 : W ≠ t) : Tape (L2.upd H W o) a t := by
  obtain ⟨ns, i, r, z, ha, hs, q⟩ := h
  exact ⟨ns, i, r, z, by rw [upd_ne n1.symm]; exact ha, by rw [upd_ne n2.symm]; exact hs, q⟩
theorem Tape.ts {H H' : Hp} {a t : Addr} (h : Tape H a t) (c : Chg a H H') : TS H H' := by
  obtain ⟨xs, e⟩ := h.lst
  exact c.ts e
section
variable {P : Program} {w : World} {K : PySem.W.Frag} {mg : Str → Option Value} {base : Heap} {C_Slices C_NotValid : Addr}
abbrev s_law_next : Stmt := topS 15
abbrev ns_law_next : List Str := ["tape", "many", "rest", "cell"]
theorem sc_law_next : FnScope ns_law_next ["tape", "many"] (defScope s_law_next) := ⟨rfl, rfl, rfl, by decide +kernel, rfl, by decide +kernel, by decide +kernel⟩

theorem ok_law_next {f : Addr} {fd : FuncData} (F : Fun K "_law_next" "_law_next" s_law_next f fd) (T : Txt K mg C_Slices C_NotValid) : FnOk P w K mg base CX0 1 f fd ["tape", "many"] spNext := by
  refine F.ok sc_law_next (fun vs H Q E h => ?_) (fun cdv A outer s H vs Q E hr h => ?_)
  · obtain ⟨a, s, many, rfl, _⟩ := h
    rfl
  · obtain ⟨a, s, many, rfl, m0, m1, ⟨ns, i, r, z, ha, hs, i0, r0, z0, z1⟩, k⟩ := h
    have nsa : s ≠ a := ne_of hs ha (by intro q; cases ns <;> cases q)
    refine ⟨_, (pss_cons (ps_set (i := 2) sc_law_next.nd rfl (Or.inl rfl) (pe_ix (kIxL K) (pv 0) pe_int (fun _ _ => rfl)))
  (pss_cons (ps_if (pt_cmpR op_gt (pv 2) pe_int (nomark _)) (pss_cons (ps_asg (pe_op op_fdiv (pv 2) (pv 1)) (pg_sub (pv 0) pe_int set_list))
  (pss_one (ps_ret (pe_op op_mod (pe_callTy call_int1 (by rfl) T.b_int (by decide +kernel) (pa_cons (pv 2) pa_nil)) (pv 1))))) pss_nil)
  (pss_cons (ps_set (i := 3) sc_law_next.nd rfl (Or.inl rfl) pe_int)
  (C8.pss_cut (ps_if (pt_cmpR op_lt (pe_ix (kIxL K) (pv 0) pe_int (fun _ _ => rfl)) (pe_callB (kLen K) (by rfl) T.b_len (by decide +kernel) (pa_cons (pe_ix (kIxL K) (pv 0) pe_int (fun _ _ => rfl)) pa_nil)) (nomark _)) (pss_cons (ps_set (i := 3) sc_law_next.nd rfl (Or.inl rfl) (pe_callB call_abs (by rfl) T.b_abs (by decide +kernel) (pa_cons (pe_ix (kIxL K) (pe_ix (kIxL K) (pv 0) pe_int (fun _ _ => rfl)) (pe_ix (kIxL K) (pv 0) pe_int (fun _ _ => rfl)) (fun _ _ => rfl)) pa_nil)))
  (pss_one (ps_augS (pv 0) pe_int (kGetL K) pe_int ip_add set_list))) pss_nil)
  (pss_cons (ps_if (pt_cmpR op_ge (pv 3) (pe_op op_pow pe_int pe_int) (nomark _)) (pss_cons (ps_asg (pe_op op_fdiv (pv 3) (pv 1)) (pg_sub (pv 0) pe_int set_list))
  (pss_one (ps_ret (pe_op op_mod (pe_callTy call_int1 (by rfl) T.b_int (by decide +kernel) (pa_cons (pv 3) pa_nil)) (pv 1))))) pss_nil)
  (pss_cons (ps_asg (pe_op op_mod (pe_callTy call_int1 (by rfl) T.b_int (by decide +kernel) (pa_cons (pe_op op_add (pe_op op_add (pe_op op_mul (pe_ix (kIxL K) (pv 0) pe_int (fun _ _ => rfl)) pe_int) (pe_op op_mul (pv 3) pe_int)) pe_int) pa_nil)) pe_int) (pg_sub (pv 0) pe_int set_list))
  (pss_one (ps_ret (pe_op op_mod (pe_callTy call_int1 (by rfl) T.b_int (by decide +kernel) (pa_cons (pe_op op_fdiv (pe_op op_mod (pe_op op_mul (pe_ix (kIxL K) (pv 0) pe_int (fun _ _ => rfl)) pe_int) pe_int) pe_int) pa_nil)) (pv 1)))))))))), ?_⟩
    -- rest = tape[2]; if rest > 0
    walk_at "run"
    refine iteD (fun h1 => ?_) (fun h1 => ?_)
    · walk_at "run"
      exact k _ _ (Int.emod_nonneg _ (by omega)) (Int.emod_lt_of_pos _ m0) ⟨ns, i, r / many, z, upd_same, by rw [upd_ne nsa]; exact hs, i0, Int.ediv_nonneg r0 (by omega), z0, z1⟩ Chg.upd
    · -- cell = 0; if tape[1] < len(tape[0])
      refine ⟨fun σ H1 => ∃ cell i', σ = [some (.ref a), some (.int many), some (.int r), some (.int cell)] ∧ 0 ≤ cell ∧ 0 ≤ i' ∧ H1 a = some (.lst [.ref s, .int i', .int r, .int z]) ∧ H1 s = some (.lst (ns.map V.int)) ∧ Chg a H H1, ?_, ?_⟩
      · walk_at "run"
        refine iteD (fun h2 => ?_) (fun h2 => ?_)
        · have hi : i.toNat < ns.length := by simpa using (show i.toNat < (ns.map V.int).length by omega)
          walk_at "run"
          refine ⟨_, _, _, _, rfl, rfl, SqL.of hs, atC i.toNat (by omega) (by rw [List.getElem?_map, List.getElem?_eq_getElem hi]; rfl), ?_⟩
          walk_at "run"
          exact ⟨_, i + 1, rfl, by split <;> omega, by omega, upd_same, by rw [upd_ne nsa]; exact hs, Chg.upd⟩
        · exact ⟨0, i, rfl, by omega, i0, ha, hs, Chg.refl _ _⟩
      · rintro σ H1 ⟨cell, i', rfl, c0, i0', ha1, hs1, ch⟩
        walk_at "run"
        refine iteD (fun h3 => ?_) (fun h3 => ?_)
        · walk_at "run"
          exact k _ _ (Int.emod_nonneg _ (by omega)) (Int.emod_lt_of_pos _ m0) ⟨ns, i', cell / many, z, upd_same, by rw [upd_ne nsa]; exact hs1, i0', Int.ediv_nonneg c0 (by omega), z0, z1⟩ (ch.trans Chg.upd)
        · walk_at "run"
          exact k _ _ (Int.emod_nonneg _ (by omega)) (Int.emod_lt_of_pos _ m0) ⟨ns, i', r, _, upd_same, by rw [upd_ne nsa]; exact hs1, i0', r0, Int.emod_nonneg _ (by decide), Int.emod_lt_of_pos _ (by decide)⟩ (ch.trans Chg.upd)
end

section
variable {P : Program} {w : World} {K : PySem.W.Frag} {mg : Str → Option Value} {base : Heap} {C_Slices C_NotValid : Addr}
abbrev s_is_at_least : Stmt := topS 1
abbrev ns_is_at_least : List Str := ["value", "least"]
theorem sc_is_at_least : FnScope ns_is_at_least ["value", "least"] (defScope s_is_at_least) := ⟨rfl, rfl, rfl, by decide +kernel, rfl, by decide +kernel, by decide +kernel⟩

theorem ok_is_at_least {f : Addr} {fd : FuncData} (F : Fun K "is_at_least" "is_at_least" s_is_at_least f fd) (T : Txt K mg C_Slices C_NotValid) : FnOk P w K mg base CX0 1 f fd ["value", "least"] spGe := by
  refine F.ok sc_is_at_least (fun vs H Q E h => ?_) (fun cdv A outer s H vs Q E hr h => ?_)
  · obtain ⟨v, d, lo, rfl, _⟩ := h
    rfl
  · obtain ⟨v, d, lo, rfl, hd, k⟩ := h
    refine ⟨_, (pss_one (ps_ret (pe_and (pe_callB (kIsi K) (by rfl) T.b_isinstance (by decide +kernel) (pa_cons (pv 0) (pa_cons (pe_bltn (v := .ty "int") (by rfl) T.b_int (by decide +kernel) rfl) pa_nil))) (pe_and (pe_not (pe_callB (kIsi K) (by rfl) T.b_isinstance (by decide +kernel) (pa_cons (pv 0) (pa_cons (pe_bltn (v := .ty "bool") (by rfl) T.b_bool (by decide +kernel) rfl) pa_nil)))) (pe_one (pe_cmpR op_ge (pv 0) (pv 1) (nomark _))))))), ?_⟩
    refine ⟨_, rfl, _, _, _, _, _, rfl, .ty _, hd.ty, kit_ty (kitInt d), _, rfl, ?_⟩
    cases hd with
    | int i =>
      refine iteT ⟨_, rfl, _, _, _, _, _, rfl, .ty _, (Dt.int i).ty, kit_ty (kitBool (.int i)), _, rfl, _, rfl, iteT ?_⟩
      walk_at "run"
      exact k
    | bl b => exact iteT ⟨_, rfl, _, _, _, _, _, rfl, .ty _, (Dt.bl b).ty, kit_ty (kitBool (.bool b)), _, rfl, _, rfl, iteF k⟩
    | non => exact iteF k
    | str x => exact iteF k
    | lst a b => exact iteF k
    | tup a b => exact iteF k
abbrev s_is_between : Stmt := topS 2
abbrev ns_is_between : List Str := ["value", "least", "most"]
theorem sc_is_between : FnScope ns_is_between ["value", "least", "most"] (defScope s_is_between) := ⟨rfl, rfl, rfl, by decide +kernel, rfl, by decide +kernel, by decide +kernel⟩

theorem ok_is_between {f : Addr} {fd : FuncData} (F : Fun K "is_between" "is_between" s_is_between f fd) (T : Txt K mg C_Slices C_NotValid) (D_is_at_least : Dfn P w K mg base CX0 1 "is_at_least" ["value", "least"] spGe) : FnOk P w K mg base CX0 2 f fd ["value", "least", "most"] spBtw := by
  refine F.ok sc_is_between (fun vs H Q E h => ?_) (fun cdv A outer s H vs Q E hr h => ?_)
  · obtain ⟨v, d, lo, hi, rfl, _⟩ := h
    rfl
  · obtain ⟨v, d, lo, hi, rfl, hd, k⟩ := h
    refine ⟨_, (pss_one (ps_ret (pe_and (pe_dcall D_is_at_least (hr.mono (by decide)) (by rfl) pass0 (pa_cons (pv 0) (pa_cons (pv 1) pa_nil))) (pe_one (pe_cmpR op_le (pv 0) (pv 2) (nomark _)))))), ?_⟩
    refine ⟨_, rfl, _, rfl, _, d, _, rfl, hd, _, rfl, iteB (fun e => ?_) (fun e => ?_)⟩
    · cases hd with
      | int i =>
        walk_at "run"
        have e' : decide (lo ≤ i) = true := e
        have k' : Q (.bl (decide (lo ≤ i) && decide (i ≤ hi))) H := k
        rw [e', Bool.true_and] at k'
        exact k'
      | bl b => cases e
      | non => cases e
      | str x => cases e
      | lst a b => cases e
      | tup a b => cases e
    · have e2 : isI d lo hi = false := by
        cases d with
        | int i =>
          have e' : decide (lo ≤ i) = false := e
          show (decide (lo ≤ i) && decide (i ≤ hi)) = false
          rw [e', Bool.false_and]
        | _ => rfl
      rw [e2] at k
      exact k
abbrev s_is_index : Stmt := topS 3
abbrev ns_is_index : List Str := ["value", "many"]
theorem sc_is_index : FnScope ns_is_index ["value", "many"] (defScope s_is_index) := ⟨rfl, rfl, rfl, by decide +kernel, rfl, by decide +kernel, by decide +kernel⟩

theorem ok_is_index {f : Addr} {fd : FuncData} (F : Fun K "is_index" "is_index" s_is_index f fd) (T : Txt K mg C_Slices C_NotValid) (D_is_between : Dfn P w K mg base CX0 2 "is_between" ["value", "least", "most"] spBtw) : FnOk P w K mg base CX0 3 f fd ["value", "many"] spIdx := by
  refine F.ok sc_is_index (fun vs H Q E h => ?_) (fun cdv A outer s H vs Q E hr h => ?_)
  · obtain ⟨v, d, n, rfl, _⟩ := h
    rfl
  · obtain ⟨v, d, n, rfl, hd, k⟩ := h
    refine ⟨_, (pss_one (ps_ret (pe_dcall D_is_between (hr.mono (by decide)) (by rfl) pass0 (pa_cons (pv 0) (pa_cons pe_int (pa_cons (pe_op op_sub (pv 1) pe_int) pa_nil)))))), ?_⟩
    walk_at "run"
    exact ⟨_, d, _, _, rfl, hd, k⟩
end

end My

namespace My
open PySem L2
local macro_rules | `(tactic| walk_at "ne") => `(tactic| first | assumption | exact Ne.symm (by assumption) | exact ne_of_none (by assumption) (by assumption) | exact Ne.symm (ne_of_none (by assumption) (by assumption)))
local macro_rules | `(tactic| walk_at "hp") => `(tactic| first | assumption | with_reducible exact upd_same | (with_reducible refine Eq.trans (upd_ne ?_) ?_; rotate_left; walk_at "hp"; walk_at "ne"))
local macro_rules | `(tactic| walk_at "cnd") => `(tactic| first | omega | (show (0 : Int) < _; omega) | exact ⟨by omega, by omega⟩ | exact Or.inl ⟨by omega, by omega⟩ | exact Or.inr ⟨by omega, by omega⟩ | exact ⟨by omega, by omega, by decide⟩ | exact ⟨by omega, by omega, by omega⟩)
local macro_rules | `(tactic| walk_at "at") => `(tactic| first | exact atC 0 rfl rfl | exact atC 1 rfl rfl | exact atC 2 rfl rfl | exact atC 3 rfl rfl | exact atC 4 rfl rfl | exact atC 5 rfl rfl | exact atC 6 rfl rfl | exact atC 7 rfl rfl)
local macro_rules | `(tactic| walk_at "ix") => `(tactic| first | exact ixC 0 rfl (Nat.le_of_ble_eq_true rfl) | exact ixC 1 rfl (Nat.le_of_ble_eq_true rfl) | exact ixC 2 rfl (Nat.le_of_ble_eq_true rfl) | exact ixC 3 rfl (Nat.le_of_ble_eq_true rfl) | exact ixC 4 rfl (Nat.le_of_ble_eq_true rfl) | exact ixC 5 rfl (Nat.le_of_ble_eq_true rfl))
local macro_rules | `(tactic| walk_at "st") => `(tactic| first
  | refine ⟨_, rfl, ?_⟩
  | refine ⟨_, _, rfl, rfl, (by walk_at "cnd" : (_ : Prop)), ?_⟩
  | refine ⟨_, _, rfl, rfl, ?_⟩
  | refine ⟨rfl, ?_⟩
  | refine Or.inl ⟨_, rfl, ?_⟩
  | refine ⟨_, _, _, _, rfl, rfl, by exact SqL.of (by walk_at "hp"), by walk_at "at", ?_⟩
  | refine ⟨_, _, _, _, rfl, rfl, by exact SqT.of (by walk_at "hp"), by walk_at "at", ?_⟩
  | refine ⟨_, _, _, _, rfl, rfl, by walk_at "hp", by walk_at "ix", ?_⟩
  | refine ⟨_, _, rfl, Or.inl (by exact SqL.of (by walk_at "hp")), ?_⟩
  | refine ⟨_, _, rfl, Or.inr (by exact SqT.of (by walk_at "hp")), ?_⟩)
local macro_rules | `(tactic| walk_at "so") => `(tactic| first
  | refine ⟨_, _, _, _, _, rfl, by walk_at "hp", by assumption, by assumption, rfl, ?_⟩
  | refine ⟨_, _, _, _, rfl, by walk_at "hp", by assumption, by assumption, Nat.le_of_ble_eq_true rfl, ?_⟩
  | refine ⟨_, _, _, rfl, by walk_at "hp", rfl, ?_⟩
  | walk_at "st")
local macro_rules | `(tactic| walk_at "ro") => `(tactic| repeat walk_at "so")
local macro_rules | `(tactic| walk_at "run") => `(tactic| repeat walk_at "st")

def spEnv : Sp := fun vs H Q _ => ∃ v d, vs = [v] ∧ Dt H v d ∧ Q (.bl (isI d 0 3)) H
def okOwn : PyData → Bool
  | .list ds => decide (ds.length = 8) && ds.all fun d => isNoneD d || isI d 0 3
  | _ => false
def spAre : Sp := fun vs H Q _ => ∃ v d, vs = [v] ∧ Dt H v d ∧ (∀ ds, d = .list ds → ds.length ≤ 1000) ∧ ∀ H', Same H H' → Q (.bl (okOwn d)) H'
section
variable {P : Program} {w : World} {K : PySem.W.Frag} {mg : Str → Option Value} {base : Heap} {C_Slices C_NotValid : Addr}
abbrev s_is_environment : Stmt := topS 11
abbrev ns_is_environment : List Str := ["value"]
theorem sc_is_environment : FnScope ns_is_environment ["value"] (defScope s_is_environment) := ⟨rfl, rfl, rfl, by decide +kernel, rfl, by decide +kernel, by decide +kernel⟩

theorem ok_is_environment {f : Addr} {fd : FuncData} (F : Fun K "is_environment" "is_environment" s_is_environment f fd) (T : Txt K mg C_Slices C_NotValid) (D_is_index : Dfn P w K mg base CX0 3 "is_index" ["value", "many"] spIdx) : FnOk P w K mg base CX0 4 f fd ["value"] spEnv := by
  refine F.ok sc_is_environment (fun vs H Q E h => ?_) (fun cdv A outer s H vs Q E hr h => ?_)
  · obtain ⟨v, d, rfl, _⟩ := h
    rfl
  · obtain ⟨v, d, rfl, hd, k⟩ := h
    refine ⟨_, (pss_one (ps_ret (pe_dcall D_is_index (hr.mono (by decide)) (by rfl) pass0 (pa_cons (pv 0) (pa_cons (pe_gint (by rfl) T.c_ENVIRONMENTS) pa_nil))))), ?_⟩
    walk_at "run"
    exact ⟨_, d, _, rfl, hd, k⟩
abbrev s_are_owners : Stmt := topS 12
abbrev ns_are_owners : List Str := ["value", "owner"]
theorem sc_are_owners : FnScope ns_are_owners ["value"] (defScope s_are_owners) := ⟨rfl, rfl, rfl, by decide +kernel, rfl, by decide +kernel, by decide +kernel⟩

theorem ok_are_owners {f : Addr} {fd : FuncData} (F : Fun K "_are_owners" "_are_owners" s_are_owners f fd) (T : Txt K mg C_Slices C_NotValid) (D_is_environment : Dfn P w K mg base CX0 4 "is_environment" ["value"] spEnv) : FnOk P w K mg base CX0 5 f fd ["value"] spAre := by
  refine F.ok sc_are_owners (fun vs H Q E h => ?_) (fun cdv A outer s H vs Q E hr h => ?_)
  · obtain ⟨v, d, rfl, _⟩ := h
    rfl
  · obtain ⟨v, d, rfl, hd, hz, k⟩ := h
    refine ⟨_, (pss_cons (ps_if (PW.pt (pw_or (pt_not (pt_val (pe_callB (kIsi K) (by rfl) T.b_isinstance (by decide +kernel) (pa_cons (pv 0) (pa_cons (pe_bltn (v := .ty "list") (by rfl) T.b_list (by decide +kernel) rfl) pa_nil))))) (pw_or1 (pt_cmpR op_ne (pe_callB (kLen K) (by rfl) T.b_len (by decide +kernel) (pa_cons (pv 0) pa_nil)) (pe_gint (by rfl) T.c_SLOTS) (nomark _))))) (pss_one (ps_ret pe_bl)) pss_nil)
  (pss_one (ps_ret (pe_callB (kAll K rfl) (by rfl) T.b_all (by decide +kernel) (pa_cons (pe_lc (own := [("owner", 1)]) (by rfl) sc_are_owners.nd (kpiL K (pv 0)) (blkOk_by (N := ns_are_owners) (sc := defScope s_are_owners) (by decide +kernel)) (fun _ _ _ _ _ => (pg_name (i := 1) sc_are_owners.nd rfl (Or.inl rfl))) (fun _ _ _ _ _ => pts_nil) (fun _ _ _ _ _ => (pe_or (pe_cmpR op_isN (pv 1) pe_non (nomark _)) (pe_one (pe_dcall D_is_environment (hr.mono (by decide)) (by rfl) pass0 (pa_cons (pv 1) pa_nil)))))) pa_nil))))), ?_⟩
    refine ⟨_, rfl, _, _, _, _, _, rfl, .ty _, hd.ty, kit_ty (kitList d), _, rfl, ?_⟩
    cases hd with
    | @lst a xs ds ha hs =>
      have hlen := hs.len
      have hz' := hz ds rfl
      refine iteF ?_
      walk_at "run"
      refine iteDn (fun h1 => ?_) (fun h1 => ?_)
      · have e : okOwn (.list ds) = false := by
          show (decide (ds.length = 8) && _) = false
          rw [decide_eq_false (by rw [← hlen]; intro q; exact h1 (by rw [q] <;> rfl)), Bool.false_and]
        rw [e] at k
        exact k H (Same.refl H)
      · have h8 : ds.length = 8 := by
          have q : ((xs.length : Nat) : Int) = 8 := by injection h1
          omega
        walk_at "run"
        refine ⟨⟨_, SqL.of ha⟩, fun D hD => ?_⟩
        refine lcL (xs := xs) ((ds.map fun d => isNoneD d || isI d 0 3).map V.bl) (by simp [hlen]) (by omega) ha hD ?_ ?_
        · intro j x y H1 Q' hx hy s1 q
          obtain ⟨d, hd1, hd2⟩ := hs.getV hx
          have ey : y = .bl (isNoneD d || isI d 0 3) := by
            rw [List.getElem?_map, List.getElem?_map, hd1] at hy
            exact (Option.some.inj hy).symm
          subst ey
          refine ⟨rfl, _, rfl, rfl, _, rfl, ?_⟩
          rw [hd2.isNon]
          cases e : isNoneD d with
          | true =>
            rw [e] at q
            exact iteT (q H1 (Same.refl _))
          | false =>
            rw [e] at q
            exact iteF ⟨_, rfl, _, d, rfl, hd2.same s1, q H1 (Same.refl _)⟩
        · intro H1 s1 d1
          refine ⟨_, _, rfl, SqL.of d1, ?_⟩
          have e : okOwn (.list ds) = (ds.map fun d => isNoneD d || isI d 0 3).all id := by
            show (decide (ds.length = 8) && _) = _
            rw [h8]
            simp
          rw [e] at k
          exact k H1 s1
    | int i => exact iteT (k H (Same.refl H))
    | bl b => exact iteT (k H (Same.refl H))
    | non => exact iteT (k H (Same.refl H))
    | str x => exact iteT (k H (Same.refl H))
    | tup a b => exact iteT (k H (Same.refl H))
end
end My

namespace My
open PySem L2
local macro_rules | `(tactic| walk_at "ne") => `(tactic| first | assumption | exact Ne.symm (by assumption) | exact ne_of_none (by assumption) (by assumption) | exact Ne.symm (ne_of_none (by assumption) (by assumption)))
local macro_rules | `(tactic| walk_at "hp") => `(tactic| first | assumption | with_reducible exact upd_same | (with_reducible refine Eq.trans (upd_ne ?_) ?_; rotate_left; walk_at "hp"; walk_at "ne"))
local macro_rules | `(tactic| walk_at "cnd") => `(tactic| first | omega | (show (0 : Int) < _; omega) | exact ⟨by omega, by omega⟩ | exact Or.inl ⟨by omega, by omega⟩ | exact Or.inr ⟨by omega, by omega⟩ | exact ⟨by omega, by omega, by decide⟩ | exact ⟨by omega, by omega, by omega⟩)
local macro_rules | `(tactic| walk_at "at") => `(tactic| first | exact atC 0 rfl rfl | exact atC 1 rfl rfl | exact atC 2 rfl rfl | exact atC 3 rfl rfl | exact atC 4 rfl rfl | exact atC 5 rfl rfl | exact atC 6 rfl rfl | exact atC 7 rfl rfl)
local macro_rules | `(tactic| walk_at "ix") => `(tactic| first | exact ixC 0 rfl (Nat.le_of_ble_eq_true rfl) | exact ixC 1 rfl (Nat.le_of_ble_eq_true rfl) | exact ixC 2 rfl (Nat.le_of_ble_eq_true rfl) | exact ixC 3 rfl (Nat.le_of_ble_eq_true rfl) | exact ixC 4 rfl (Nat.le_of_ble_eq_true rfl) | exact ixC 5 rfl (Nat.le_of_ble_eq_true rfl))
local macro_rules | `(tactic| walk_at "st") => `(tactic| first
  | refine ⟨_, rfl, ?_⟩
  | refine ⟨_, _, rfl, rfl, (by walk_at "cnd" : (_ : Prop)), ?_⟩
  | refine ⟨_, _, rfl, rfl, ?_⟩
  | refine ⟨rfl, ?_⟩
  | refine Or.inl ⟨_, rfl, ?_⟩
  | refine ⟨_, _, _, _, rfl, rfl, by exact SqL.of (by walk_at "hp"), by walk_at "at", ?_⟩
  | refine ⟨_, _, _, _, rfl, rfl, by exact SqT.of (by walk_at "hp"), by walk_at "at", ?_⟩
  | refine ⟨_, _, _, _, rfl, rfl, by walk_at "hp", by walk_at "ix", ?_⟩
  | refine ⟨_, _, rfl, Or.inl (by exact SqL.of (by walk_at "hp")), ?_⟩
  | refine ⟨_, _, rfl, Or.inr (by exact SqT.of (by walk_at "hp")), ?_⟩)
local macro_rules | `(tactic| walk_at "so") => `(tactic| first
  | refine ⟨_, _, _, _, _, rfl, by walk_at "hp", by assumption, by assumption, rfl, ?_⟩
  | refine ⟨_, _, _, _, rfl, by walk_at "hp", by assumption, by assumption, Nat.le_of_ble_eq_true rfl, ?_⟩
  | refine ⟨_, _, _, rfl, by walk_at "hp", rfl, ?_⟩
  | walk_at "st")
local macro_rules | `(tactic| walk_at "ro") => `(tactic| repeat walk_at "so")
local macro_rules | `(tactic| walk_at "run") => `(tactic| repeat walk_at "st")

def valO : Option Nat → V
  | none => .non
  | some n => .int (n : Int)
def datO : Option Nat → PyData
  | none => .none
  | some n => .int (n : Int)
def OwnsOk (os : List (Option Nat)) : Prop := os.length = 8 ∧ ∀ o ∈ os, ∀ n, o = some n → n < 4
/-- the slot of a turn -/
def at8 (os : List (Option Nat)) (t : Nat) : Option Nat := os.getD (t % 8) none
/-- the first turn from t on, within n, that has an owner -/
def srch (os : List (Option Nat)) : Nat → Nat → Option Nat
  | 0, _ => none
  | n + 1, t => if (at8 os t).isSome then some t else srch os n (t + 1)
def SlAt (C : Addr) (H : Hp) (p : Addr) (os : List (Option Nat)) (t u : Nat) (h : Option Nat) : Prop :=
  ∃ dx l, H p = some (.ins C dx [("_owners", .ref l), ("_turn", .int (t : Int)), ("_unit", .int (u : Int)), ("_holder", valO h)]) ∧ H l = some (.lst (os.map valO))
def spRun (C : Addr) : Sp := fun vs H Q _ => ∃ p os t u h, vs = [.ref p] ∧ SlAt C H p os t u h ∧ Q (valO h) H
def spPlace (C : Addr) : Sp := fun vs H Q _ => ∃ p os t u h, vs = [.ref p] ∧ SlAt C H p os t u h ∧ ∀ a H', H a = none → H' = upd H a (.tup [.int ((t / 8 : Nat) : Int), .int ((t % 8 : Nat) : Int), .int (u : Int)]) → Q (.ref a) H'
def spBegin (C : Addr) : Sp := fun vs H Q _ => ∃ p os t u h n, vs = [.ref p, .int (n : Nat)] ∧ SlAt C H p os t u h ∧ OwnsOk os ∧ n ≤ 100000 ∧
  (srch os 8 n = none → Q .non H) ∧ (∀ m, srch os 8 n = some m → ∀ H', SlAt C H' p os m 0 (at8 os m) → Chg p H H' → Q .non H')
def spEnd (C : Addr) : Sp := fun vs H Q _ => ∃ p os t u h, vs = [.ref p] ∧ SlAt C H p os t u h ∧ OwnsOk os ∧ t ≤ 10000 ∧
  (srch os 8 (t + 1) = none → Q (valO (at8 os t)) H) ∧ (∀ m, srch os 8 (t + 1) = some m → ∀ H', SlAt C H' p os m 0 (at8 os m) → Chg p H H' → Q (valO (at8 os t)) H')
theorem mapO_get {os : List (Option Nat)} {i : Nat} (h : i < os.length) : (os.map valO)[i]? = some (valO (os.getD i none)) := by
  rw [List.getElem?_map, List.getElem?_eq_getElem h, List.getD_eq_getElem?_getD, List.getElem?_eq_getElem h]; rfl
theorem valO_non (o : Option Nat) : decide (valO o = V.non) = o.isNone := by cases o <;> rfl
theorem SlAt.ne {C : Addr} {H : Hp} {p : Addr} {os : List (Option Nat)} {t u : Nat} {h : Option Nat} (S : SlAt C H p os t u h) : ∃ dx l, l ≠ p ∧ H p = some (.ins C dx [("_owners", .ref l), ("_turn", .int (t : Int)), ("_unit", .int (u : Int)), ("_holder", valO h)]) ∧ H l = some (.lst (os.map valO)) := by
  obtain ⟨dx, l, h1, h2⟩ := S
  exact ⟨dx, l, ne_of h2 h1 (by intro z; cases z), h1, h2⟩
section
variable {P : Program} {w : World} {K : PySem.W.Frag} {mg : Str → Option Value} {base : Heap} {C_Slices C_NotValid : Addr}
abbrev s_Slices_running : Stmt := inClass (topS 13) 1
abbrev ns_Slices_running : List Str := ["self"]
theorem sc_Slices_running : FnScope ns_Slices_running ["self"] (defScope s_Slices_running) := ⟨rfl, rfl, rfl, by decide +kernel, rfl, by decide +kernel, by decide +kernel⟩

theorem ok_Slices_running {f : Addr} {fd : FuncData} (F : Fun K "running" "Slices.running" s_Slices_running f fd) (T : Txt K mg C_Slices C_NotValid) : FnOk P w K mg base CX0 1 f fd ["self"] (spRun C_Slices) := by
  have ho_Slices := T.o_Slices; have hn_Slices__owners := T.n_Slices__owners; have hn_Slices__turn := T.n_Slices__turn; have hn_Slices__unit := T.n_Slices__unit; have hn_Slices__holder := T.n_Slices__holder
  refine F.ok sc_Slices_running (fun vs H Q E h => ?_) (fun cdv A outer s H vs Q E hr h => ?_)
  · obtain ⟨p, os, t, u, h, rfl, _⟩ := h
    rfl
  · obtain ⟨p, os, t, u, h, rfl, ⟨dx, l, h1, h2⟩, k⟩ := h
    refine ⟨_, (pss_one (ps_ret (kFld K (pv 0) rfl))), ?_⟩
    walk_at "ro"
    exact k
abbrev s_Slices_place : Stmt := inClass (topS 13) 2
abbrev ns_Slices_place : List Str := ["self"]
theorem sc_Slices_place : FnScope ns_Slices_place ["self"] (defScope s_Slices_place) := ⟨rfl, rfl, rfl, by decide +kernel, rfl, by decide +kernel, by decide +kernel⟩

theorem ok_Slices_place {f : Addr} {fd : FuncData} (F : Fun K "place" "Slices.place" s_Slices_place f fd) (T : Txt K mg C_Slices C_NotValid) : FnOk P w K mg base CX0 1 f fd ["self"] (spPlace C_Slices) := by
  have ho_Slices := T.o_Slices; have hn_Slices__owners := T.n_Slices__owners; have hn_Slices__turn := T.n_Slices__turn; have hn_Slices__unit := T.n_Slices__unit; have hn_Slices__holder := T.n_Slices__holder
  refine F.ok sc_Slices_place (fun vs H Q E h => ?_) (fun cdv A outer s H vs Q E hr h => ?_)
  · obtain ⟨p, os, t, u, h, rfl, _⟩ := h
    rfl
  · obtain ⟨p, os, t, u, h, rfl, ⟨dx, l, h1, h2⟩, k⟩ := h
    refine ⟨_, (pss_one (ps_ret (pe_tup (pa_cons (pe_op op_fdiv (kFld K (pv 0) rfl) (pe_gint (by rfl) T.c_SLOTS)) (pa_cons (pe_op op_mod (kFld K (pv 0) rfl) (pe_gint (by rfl) T.c_SLOTS)) (pa_cons (kFld K (pv 0) rfl) pa_nil)))))), ?_⟩
    walk_at "ro"
    refine ⟨szl rfl, fun a ha => ?_⟩
    exact k a _ ha rfl
abbrev s_Slices_begin : Stmt := inClass (topS 13) 7
abbrev ns_Slices_begin : List Str := ["self", "turn", "at", "owner"]
theorem sc_Slices_begin : FnScope ns_Slices_begin ["self", "turn"] (defScope s_Slices_begin) := ⟨rfl, rfl, rfl, by decide +kernel, rfl, by decide +kernel, by decide +kernel⟩

theorem ok_Slices_begin {f : Addr} {fd : FuncData} (F : Fun K "_begin" "Slices._begin" s_Slices_begin f fd) (T : Txt K mg C_Slices C_NotValid) : FnOk P w K mg base CX0 1 f fd ["self", "turn"] (spBegin C_Slices) := by
  have ho_Slices := T.o_Slices; have hn_Slices__owners := T.n_Slices__owners; have hn_Slices__turn := T.n_Slices__turn; have hn_Slices__unit := T.n_Slices__unit; have hn_Slices__holder := T.n_Slices__holder
  refine F.ok sc_Slices_begin (fun vs H Q E h => ?_) (fun cdv A outer s H vs Q E hr h => ?_)
  · obtain ⟨p, os, t, u, h, n, rfl, _⟩ := h
    rfl
  · obtain ⟨p, os, t, u, h, n, rfl, S, ho, hn, k1, k2⟩ := h
    obtain ⟨dx, l, hlp, h1, h2⟩ := S.ne
    refine ⟨_, (pss_one (ps_for PassesOwn.never (by rfl) (pi_range2 (by rfl) T.b_range (pa_cons (pv 1) (pa_cons (pe_op op_add (pv 1) (pe_gint (by rfl) T.c_SLOTS)) pa_nil))) (pg_name (i := 2) sc_Slices_begin.nd rfl (Or.inl rfl)) (pss_cons (ps_set (i := 3) sc_Slices_begin.nd rfl (Or.inl rfl) (pe_ix (kIxL K) (kFld K (pv 0) rfl) (pe_op op_mod (pv 2) (pe_gint (by rfl) T.c_SLOTS)) (fun _ _ => rfl)))
  (pss_one (ps_if (pt_cmpR op_notN (pv 3) pe_non (nomark _)) (pss_cons (kSFld K (pv 0) (pv 2) rfl)
  (pss_cons (kSFld K (pv 0) pe_int rfl)
  (pss_cons (kSFld K (pv 0) (pv 3) rfl)
  (pss_one ps_retN)))) pss_nil))))), ?_⟩
    walk_at "ro"
    refine ⟨_, _, rfl, ⟨by omega, by omega, by omega, by omega⟩, ?_⟩
    rw [show ((n : Int) + 8 - (n : Int)).toNat = 8 by omega]
    refine for_range (lo := (n : Int)) (fun i σ H' => ∃ v2 v3 : Option V, σ = [some (.ref p), some (.int (n : Int)), v2, v3] ∧ H' = H ∧ i ≤ 8 ∧ srch os 8 n = srch os (8 - i) (n + i)) ?_ ?_ ?_
    · exact ⟨none, none, rfl, rfl, by omega, rfl⟩
    · rintro i σ H' hi ⟨v2, v3, rfl, rfl, _, hs⟩
      have em : ((n : Int) + (i : Int)) % 8 = (((n + i) % 8 : Nat) : Int) := by omega
      walk_at "ro"
      refine ⟨_, _, _, _, rfl, rfl, SqL.of h2, atC ((n + i) % 8) em (mapO_get (by have := ho.1; omega)), ?_⟩
      walk_at "ro"
      have e8 : srch os (8 - i) (n + i) = if (at8 os (n + i)).isSome then some (n + i) else srch os (8 - (i + 1)) (n + i + 1) := by
        rw [show 8 - i = (8 - (i + 1)) + 1 by omega]; rfl
      refine iteDn (fun q => ?_) (fun q => ?_)
      · have q' : (at8 os (n + i)).isSome = true := by
          unfold at8
          cases e : os.getD ((n + i) % 8) none with
          | none => rw [e] at q; exact absurd rfl q
          | some z => rfl
        rw [q', if_pos rfl] at e8
        walk_at "ro"
        refine k2 (n + i) (hs.trans e8) _ ⟨dx, l, ?_, ?_⟩ ?_
        · rw [upd_same]
          show some (HO.ins C_Slices dx [("_owners", .ref l), ("_turn", .int ((n : Int) + (i : Int))), ("_unit", .int 0), ("_holder", valO (os.getD ((n + i) % 8) none))]) = _
          rw [show (n : Int) + (i : Int) = ((n + i : Nat) : Int) by omega]; rfl
        · rw [upd_ne hlp, upd_ne hlp, upd_ne hlp]; exact h2
        · exact (Chg.upd.trans Chg.upd).trans Chg.upd
      · have q' : (at8 os (n + i)).isSome = false := by
          unfold at8
          cases e : os.getD ((n + i) % 8) none with
          | none => rfl
          | some z => rw [e] at q; cases q
        rw [q', if_neg (by decide)] at e8
        exact ⟨_, _, rfl, rfl, hi, hs.trans e8⟩
    · rintro σ H' ⟨v2, v3, rfl, rfl, _, hs⟩
      exact k1 hs
abbrev s_Slices_end : Stmt := inClass (topS 13) 6
abbrev ns_Slices_end : List Str := ["self", "owner"]
theorem sc_Slices_end : FnScope ns_Slices_end ["self"] (defScope s_Slices_end) := ⟨rfl, rfl, rfl, by decide +kernel, rfl, by decide +kernel, by decide +kernel⟩

theorem ok_Slices_end {f : Addr} {fd : FuncData} (F : Fun K "_end" "Slices._end" s_Slices_end f fd) (T : Txt K mg C_Slices C_NotValid) (D_Slices_begin : Mth P w K mg base CX0 1 C_Slices "_begin" ["self", "turn"] (spBegin C_Slices)) : FnOk P w K mg base CX0 2 f fd ["self"] (spEnd C_Slices) := by
  have ho_Slices := T.o_Slices; have hn_Slices__owners := T.n_Slices__owners; have hn_Slices__turn := T.n_Slices__turn; have hn_Slices__unit := T.n_Slices__unit; have hn_Slices__holder := T.n_Slices__holder
  refine F.ok sc_Slices_end (fun vs H Q E h => ?_) (fun cdv A outer s H vs Q E hr h => ?_)
  · obtain ⟨p, os, t, u, h, rfl, _⟩ := h
    rfl
  · obtain ⟨p, os, t, u, h, rfl, S, ho, ht, k1, k2⟩ := h
    obtain ⟨dx, l, hlp, h1, h2⟩ := S.ne
    refine ⟨_, (pss_cons (ps_set (i := 1) sc_Slices_end.nd rfl (Or.inl rfl) (pe_ix (kIxL K) (kFld K (pv 0) rfl) (pe_op op_mod (kFld K (pv 0) rfl) (pe_gint (by rfl) T.c_SLOTS)) (fun _ _ => rfl)))
  (pss_cons (ps_expr (pe_dmeth (pv 0) D_Slices_begin (hr.mono (by decide)) pass0 (pa_cons (pe_op op_add (kFld K (pv 0) rfl) pe_int) pa_nil)))
  (pss_one (ps_ret (pv 1))))), ?_⟩
    walk_at "ro"
    refine ⟨_, _, _, _, rfl, rfl, SqL.of h2, atC (t % 8) (by omega) (mapO_get (by have := ho.1; omega)), ?_⟩
    walk_at "ro"
    refine ⟨p, os, t, u, h, t + 1, rfl, S, ho, by omega, fun e => ?_, fun m e H' S' c => ?_⟩
    · exact ⟨_, rfl, k1 e⟩
    · exact ⟨_, rfl, k2 m e H' S' c⟩
end
end My

namespace My
open PySem L2
local macro_rules | `(tactic| walk_at "ne") => `(tactic| first | assumption | exact Ne.symm (by assumption) | exact ne_of_none (by assumption) (by assumption) | exact Ne.symm (ne_of_none (by assumption) (by assumption)))
local macro_rules | `(tactic| walk_at "hp") => `(tactic| first | assumption | with_reducible exact upd_same | (with_reducible refine Eq.trans (upd_ne ?_) ?_; rotate_left; walk_at "hp"; walk_at "ne"))
local macro_rules | `(tactic| walk_at "cnd") => `(tactic| first | omega | (show (0 : Int) < _; omega) | exact ⟨by omega, by omega⟩ | exact Or.inl ⟨by omega, by omega⟩ | exact Or.inr ⟨by omega, by omega⟩ | exact ⟨by omega, by omega, by decide⟩ | exact ⟨by omega, by omega, by omega⟩)
local macro_rules | `(tactic| walk_at "at") => `(tactic| first | exact atC 0 rfl rfl | exact atC 1 rfl rfl | exact atC 2 rfl rfl | exact atC 3 rfl rfl | exact atC 4 rfl rfl | exact atC 5 rfl rfl | exact atC 6 rfl rfl | exact atC 7 rfl rfl)
local macro_rules | `(tactic| walk_at "ix") => `(tactic| first | exact ixC 0 rfl (Nat.le_of_ble_eq_true rfl) | exact ixC 1 rfl (Nat.le_of_ble_eq_true rfl) | exact ixC 2 rfl (Nat.le_of_ble_eq_true rfl) | exact ixC 3 rfl (Nat.le_of_ble_eq_true rfl) | exact ixC 4 rfl (Nat.le_of_ble_eq_true rfl) | exact ixC 5 rfl (Nat.le_of_ble_eq_true rfl))
local macro_rules | `(tactic| walk_at "st") => `(tactic| first
  | refine ⟨_, rfl, ?_⟩
  | refine ⟨_, _, rfl, rfl, (by walk_at "cnd" : (_ : Prop)), ?_⟩
  | refine ⟨_, _, rfl, rfl, ?_⟩
  | refine ⟨rfl, ?_⟩
  | refine Or.inl ⟨_, rfl, ?_⟩
  | refine ⟨_, _, _, _, rfl, rfl, by exact SqL.of (by walk_at "hp"), by walk_at "at", ?_⟩
  | refine ⟨_, _, _, _, rfl, rfl, by exact SqT.of (by walk_at "hp"), by walk_at "at", ?_⟩
  | refine ⟨_, _, _, _, rfl, rfl, by walk_at "hp", by walk_at "ix", ?_⟩
  | refine ⟨_, _, rfl, Or.inl (by exact SqL.of (by walk_at "hp")), ?_⟩
  | refine ⟨_, _, rfl, Or.inr (by exact SqT.of (by walk_at "hp")), ?_⟩)
local macro_rules | `(tactic| walk_at "so") => `(tactic| first
  | refine ⟨_, _, _, _, _, rfl, by walk_at "hp", by assumption, by assumption, rfl, ?_⟩
  | refine ⟨_, _, _, _, rfl, by walk_at "hp", by assumption, by assumption, Nat.le_of_ble_eq_true rfl, ?_⟩
  | refine ⟨_, _, _, rfl, by walk_at "hp", rfl, ?_⟩
  | walk_at "st")
local macro_rules | `(tactic| walk_at "ro") => `(tactic| repeat walk_at "so")
local macro_rules | `(tactic| walk_at "run") => `(tactic| repeat walk_at "st")

/-- what an end of a slot leaves -/
def EndTo (C p : Addr) (os : List (Option Nat)) (t : Nat) (H : Hp) (Q : VK) : Prop :=
  (srch os 8 (t + 1) = none → Q (valO (at8 os t)) H) ∧ (∀ m, srch os 8 (t + 1) = some m → ∀ H', SlAt C H' p os m 0 (at8 os m) → Chg p H H' → Q (valO (at8 os t)) H')
def spPass (C : Addr) : Sp := fun vs H Q _ => ∃ p os t u h, vs = [.ref p] ∧ SlAt C H p os t u h ∧ OwnsOk os ∧ t ≤ 10000 ∧ u < 6 ∧
  (h = none → Q .non H) ∧ (h ≠ none → u < 5 → ∀ H', SlAt C H' p os t (u + 1) h → Chg p H H' → Q .non H') ∧ (h ≠ none → u = 5 → EndTo C p os t H Q)
def spGive (C : Addr) : Sp := fun vs H Q _ => ∃ p os t u h, vs = [.ref p] ∧ SlAt C H p os t u h ∧ OwnsOk os ∧ t ≤ 10000 ∧ (h = none → Q .non H) ∧ (h ≠ none → EndTo C p os t H Q)
def spHand (C : Addr) : Sp := fun vs H Q _ => ∃ p os t u h e, vs = [.ref p, .int (e : Nat)] ∧ e < 4 ∧ SlAt C H p os t u h ∧ (h = none → Q .non H) ∧ (h ≠ none → ∀ H', SlAt C H' p os t u (some e) → Chg p H H' → Q .non H')
def start (os : List (Option Nat)) : Nat × Option Nat := match srch os 8 0 with
  | some m => (m, at8 os m)
  | none => (0, none)
def spInit (C N : Addr) : Sp := fun vs H Q E => ∃ x dx v d, vs = [.ref x, v] ∧ H x = some (.ins C dx []) ∧ Dt H v d ∧ (∀ ds, d = .list ds → ds.length ≤ 1000) ∧
  (okOwn d = false → ∀ H', Same H H' → E (.ref N) none H') ∧ (okOwn d = true → ∃ os, OwnsOk os ∧ d = .list (os.map datO) ∧ ∀ H', SlAt C H' x os (start os).1 0 (start os).2 → Chg x H H' → Q .non H')
theorem dat_vals {H : Hp} : ∀ {os : List (Option Nat)} {xs : List V}, DtAll H xs (os.map datO) → xs = os.map valO
  | [], _, h => by cases h; rfl
  | o :: os, _, h => by
    cases h with
    | cons h1 h2 =>
      rw [dat_vals h2]
      cases o with
      | none => cases h1; rfl
      | some n =>
        unfold datO at h1
        cases h1; rfl
theorem vals_dat {H : Hp} : ∀ {os : List (Option Nat)}, DtAll H (os.map valO) (os.map datO)
  | [] => .nil
  | none :: os => .cons .non vals_dat
  | some n :: os => .cons (.int _) vals_dat
section
variable {P : Program} {w : World} {K : PySem.W.Frag} {mg : Str → Option Value} {base : Heap} {C_Slices C_NotValid : Addr}
abbrev s_Slices_pass_unit : Stmt := inClass (topS 13) 3
abbrev ns_Slices_pass_unit : List Str := ["self"]
theorem sc_Slices_pass_unit : FnScope ns_Slices_pass_unit ["self"] (defScope s_Slices_pass_unit) := ⟨rfl, rfl, rfl, by decide +kernel, rfl, by decide +kernel, by decide +kernel⟩

theorem ok_Slices_pass_unit {f : Addr} {fd : FuncData} (F : Fun K "pass_unit" "Slices.pass_unit" s_Slices_pass_unit f fd) (T : Txt K mg C_Slices C_NotValid) (D_Slices_end : Mth P w K mg base CX0 2 C_Slices "_end" ["self"] (spEnd C_Slices)) : FnOk P w K mg base CX0 3 f fd ["self"] (spPass C_Slices) := by
  have ho_Slices := T.o_Slices; have hn_Slices__owners := T.n_Slices__owners; have hn_Slices__turn := T.n_Slices__turn; have hn_Slices__unit := T.n_Slices__unit; have hn_Slices__holder := T.n_Slices__holder
  refine F.ok sc_Slices_pass_unit (fun vs H Q E h => ?_) (fun cdv A outer s H vs Q E hr h => ?_)
  · obtain ⟨p, os, t, u, h, rfl, _⟩ := h
    rfl
  · obtain ⟨p, os, t, u, h, rfl, S, ho, ht, hu, k0, k1, k2⟩ := h
    obtain ⟨dx, l, hlp, h1, h2⟩ := S.ne
    refine ⟨_, (pss_cons (ps_if (pt_cmpR op_isN (kFld K (pv 0) rfl) pe_non (nomark _)) (pss_one (ps_ret pe_non)) pss_nil)
  (pss_cons (ps_if (pt_cmpR op_eq (pe_op op_add (kFld K (pv 0) rfl) pe_int) (pe_gint (by rfl) T.c_UNITS) (nomark _)) (pss_one (ps_ret (pe_dmeth0 (pv 0) D_Slices_end (hr.mono (by decide)) pass0 ))) pss_nil)
  (pss_cons (kSFldA K (pv 0) pe_int in_add)
  (pss_one (ps_ret pe_non))))), ?_⟩
    walk_at "ro"
    rw [valO_non]
    cases h with
    | none => exact iteT (k0 rfl)
    | some n =>
      refine iteF ?_
      walk_at "ro"
      refine iteD (fun q => ?_) (fun q => ?_)
      · have q5 : u = 5 := by injection q; omega
        walk_at "ro"
        exact ⟨p, os, t, u, some n, rfl, S, ho, ht, (k2 (fun z => by cases z) q5).1, (k2 (fun z => by cases z) q5).2⟩
      · have q5 : u < 5 := by
          have : u ≠ 5 := fun z => q (by rw [z]; rfl)
          omega
        walk_at "ro"
        refine ⟨_, _, h1, Nat.le_of_ble_eq_true rfl, k1 (fun z => by cases z) q5 _ ⟨dx, l, ?_, ?_⟩ Chg.upd⟩
        · rw [upd_same]; rfl
        · rw [upd_ne hlp]; exact h2
abbrev s_Slices_give_up : Stmt := inClass (topS 13) 4
abbrev ns_Slices_give_up : List Str := ["self"]
theorem sc_Slices_give_up : FnScope ns_Slices_give_up ["self"] (defScope s_Slices_give_up) := ⟨rfl, rfl, rfl, by decide +kernel, rfl, by decide +kernel, by decide +kernel⟩

theorem ok_Slices_give_up {f : Addr} {fd : FuncData} (F : Fun K "give_up" "Slices.give_up" s_Slices_give_up f fd) (T : Txt K mg C_Slices C_NotValid) (D_Slices_end : Mth P w K mg base CX0 2 C_Slices "_end" ["self"] (spEnd C_Slices)) : FnOk P w K mg base CX0 3 f fd ["self"] (spGive C_Slices) := by
  have ho_Slices := T.o_Slices; have hn_Slices__owners := T.n_Slices__owners; have hn_Slices__turn := T.n_Slices__turn; have hn_Slices__unit := T.n_Slices__unit; have hn_Slices__holder := T.n_Slices__holder
  refine F.ok sc_Slices_give_up (fun vs H Q E h => ?_) (fun cdv A outer s H vs Q E hr h => ?_)
  · obtain ⟨p, os, t, u, h, rfl, _⟩ := h
    rfl
  · obtain ⟨p, os, t, u, h, rfl, S, ho, ht, k0, k2⟩ := h
    obtain ⟨dx, l, hlp, h1, h2⟩ := S.ne
    refine ⟨_, (pss_cons (ps_if (pt_cmpR op_isN (kFld K (pv 0) rfl) pe_non (nomark _)) (pss_one (ps_ret pe_non)) pss_nil)
  (pss_one (ps_ret (pe_dmeth0 (pv 0) D_Slices_end (hr.mono (by decide)) pass0 )))), ?_⟩
    walk_at "ro"
    rw [valO_non]
    cases h with
    | none => exact iteT (k0 rfl)
    | some n =>
      refine iteF ?_
      walk_at "ro"
      exact ⟨p, os, t, u, some n, rfl, S, ho, ht, (k2 (fun z => by cases z)).1, (k2 (fun z => by cases z)).2⟩
abbrev s_Slices_hand_on : Stmt := inClass (topS 13) 5
abbrev ns_Slices_hand_on : List Str := ["self", "environment"]
theorem sc_Slices_hand_on : FnScope ns_Slices_hand_on ["self", "environment"] (defScope s_Slices_hand_on) := ⟨rfl, rfl, rfl, by decide +kernel, rfl, by decide +kernel, by decide +kernel⟩

theorem ok_Slices_hand_on {f : Addr} {fd : FuncData} (F : Fun K "hand_on" "Slices.hand_on" s_Slices_hand_on f fd) (T : Txt K mg C_Slices C_NotValid) (D_is_environment : Dfn P w K mg base CX0 4 "is_environment" ["value"] spEnv) : FnOk P w K mg base (L2.CX P w) 5 f fd ["self", "environment"] (spHand C_Slices) := by
  have ho_Slices := T.o_Slices; have hn_Slices__owners := T.n_Slices__owners; have hn_Slices__turn := T.n_Slices__turn; have hn_Slices__unit := T.n_Slices__unit; have hn_Slices__holder := T.n_Slices__holder
  refine F.okX sc_Slices_hand_on (fun vs H Q E h => ?_) (fun cdv A outer s H vs Q E hr h => ?_)
  · obtain ⟨p, os, t, u, h, e, rfl, _⟩ := h
    rfl
  · obtain ⟨p, os, t, u, h, e, rfl, he, S, k0, k1⟩ := h
    obtain ⟨dx, l, hlp, h1, h2⟩ := S.ne
    refine ⟨_, (pss_cons (ps_if (pt_not (pt_val (pe_dcall D_is_environment (hr.mono (by decide)) (by rfl) pass0 (pa_cons (pv 1) pa_nil)))) (pss_one (ps_raise (by rfl) (takes_of rfl rfl rfl rfl) (pmk_x T.x_NotValid (by rfl)))) pss_nil)
  (pss_one (ps_if (pt_cmpR op_notN (kFld K (pv 0) rfl) pe_non (nomark _)) (pss_one (kSFld K (pv 0) (pv 1) rfl)) pss_nil))), ?_⟩
    refine ⟨_, rfl, _, .int (e : Int), rfl, .int _, _, rfl, ?_⟩
    have ev : isI (.int (e : Int)) 0 3 = true := by
      show (decide ((0 : Int) ≤ e) && decide ((e : Int) ≤ 3)) = true
      rw [decide_eq_true (by omega), decide_eq_true (by omega)]; rfl
    rw [ev]
    refine iteF ?_
    walk_at "ro"
    rw [valO_non]
    cases h with
    | none => exact iteF (k0 rfl)
    | some n =>
      refine iteT ?_
      walk_at "ro"
      refine k1 (fun z => by cases z) _ ⟨dx, l, ?_, ?_⟩ Chg.upd
      · rw [upd_same]; rfl
      · rw [upd_ne hlp]; exact h2
abbrev s_Slices_init : Stmt := inClass (topS 13) 0
abbrev ns_Slices_init : List Str := ["self", "owners"]
theorem sc_Slices_init : FnScope ns_Slices_init ["self", "owners"] (defScope s_Slices_init) := ⟨rfl, rfl, rfl, by decide +kernel, rfl, by decide +kernel, by decide +kernel⟩

theorem ok_Slices_init {f : Addr} {fd : FuncData} (F : Fun K "__init__" "Slices.__init__" s_Slices_init f fd) (T : Txt K mg C_Slices C_NotValid) (D_are_owners : Dfn P w K mg base CX0 5 "_are_owners" ["value"] spAre)
    (D_Slices_begin : Mth P w K mg base CX0 1 C_Slices "_begin" ["self", "turn"] (spBegin C_Slices)) : FnOk P w K mg base (L2.CX P w) 6 f fd ["self", "owners"] (spInit C_Slices C_NotValid) := by
  have ho_Slices := T.o_Slices; have hn_Slices__owners := T.n_Slices__owners; have hn_Slices__turn := T.n_Slices__turn; have hn_Slices__unit := T.n_Slices__unit; have hn_Slices__holder := T.n_Slices__holder
  refine F.okX sc_Slices_init (fun vs H Q E h => ?_) (fun cdv A outer s H vs Q E hr h => ?_)
  · obtain ⟨x, dx, v, d, rfl, _⟩ := h
    rfl
  · obtain ⟨x, dx, v, d, rfl, hx, hd, hz, kE, kQ⟩ := h
    refine ⟨_, (pss_cons (ps_if (pt_not (pt_val (pe_dcall D_are_owners (hr.mono (by decide)) (by rfl) pass0 (pa_cons (pv 1) pa_nil)))) (pss_one (ps_raise (by rfl) (takes_of rfl rfl rfl rfl) (pmk_x T.x_NotValid (by rfl)))) pss_nil)
  (pss_cons (kSFld K (pv 0) (pe_callTy (kListOf K) (by rfl) T.b_list (by decide +kernel) (pa_cons (pv 1) pa_nil)) rfl)
  (pss_cons (kSFld K (pv 0) pe_int rfl)
  (pss_cons (kSFld K (pv 0) pe_int rfl)
  (pss_cons (kSFld K (pv 0) pe_non rfl)
  (pss_one (ps_expr (pe_dmeth (pv 0) D_Slices_begin (hr.mono (by decide)) pass0 (pa_cons pe_int pa_nil))))))))), ?_⟩
    refine ⟨_, rfl, v, d, rfl, hd, hz, fun H1 s1 => ⟨_, rfl, ?_⟩⟩
    cases e : okOwn d with
    | false => exact iteT (kE e H1 s1)
    | true =>
      refine iteF ?_
      obtain ⟨os, ho, rfl, k⟩ := kQ e
      have hd1 := hd.same s1
      cases hd1 with
      | @lst la xs _ hl hs =>
        have ex := dat_vals hs
        subst ex
        have hx1 := s1 _ _ hx
        refine ⟨_, rfl, _, _, rfl, .inl (SqL.of hl), fun l hln => ?_⟩
        have nxl : x ≠ l := ne_of_none hx1 hln
        have nlx : l ≠ x := nxl.symm
        refine ⟨_, rfl, _, _, _, _, rfl, Eq.trans (upd_ne nxl) hx1, ho_Slices, hn_Slices__owners, Nat.le_of_ble_eq_true rfl, ?_⟩
        walk_at "ro"
        have fin : SlAt C_Slices (upd (upd (upd (upd (upd H1 l (.lst (os.map valO))) x (.ins C_Slices dx [("_owners", .ref l)])) x (.ins C_Slices dx [("_owners", .ref l), ("_turn", .int 0)])) x (.ins C_Slices dx [("_owners", .ref l), ("_turn", .int 0), ("_unit", .int 0)])) x (.ins C_Slices dx [("_owners", .ref l), ("_turn", .int 0), ("_unit", .int 0), ("_holder", .non)])) x os 0 0 none :=
          ⟨dx, l, upd_same, by rw [upd_ne nlx, upd_ne nlx, upd_ne nlx, upd_ne nlx, upd_same]⟩
        have c0 : Chg x H (upd (upd (upd (upd (upd H1 l (.lst (os.map valO))) x (.ins C_Slices dx [("_owners", .ref l)])) x (.ins C_Slices dx [("_owners", .ref l), ("_turn", .int 0)])) x (.ins C_Slices dx [("_owners", .ref l), ("_turn", .int 0), ("_unit", .int 0)])) x (.ins C_Slices dx [("_owners", .ref l), ("_turn", .int 0), ("_unit", .int 0), ("_holder", .non)])) :=
          (((((Same.chg s1).trans (Same.chg (Same.new hln))).trans Chg.upd).trans Chg.upd).trans Chg.upd).trans Chg.upd
        refine ⟨x, os, 0, 0, none, 0, rfl, fin, ho, by omega, fun q => ?_, fun m q H' S' c => ?_⟩
        · refine k _ ?_ c0
          unfold start; rw [q]; exact fin
        · refine k _ ?_ (c0.trans c)
          unfold start; rw [q]; exact S'
end
end My

namespace My
open PySem L2
local macro_rules | `(tactic| walk_at "ne") => `(tactic| first | assumption | exact Ne.symm (by assumption) | exact ne_of_none (by assumption) (by assumption) | exact Ne.symm (ne_of_none (by assumption) (by assumption)))
local macro_rules | `(tactic| walk_at "hp") => `(tactic| first | assumption | with_reducible exact upd_same | (with_reducible refine Eq.trans (upd_ne ?_) ?_; rotate_left; walk_at "hp"; walk_at "ne"))
local macro_rules | `(tactic| walk_at "cnd") => `(tactic| first | omega | (show (0 : Int) < _; omega) | exact ⟨by omega, by omega⟩ | exact Or.inl ⟨by omega, by omega⟩ | exact Or.inr ⟨by omega, by omega⟩ | exact ⟨by omega, by omega, by decide⟩ | exact ⟨by omega, by omega, by omega⟩)
local macro_rules | `(tactic| walk_at "at") => `(tactic| first | exact atC 0 rfl rfl | exact atC 1 rfl rfl | exact atC 2 rfl rfl | exact atC 3 rfl rfl | exact atC 4 rfl rfl | exact atC 5 rfl rfl | exact atC 6 rfl rfl | exact atC 7 rfl rfl)
local macro_rules | `(tactic| walk_at "ix") => `(tactic| first | exact ixC 0 rfl (Nat.le_of_ble_eq_true rfl) | exact ixC 1 rfl (Nat.le_of_ble_eq_true rfl) | exact ixC 2 rfl (Nat.le_of_ble_eq_true rfl) | exact ixC 3 rfl (Nat.le_of_ble_eq_true rfl) | exact ixC 4 rfl (Nat.le_of_ble_eq_true rfl) | exact ixC 5 rfl (Nat.le_of_ble_eq_true rfl))
local macro_rules | `(tactic| walk_at "st") => `(tactic| first
  | refine ⟨_, rfl, ?_⟩
  | refine ⟨_, _, rfl, rfl, (by walk_at "cnd" : (_ : Prop)), ?_⟩
  | refine ⟨_, _, rfl, rfl, ?_⟩
  | refine ⟨rfl, ?_⟩
  | refine Or.inl ⟨_, rfl, ?_⟩
  | refine ⟨_, _, _, _, rfl, rfl, by exact SqL.of (by walk_at "hp"), by walk_at "at", ?_⟩
  | refine ⟨_, _, _, _, rfl, rfl, by exact SqT.of (by walk_at "hp"), by walk_at "at", ?_⟩
  | refine ⟨_, _, _, _, rfl, rfl, by walk_at "hp", by walk_at "ix", ?_⟩
  | refine ⟨_, _, rfl, Or.inl (by exact SqL.of (by walk_at "hp")), ?_⟩
  | refine ⟨_, _, rfl, Or.inr (by exact SqT.of (by walk_at "hp")), ?_⟩)
local macro_rules | `(tactic| walk_at "so") => `(tactic| first
  | refine ⟨_, _, _, _, _, rfl, by walk_at "hp", by assumption, by assumption, rfl, ?_⟩
  | refine ⟨_, _, _, _, rfl, by walk_at "hp", by assumption, by assumption, Nat.le_of_ble_eq_true rfl, ?_⟩
  | refine ⟨_, _, _, rfl, by walk_at "hp", rfl, ?_⟩
  | walk_at "st")
local macro_rules | `(tactic| walk_at "ro") => `(tactic| repeat walk_at "so")
local macro_rules | `(tactic| walk_at "run") => `(tactic| repeat walk_at "st")

/-- the law's own state: round, slot, unit, holder -/
def StAt (H : Hp) (s : Addr) (r c u : Int) (h : V) : Prop := H s = some (.lst [.int r, .int c, .int u, h])
def spNextSlot : Sp := fun vs H Q _ => ∃ s o os r c u h T m, vs = [.ref s, .ref o] ∧ StAt H s r c u h ∧ H o = some (.lst (os.map valO)) ∧ OwnsOk os ∧ -1 ≤ c ∧ c ≤ 7 ∧ 8 * r + c + 1 = ((T : Nat) : Int) ∧ srch os 8 T = some m ∧
  ∀ H', StAt H' s ((m / 8 : Nat) : Int) ((m % 8 : Nat) : Int) 0 (valO (at8 os m)) → Chg s H H' → Q .non H'
def spRefused : Sp := fun vs H Q _ => ∃ v d, vs = [v] ∧ Dt H v d ∧ (∀ ds, d = .list ds → ds.length ≤ 1000) ∧ okOwn d = false ∧ ∀ H', Same H H' → Q (.bl true) H'
section
variable {P : Program} {w : World} {K : PySem.W.Frag} {mg : Str → Option Value} {base : Heap} {C_Slices C_NotValid : Addr}
abbrev s_law_next_slot : Stmt := topS 16
abbrev ns_law_next_slot : List Str := ["state", "owners", "step"]
theorem sc_law_next_slot : FnScope ns_law_next_slot ["state", "owners"] (defScope s_law_next_slot) := ⟨rfl, rfl, rfl, by decide +kernel, rfl, by decide +kernel, by decide +kernel⟩

theorem ok_law_next_slot {f : Addr} {fd : FuncData} (F : Fun K "_law_next_slot" "_law_next_slot" s_law_next_slot f fd) (T : Txt K mg C_Slices C_NotValid) : FnOk P w K mg base CX0 1 f fd ["state", "owners"] spNextSlot := by
  refine F.ok sc_law_next_slot (fun vs H Q E h => ?_) (fun cdv A outer s H vs Q E hr h => ?_)
  · obtain ⟨s, o, os, r, c, u, h, tn, m, rfl, _⟩ := h
    rfl
  · obtain ⟨s, o, os, r, c, u, h, tn, m, rfl, S, hO, ho, c0, c7, eT, hm, k⟩ := h
    have nos : o ≠ s := ne_of hO S (by
      intro q
      have := congrArg (fun z => match z with | HO.lst l => l.length | _ => 0) q
      simp [ho.1] at this)
    refine ⟨_, (C8.pss_cut (ps_for PassesOwn.never (by rfl) (pi_range1 (by rfl) T.b_range (pa_cons pe_int pa_nil)) (pg_name (i := 2) sc_law_next_slot.nd rfl (Or.inl rfl)) (pss_cons (ps_augS (pv 0) pe_int (kGetL K) pe_int ip_add set_list)
  (C8.pss_cut (ps_if (pt_cmpR op_eq (pe_ix (kIxL K) (pv 0) pe_int (fun _ _ => rfl)) pe_int (nomark _)) (pss_cons (ps_asg pe_int (pg_sub (pv 0) pe_int set_list))
  (pss_one (ps_augS (pv 0) pe_int (kGetL K) pe_int ip_add set_list))) pss_nil)
  (pss_one (ps_if (pt_cmpR op_notN (pe_ix (kIxL K) (pv 1) (pe_ix (kIxL K) (pv 0) pe_int (fun _ _ => rfl)) (fun _ _ => rfl)) pe_non (nomark _)) (pss_one ps_break) pss_nil)))))
  (pss_cons (ps_asg pe_int (pg_sub (pv 0) pe_int set_list))
  (pss_one (ps_asg (pe_ix (kIxL K) (pv 1) (pe_ix (kIxL K) (pv 0) pe_int (fun _ _ => rfl)) (fun _ _ => rfl)) (pg_sub (pv 0) pe_int set_list))))), ?_⟩
    refine ⟨fun σ H' => ∃ v2 : Option V, σ = [some (.ref s), some (.ref o), v2] ∧ StAt H' s ((m / 8 : Nat) : Int) ((m % 8 : Nat) : Int) u h ∧ Chg s H H', ?_, ?_⟩
    · refine ⟨8, rfl, by decide, by decide, for_range (fun i σ H' => ∃ (v2 : Option V) (r' c' : Int), σ = [some (.ref s), some (.ref o), v2] ∧ StAt H' s r' c' u h ∧ -1 ≤ c' ∧ c' ≤ 7 ∧ 8 * r' + c' + 1 = ((tn + i : Nat) : Int) ∧ i ≤ 8 ∧ srch os (8 - i) (tn + i) = some m ∧ Chg s H H') ?_ ?_ ?_⟩
      · exact ⟨none, r, c, rfl, S, c0, c7, by rw [eT]; rfl, by omega, hm, Chg.refl _ _⟩
      · rintro i σ H1 hi ⟨v2, r', c', rfl, S1, d0, d7, e1, _, hs, ch⟩
        have hi8 : i < 8 := hi
        have hs1 : H1 s = some (.lst [.int r', .int c', .int u, h]) := S1
        walk_at "run"
        refine ⟨fun σ H' => ∃ (v2 : Option V) (r2 c2 : Int), σ = [some (.ref s), some (.ref o), v2] ∧ StAt H' s r2 c2 u h ∧ 0 ≤ c2 ∧ c2 ≤ 7 ∧ 8 * r2 + c2 = ((tn + i : Nat) : Int) ∧ Chg s H H', ?_, ?_⟩
        · walk_at "run"
          refine iteD (fun q => ?_) (fun q => ?_)
          · have q' : c' + 1 = 8 := by injection q
            walk_at "run"
            refine ⟨_, r' + 1, 0, rfl, upd_same, by omega, by omega, by omega, (ch.trans Chg.upd).trans (Chg.upd.trans Chg.upd)⟩
          · have q' : c' + 1 ≠ 8 := fun z => q (by rw [show (8 : Int) = c' + 1 from z.symm])
            exact ⟨_, r', c' + 1, rfl, upd_same, by omega, by omega, by omega, ch.trans Chg.upd⟩
        · rintro σ H2 ⟨v2, r2, c2, rfl, S2, f0, f7, e2, ch2⟩
          have hs2 : H2 s = some (.lst [.int r2, .int c2, .int u, h]) := S2
          have hO2 := ch2 o _ nos hO
          have e8 : srch os (8 - i) (tn + i) = if (at8 os (tn + i)).isSome then some (tn + i) else srch os (8 - (i + 1)) (tn + i + 1) := by
            rw [show 8 - i = (8 - (i + 1)) + 1 by omega]; rfl
          have ec : c2 = (((tn + i) % 8 : Nat) : Int) := by omega
          have er : r2 = (((tn + i) / 8 : Nat) : Int) := by omega
          walk_at "run"
          refine ⟨_, _, _, _, rfl, rfl, SqL.of hO2, atC ((tn + i) % 8) ec (mapO_get (by have := ho.1; omega)), ?_⟩
          walk_at "run"
          refine iteDn (fun q => ?_) (fun q => ?_)
          · have q' : (at8 os (tn + i)).isSome = true := by
              unfold at8
              cases e : os.getD ((tn + i) % 8) none with
              | none => rw [e] at q; exact absurd rfl q
              | some z => rfl
            rw [q', if_pos rfl, hs] at e8
            have em : m = tn + i := Option.some.inj e8
            rw [em]
            refine ⟨_, rfl, ?_, ch2⟩
            rw [ec, er] at hs2; exact hs2
          · have q' : (at8 os (tn + i)).isSome = false := by
              unfold at8
              cases e : os.getD ((tn + i) % 8) none with
              | none => rfl
              | some z => rw [e] at q; cases q
            rw [q', if_neg (by decide), hs] at e8
            exact ⟨_, r2, c2, rfl, S2, by omega, by omega, by omega, by omega, e8.symm, ch2⟩
      · rintro σ H1 ⟨v2, r', c', rfl, S1, d0, d7, e1, _, hs, ch⟩
        cases hs
    · rintro σ H1 ⟨v2, rfl, S1, ch⟩
      have hs1 : H1 s = some (.lst [.int ((m / 8 : Nat) : Int), .int ((m % 8 : Nat) : Int), .int u, h]) := S1
      have hO1 := ch o _ nos hO
      walk_at "run"
      have hO2 : (upd H1 s (.lst [.int ((m / 8 : Nat) : Int), .int ((m % 8 : Nat) : Int), .int 0, h])) o = some (.lst (os.map valO)) := by rw [upd_ne nos]; exact hO1
      refine ⟨_, _, _, _, rfl, rfl, SqL.of hO2, atC (m % 8) rfl (mapO_get (by have := ho.1; omega)), ?_⟩
      walk_at "run"
      exact k _ upd_same ((ch.trans Chg.upd).trans Chg.upd)
abbrev s_law_refused : Stmt := topS 17
abbrev ns_law_refused : List Str := ["owners"]
theorem sc_law_refused : FnScope ns_law_refused ["owners"] (defScope s_law_refused) := ⟨rfl, rfl, rfl, by decide +kernel, rfl, by decide +kernel, by decide +kernel⟩

theorem ok_law_refused {f : Addr} {fd : FuncData} (F : Fun K "_law_refused" "_law_refused" s_law_refused f fd) (T : Txt K mg C_Slices C_NotValid) (M_Slices : Mkr P w K mg base (L2.CX P w) 6 "Slices" C_Slices ["self", "owners"] (spInit C_Slices C_NotValid)) : FnOk P w K mg base CX0 8 f fd ["owners"] spRefused := by
  refine F.ok sc_law_refused (fun vs H Q E h => ?_) (fun cdv A outer s H vs Q E hr h => ?_)
  · obtain ⟨v, d, rfl, _⟩ := h
    rfl
  · obtain ⟨v, d, rfl, hd, hz, e, k⟩ := h
    refine ⟨_, (pss_one (ps_try_only rfl rfl ⟨rfl, by decide, .inl T.x_NotValid.gC⟩ takes0 (fun W pn xe tk _ => (pss_cons (ps_expr (pe_dmake M_Slices (hr.mono (by decide)) (by rfl) (passT tk) (pa_cons (pv 0) pa_nil)))
  (pss_one (ps_ret pe_bl)))) (fun a oe cls d pn _ _ => (pss_one (ps_ret pe_bl))))), ?_⟩
    refine ⟨_, rfl, fun x dx hx hdx ne => ?_⟩
    have s1 : Same H (upd (upd H dx (.own x)) x (.ins C_Slices dx [])) := (Same.new hdx).trans (Same.new (by rw [upd_ne ne.symm]; exact hx))
    refine ⟨x, dx, v, d, rfl, upd_same, hd.same s1, hz, fun _ H' s' σ => ⟨true, T.x_NotValid.eE, fun _ a ha => ?_, fun q => by cases q⟩, fun z => ?_⟩
    · exact k H' (s1.trans s')
    · rw [e] at z; cases z
end
end My

namespace My
open PySem L2
local macro_rules | `(tactic| walk_at "ne") => `(tactic| first | assumption | exact Ne.symm (by assumption) | exact ne_of_none (by assumption) (by assumption) | exact Ne.symm (ne_of_none (by assumption) (by assumption)))
local macro_rules | `(tactic| walk_at "hp") => `(tactic| first | assumption | with_reducible exact upd_same | (with_reducible refine Eq.trans (upd_ne ?_) ?_; rotate_left; walk_at "hp"; walk_at "ne"))
local macro_rules | `(tactic| walk_at "cnd") => `(tactic| first | omega | (show (0 : Int) < _; omega) | exact ⟨by omega, by omega⟩ | exact Or.inl ⟨by omega, by omega⟩ | exact Or.inr ⟨by omega, by omega⟩ | exact ⟨by omega, by omega, by decide⟩ | exact ⟨by omega, by omega, by omega⟩)
local macro_rules | `(tactic| walk_at "at") => `(tactic| first | exact atC 0 rfl rfl | exact atC 1 rfl rfl | exact atC 2 rfl rfl | exact atC 3 rfl rfl | exact atC 4 rfl rfl | exact atC 5 rfl rfl | exact atC 6 rfl rfl | exact atC 7 rfl rfl)
local macro_rules | `(tactic| walk_at "ix") => `(tactic| first | exact ixC 0 rfl (Nat.le_of_ble_eq_true rfl) | exact ixC 1 rfl (Nat.le_of_ble_eq_true rfl) | exact ixC 2 rfl (Nat.le_of_ble_eq_true rfl) | exact ixC 3 rfl (Nat.le_of_ble_eq_true rfl) | exact ixC 4 rfl (Nat.le_of_ble_eq_true rfl) | exact ixC 5 rfl (Nat.le_of_ble_eq_true rfl))
local macro_rules | `(tactic| walk_at "st") => `(tactic| first
  | refine ⟨_, rfl, ?_⟩
  | refine ⟨_, _, rfl, rfl, (by walk_at "cnd" : (_ : Prop)), ?_⟩
  | refine ⟨_, _, rfl, rfl, ?_⟩
  | refine ⟨rfl, ?_⟩
  | refine Or.inl ⟨_, rfl, ?_⟩
  | refine ⟨_, _, _, _, rfl, rfl, by exact SqL.of (by walk_at "hp"), by walk_at "at", ?_⟩
  | refine ⟨_, _, _, _, rfl, rfl, by exact SqT.of (by walk_at "hp"), by walk_at "at", ?_⟩
  | refine ⟨_, _, _, _, rfl, rfl, by walk_at "hp", by walk_at "ix", ?_⟩
  | refine ⟨_, _, rfl, Or.inl (by exact SqL.of (by walk_at "hp")), ?_⟩
  | refine ⟨_, _, rfl, Or.inr (by exact SqT.of (by walk_at "hp")), ?_⟩)
local macro_rules | `(tactic| walk_at "so") => `(tactic| first
  | refine ⟨_, _, _, _, _, rfl, by walk_at "hp", by assumption, by assumption, rfl, ?_⟩
  | refine ⟨_, _, _, _, rfl, by walk_at "hp", by assumption, by assumption, Nat.le_of_ble_eq_true rfl, ?_⟩
  | refine ⟨_, _, _, rfl, by walk_at "hp", rfl, ?_⟩
  | walk_at "st")
local macro_rules | `(tactic| walk_at "ro") => `(tactic| repeat walk_at "so")
local macro_rules | `(tactic| walk_at "run") => `(tactic| repeat walk_at "st")

theorem Same.chgN {H H1 H2 : Hp} {x : Addr} (s : Same H H1) (c : Chg x H1 H2) (hx : H x = none) : Same H H2 := fun b o e => c b o (ne_of_none e hx) (s b o e)
theorem SlAt.same {C : Addr} {H H' : Hp} {p : Addr} {os : List (Option Nat)} {t u : Nat} {h : Option Nat} (S : SlAt C H p os t u h) (s : Same H H') : SlAt C H' p os t u h := by
  obtain ⟨dx, l, h1, h2⟩ := S
  exact ⟨dx, l, s _ _ h1, s _ _ h2⟩
theorem lst_ne {H : Hp} {a b : Addr} {xs ys : List V} (h1 : H a = some (.lst xs)) (h2 : H b = some (.lst ys)) (h : xs.length ≠ ys.length) : a ≠ b := ne_of h1 h2 (by
  intro q
  have := congrArg (fun z => match z with | HO.lst l => l.length | _ => 0) q
  exact h this)
theorem SlAt.upd {C : Addr} {H : Hp} {p W : Addr} {os : List (Option Nat)} {t u : Nat} {h : Option Nat} {ys : List V} {o : HO} (S : SlAt C H p os t u h) (n1 : W ≠ p) (hW : H W = some (.lst ys)) (hl : ys.length ≠ os.length) : SlAt C (L2.upd H W o) p os t u h := by
  obtain ⟨dx, l, h1, h2⟩ := S
  refine ⟨dx, l, by rw [upd_ne n1.symm]; exact h1, ?_⟩
  rw [upd_ne (lst_ne h2 hW (by rw [List.length_map]; exact fun q => hl q.symm))]; exact h2
theorem at8_lt {os : List (Option Nat)} {t : Nat} (h : t < 8) : at8 os t = os.getD t none := by
  unfold at8; rw [Nat.mod_eq_of_lt h]
theorem srch_some : ∀ {n t m : Nat} {os : List (Option Nat)}, srch os n t = some m → t ≤ m ∧ m < t + n ∧ (at8 os m).isSome = true ∧ ∀ j, t ≤ j → j < m → at8 os j = none
  | 0, t, m, os, h => by cases h
  | n + 1, t, m, os, h => by
    unfold srch at h
    by_cases q : (at8 os t).isSome = true
    · rw [if_pos q] at h
      have : t = m := Option.some.inj h
      subst this
      exact ⟨Nat.le_refl _, by omega, q, fun j a b => by omega⟩
    · rw [if_neg q] at h
      obtain ⟨a, b, c, d⟩ := srch_some h
      refine ⟨by omega, by omega, c, fun j e f => ?_⟩
      rcases Nat.lt_or_ge t j with l | l
      · exact d j l f
      · have : j = t := by omega
        subst this
        cases e : at8 os j with
        | none => rfl
        | some z => rw [e] at q; exact absurd rfl q
theorem srch_none : ∀ {n t : Nat} {os : List (Option Nat)}, srch os n t = none → ∀ j, t ≤ j → j < t + n → at8 os j = none
  | 0, t, os, h, j, a, b => by omega
  | n + 1, t, os, h, j, a, b => by
    unfold srch at h
    by_cases q : (at8 os t).isSome = true
    · rw [if_pos q] at h; cases h
    · rw [if_neg q] at h
      rcases Nat.lt_or_ge t j with l | l
      · exact srch_none h j l (by omega)
      · have : j = t := by omega
        subst this
        cases e : at8 os j with
        | none => rfl
        | some z => rw [e] at q; exact absurd rfl q
def cnt (os : List (Option Nat)) : Nat := os.countP fun o => o.isSome
def cntE (e : Nat) (os : List (Option Nat)) : Nat := os.countP fun o => o == some e
theorem drop_one {os : List (Option Nat)} {t : Nat} (h : t < os.length) : os.drop t = os.getD t none :: os.drop (t + 1) := by
  rw [List.drop_eq_getElem_cons h, List.getD_eq_getElem?_getD, List.getElem?_eq_getElem h]; rfl
/-- a count over the rest, place by place -/
theorem cnt_step {f : Option Nat → Bool} {os : List (Option Nat)} {t : Nat} (h : t < os.length) : (os.drop t).countP f = (if f (os.getD t none) = true then 1 else 0) + (os.drop (t + 1)).countP f := by
  rw [drop_one h, List.countP_cons]; omega
theorem cnt_skip {f : Option Nat → Bool} (hf : f none = false) {os : List (Option Nat)} {t : Nat} : ∀ (n : Nat), t + n ≤ os.length → (∀ j, t ≤ j → j < t + n → os.getD j none = none) → (os.drop t).countP f = (os.drop (t + n)).countP f
  | 0, _, _ => rfl
  | n + 1, h, hn => by
    rw [cnt_skip hf n (by omega) (fun j a b => hn j a (by omega)), cnt_step (t := t + n) (by omega), hn (t + n) (by omega) (by omega), hf]
    simp
    rfl
/-- what is left of a round, at turn t with u units gone -/
def LeftOk (os : List (Option Nat)) (cs : List Nat) (k : Nat) (t u : Nat) : Prop := t < 8 ∧ u < 6 ∧ (at8 os t).isSome = true ∧ k + (6 - u) + 6 * cnt (os.drop (t + 1)) = 6 * cnt os ∧
  ∀ e, e < 4 → cs.getD e 0 + (if at8 os t = some e then 6 - u else 0) + 6 * cntE e (os.drop (t + 1)) = 6 * cntE e os
def DoneOk (os : List (Option Nat)) (cs : List Nat) (k : Nat) : Prop := k = 6 * cnt os ∧ ∀ e, e < 4 → cs.getD e 0 = 6 * cntE e os
theorem next_of {os : List (Option Nat)} (ho : os.length = 8) {t : Nat} (f : Option Nat → Bool) (hf : f none = false) {m : Nat} (h : srch os 8 t = some m) (h8 : m < 8) : (os.drop t).countP f = (if f (at8 os m) = true then 1 else 0) + (os.drop (m + 1)).countP f := by
  obtain ⟨a, b, c, d⟩ := srch_some h
  have e := cnt_skip hf (os := os) (t := t) (m - t) (by omega) (fun j x y => by
    have := d j x (by omega)
    rwa [at8_lt (by omega)] at this)
  rw [show t + (m - t) = m by omega] at e
  rw [e, cnt_step (by omega), at8_lt h8]
theorem none_of {os : List (Option Nat)} (ho : os.length = 8) {t : Nat} (ht : t ≤ 8) (f : Option Nat → Bool) (hf : f none = false) (h : ∀ j, t ≤ j → j < 8 → at8 os j = none) : (os.drop t).countP f = 0 := by
  have e := cnt_skip hf (os := os) (t := t) (8 - t) (by omega) (fun j x y => by
    have := h j x (by omega)
    rwa [at8_lt (by omega)] at this)
  rw [show t + (8 - t) = os.length by omega, List.drop_length] at e
  rw [e]; rfl
theorem left_start {os : List (Option Nat)} (ho : OwnsOk os) {m : Nat} (h : srch os 8 0 = some m) : LeftOk os [0, 0, 0, 0] 0 m 0 := by
  obtain ⟨a, b, c, d⟩ := srch_some h
  have h8 : m < 8 := by omega
  refine ⟨h8, by omega, c, ?_, fun e he => ?_⟩
  · have q := next_of ho.1 (fun o => o.isSome) rfl h h8
    rw [if_pos c] at q
    have q' : cnt os = 1 + cnt (os.drop (m + 1)) := q
    omega
  · have q := next_of ho.1 (fun o => o == some e) rfl h h8
    have q' : cntE e os = (if (at8 os m == some e) = true then 1 else 0) + cntE e (os.drop (m + 1)) := q
    rw [q']
    have z : ([0, 0, 0, 0] : List Nat).getD e 0 = 0 := by
      match e, he with
      | 0, _ => rfl
      | 1, _ => rfl
      | 2, _ => rfl
      | 3, _ => rfl
    rw [z]
    by_cases p : at8 os m = some e
    · rw [p]; simp; omega
    · rw [if_neg p, if_neg (by simpa using p)]; omega
theorem done_start {os : List (Option Nat)} (ho : OwnsOk os) (h : srch os 8 0 = none) : DoneOk os [0, 0, 0, 0] 0 := by
  have hn := srch_none h
  refine ⟨?_, fun e he => ?_⟩
  · have := none_of ho.1 (t := 0) (by omega) (fun o => o.isSome) rfl (fun j a b => hn j a (by omega))
    have q : cnt os = 0 := this
    omega
  · have := none_of ho.1 (t := 0) (by omega) (fun o => o == some e) rfl (fun j a b => hn j a (by omega))
    have q : cntE e os = 0 := this
    rw [q]
    match e, he with
    | 0, _ => rfl
    | 1, _ => rfl
    | 2, _ => rfl
    | 3, _ => rfl
theorem getD_set {cs : List Nat} {o e x : Nat} (h : o < cs.length) : (cs.set o x).getD e 0 = if o = e then x else cs.getD e 0 := by
  by_cases q : o = e
  · subst q
    rw [if_pos rfl, List.getD_eq_getElem?_getD, List.getElem?_set_self h]; rfl
  · rw [if_neg q, List.getD_eq_getElem?_getD, List.getElem?_set_ne q, List.getD_eq_getElem?_getD]
theorem left_unit {os : List (Option Nat)} {cs : List Nat} {k t u o : Nat} (hc : cs.length = 4) (L : LeftOk os cs k t u) (ho : at8 os t = some o) (h4 : o < 4) (hu : u < 5) : LeftOk os (cs.set o (cs.getD o 0 + 1)) (k + 1) t (u + 1) := by
  obtain ⟨a, b, c, d, e⟩ := L
  refine ⟨a, by omega, c, by omega, fun e' he => ?_⟩
  have q := e e' he
  rw [getD_set (by omega)]
  rw [ho] at q ⊢
  by_cases p : o = e'
  · subst p
    rw [if_pos rfl] at q
    rw [if_pos rfl, if_pos rfl]; omega
  · have p' : ¬ (some o = some e') := fun z => p (Option.some.inj z)
    rw [if_neg p'] at q
    rw [if_neg p, if_neg p']; omega
theorem left_end {os : List (Option Nat)} {cs : List Nat} {k t o : Nat} (hos : OwnsOk os) (hc : cs.length = 4) (L : LeftOk os cs k t 5) (ho : at8 os t = some o) (h4 : o < 4) {m : Nat} (hm : srch os 8 (t + 1) = some m) :
    LeftOk os (cs.set o (cs.getD o 0 + 1)) (k + 1) m 0 ∨ DoneOk os (cs.set o (cs.getD o 0 + 1)) (k + 1) := by
  obtain ⟨a, b, c, d, e⟩ := L
  obtain ⟨a1, b1, c1, d1⟩ := srch_some hm
  have new : ∀ e', e' < 4 → (cs.set o (cs.getD o 0 + 1)).getD e' 0 + 6 * cntE e' (os.drop (t + 1)) = 6 * cntE e' os := fun e' he => by
    have q := e e' he
    rw [getD_set (by omega)]
    rw [ho] at q
    by_cases p : o = e'
    · subst p
      rw [if_pos rfl] at q
      rw [if_pos rfl]; omega
    · have p' : ¬ (some o = some e') := fun z => p (Option.some.inj z)
      rw [if_neg p'] at q
      rw [if_neg p]; omega
  rcases Nat.lt_or_ge m 8 with l | l
  · left
    refine ⟨l, by omega, c1, ?_, fun e' he => ?_⟩
    · have q := next_of hos.1 (fun o => o.isSome) rfl hm l
      rw [if_pos c1] at q
      have q' : cnt (os.drop (t + 1)) = 1 + cnt (os.drop (m + 1)) := q
      omega
    · have q := next_of hos.1 (fun o => o == some e') rfl hm l
      have q' : cntE e' (os.drop (t + 1)) = (if (at8 os m == some e') = true then 1 else 0) + cntE e' (os.drop (m + 1)) := q
      have n := new e' he
      rw [q'] at n
      by_cases p : at8 os m = some e'
      · rw [p] at n ⊢
        simp at n ⊢; omega
      · rw [if_neg (by simpa using p)] at n
        rw [if_neg p]; omega
  · right
    have hn : ∀ j, t + 1 ≤ j → j < 8 → at8 os j = none := fun j x y => d1 j x (by omega)
    refine ⟨?_, fun e' he => ?_⟩
    · have := none_of hos.1 (t := t + 1) (by omega) (fun o => o.isSome) rfl hn
      have q : cnt (os.drop (t + 1)) = 0 := this
      omega
    · have := none_of hos.1 (t := t + 1) (by omega) (fun o => o == some e') rfl hn
      have q : cntE e' (os.drop (t + 1)) = 0 := this
      have n := new e' he
      omega
theorem left_endN {os : List (Option Nat)} {t : Nat} (h : (at8 os t).isSome = true) (hm : srch os 8 (t + 1) = none) : False := by
  have := srch_none hm (t + 8) (by omega) (by omega)
  have e : at8 os (t + 8) = at8 os t := by unfold at8; rw [Nat.add_mod_right]
  rw [e] at this
  rw [this] at h; cases h
theorem okOwn_of {os : List (Option Nat)} (h : OwnsOk os) : okOwn (.list (os.map datO)) = true := by
  show (decide ((os.map datO).length = 8) && (os.map datO).all fun d => isNoneD d || isI d 0 3) = true
  rw [List.length_map, decide_eq_true h.1, List.all_eq_true.mpr]
  · rfl
  · intro d hd
    obtain ⟨o, ho, rfl⟩ := List.mem_map.mp hd
    cases o with
    | none => rfl
    | some n =>
      have := h.2 _ ho n rfl
      show (false || (decide ((0 : Int) ≤ n) && decide ((n : Int) ≤ 3))) = true
      rw [decide_eq_true (by omega), decide_eq_true (by omega)]; rfl
end My

namespace My
open PySem L2
local macro_rules | `(tactic| walk_at "ne") => `(tactic| first | assumption | exact Ne.symm (by assumption) | exact ne_of_none (by assumption) (by assumption) | exact Ne.symm (ne_of_none (by assumption) (by assumption)))
local macro_rules | `(tactic| walk_at "hp") => `(tactic| first | assumption | with_reducible exact upd_same | (with_reducible refine Eq.trans (upd_ne ?_) ?_; rotate_left; walk_at "hp"; walk_at "ne"))
local macro_rules | `(tactic| walk_at "cnd") => `(tactic| first | omega | (show (0 : Int) < _; omega) | exact ⟨by omega, by omega⟩ | exact Or.inl ⟨by omega, by omega⟩ | exact Or.inr ⟨by omega, by omega⟩ | exact ⟨by omega, by omega, by decide⟩ | exact ⟨by omega, by omega, by omega⟩)
local macro_rules | `(tactic| walk_at "at") => `(tactic| first | exact atC 0 rfl rfl | exact atC 1 rfl rfl | exact atC 2 rfl rfl | exact atC 3 rfl rfl | exact atC 4 rfl rfl | exact atC 5 rfl rfl | exact atC 6 rfl rfl | exact atC 7 rfl rfl)
local macro_rules | `(tactic| walk_at "ix") => `(tactic| first | exact ixC 0 rfl (Nat.le_of_ble_eq_true rfl) | exact ixC 1 rfl (Nat.le_of_ble_eq_true rfl) | exact ixC 2 rfl (Nat.le_of_ble_eq_true rfl) | exact ixC 3 rfl (Nat.le_of_ble_eq_true rfl) | exact ixC 4 rfl (Nat.le_of_ble_eq_true rfl) | exact ixC 5 rfl (Nat.le_of_ble_eq_true rfl))
local macro_rules | `(tactic| walk_at "st") => `(tactic| first
  | refine ⟨_, rfl, ?_⟩
  | refine ⟨_, _, rfl, rfl, (by walk_at "cnd" : (_ : Prop)), ?_⟩
  | refine ⟨_, _, rfl, rfl, ?_⟩
  | refine ⟨rfl, ?_⟩
  | refine Or.inl ⟨_, rfl, ?_⟩
  | refine ⟨_, _, _, _, rfl, rfl, by exact SqL.of (by walk_at "hp"), by walk_at "at", ?_⟩
  | refine ⟨_, _, _, _, rfl, rfl, by exact SqT.of (by walk_at "hp"), by walk_at "at", ?_⟩
  | refine ⟨_, _, _, _, rfl, rfl, by walk_at "hp", by walk_at "ix", ?_⟩
  | refine ⟨_, _, rfl, Or.inl (by exact SqL.of (by walk_at "hp")), ?_⟩
  | refine ⟨_, _, rfl, Or.inr (by exact SqT.of (by walk_at "hp")), ?_⟩)
local macro_rules | `(tactic| walk_at "so") => `(tactic| first
  | refine ⟨_, _, _, _, _, rfl, by walk_at "hp", by assumption, by assumption, rfl, ?_⟩
  | refine ⟨_, _, _, _, rfl, by walk_at "hp", by assumption, by assumption, Nat.le_of_ble_eq_true rfl, ?_⟩
  | refine ⟨_, _, _, rfl, by walk_at "hp", rfl, ?_⟩
  | walk_at "st")
local macro_rules | `(tactic| walk_at "ro") => `(tactic| repeat walk_at "so")
local macro_rules | `(tactic| walk_at "run") => `(tactic| repeat walk_at "st")

def vN (n : Nat) : V := .int (n : Int)
def spFair : Sp := fun vs H Q _ => ∃ o os, vs = [.ref o] ∧ H o = some (.lst (os.map valO)) ∧ OwnsOk os ∧ ∀ H', Same H H' → Q (.bl true) H'
theorem getVN {ws : List Nat} {i : Nat} (h : i < ws.length) : (ws.map vN)[i]? = some (.int (ws.getD i 0 : Nat)) := by
  rw [List.getElem?_map, List.getElem?_eq_getElem h, List.getD_eq_getElem?_getD, List.getElem?_eq_getElem h]; rfl
theorem mapSet {ws : List Nat} {j n : Nat} : (ws.map vN).set j (.int (n : Int)) = (ws.set j n).map vN := by rw [List.map_set]; rfl
theorem ints_dt {H : Hp} : ∀ {ws : List Nat}, DtAll H (ws.map vN) (ws.map fun n : Nat => PyData.int (n : Int))
  | [] => .nil
  | w :: ws => .cons (.int _) ints_dt
theorem flat_valO (os : List (Option Nat)) : (os.map valO).all flatV = true := by
  rw [List.all_eq_true]
  intro x hx
  obtain ⟨o, _, rfl⟩ := List.mem_map.mp hx
  cases o <;> rfl
theorem count_valO (os : List (Option Nat)) (e : Nat) : (os.map valO).countP (fun z => eqV z (.int (e : Int))) = cntE e os := by
  unfold cntE
  rw [List.countP_map]
  congr 1
  funext o
  cases o with
  | none => rfl
  | some n =>
    show eqV (.int (n : Int)) (.int (e : Int)) = (some n == some e)
    have h1 : eqV (.int (n : Int)) (.int (e : Int)) = decide ((n : Int) = (e : Int)) := by
      first | rfl | (unfold eqV; simp)
    rw [h1]
    by_cases p : n = e
    · subst p; simp
    · rw [decide_eq_false (by omega)]
      symm
      simpa using p
section
variable {P : Program} {w : World} {K : PySem.W.Frag} {mg : Str → Option Value} {base : Heap} {C_Slices C_NotValid : Addr}
abbrev s_law_fair : Stmt := topS 18
abbrev ns_law_fair : List Str := ["owners", "slices", "counts", "k", "owner", "environment"]
theorem sc_law_fair : FnScope ns_law_fair ["owners"] (defScope s_law_fair) := ⟨rfl, rfl, rfl, by decide +kernel, rfl, by decide +kernel, by decide +kernel⟩

theorem ok_law_fair {f : Addr} {fd : FuncData} (F : Fun K "_law_fair" "_law_fair" s_law_fair f fd) (T : Txt K mg C_Slices C_NotValid) (M_Slices : Mkr P w K mg base (L2.CX P w) 6 "Slices" C_Slices ["self", "owners"] (spInit C_Slices C_NotValid))
    (D_Slices_running : Mth P w K mg base CX0 1 C_Slices "running" ["self"] (spRun C_Slices)) (D_Slices_pass_unit : Mth P w K mg base CX0 3 C_Slices "pass_unit" ["self"] (spPass C_Slices)) : FnOk P w K mg base CX0 8 f fd ["owners"] spFair := by
  refine F.ok sc_law_fair (fun vs H Q E h => ?_) (fun cdv A outer s H vs Q E hr h => ?_)
  · obtain ⟨o, os, rfl, _⟩ := h
    rfl
  · obtain ⟨o, os, rfl, hO, ho, k⟩ := h
    refine ⟨_, (pss_cons (ps_set (i := 1) sc_law_fair.nd rfl (Or.inl rfl) (pe_dmake M_Slices (hr.mono (by decide)) (by rfl) passL (pa_cons (pe_callTy (kListOf K) (by rfl) T.b_list (by decide +kernel) (pa_cons (pv 0) pa_nil)) pa_nil)))
  (pss_cons (ps_set (i := 2) sc_law_fair.nd rfl (Or.inl rfl) (pe_op op_rep (pe_lst (pa_cons pe_int pa_nil)) pe_int))
  (pss_cons (ps_for PassesOwn.never (by rfl) (pi_range1 (by rfl) T.b_range (pa_cons (pe_op op_mul pe_int (pe_callB (kLen K) (by rfl) T.b_len (by decide +kernel) (pa_cons (pe_lc (own := [("owner", 4)]) (by rfl) sc_law_fair.nd (kpiL K (pv 0)) (blkOk_by (N := ns_law_fair) (sc := defScope s_law_fair) (by decide +kernel)) (fun _ _ _ _ _ => (pg_name (i := 4) sc_law_fair.nd rfl (Or.inl rfl))) (fun _ _ _ _ _ => (pts_one (pt_cmpR op_notN (pv 4) pe_non (nomark _)))) (fun _ _ _ _ _ => (pv 4))) pa_nil))) pa_nil)) (pg_name (i := 3) sc_law_fair.nd rfl (Or.inl rfl)) (pss_cons (ps_augS (pv 2) (pe_dmeth0 (pv 1) D_Slices_running (hr.mono (by decide)) pass0 ) (kGetL K) pe_int ip_add set_list)
  (pss_one (ps_expr (pe_dmeth0 (pv 1) D_Slices_pass_unit (hr.mono (by decide)) pass0 )))))
  (pss_one (ps_ret (pe_cmpR (kEqD K hr.units) (pv 2) (pe_lc (own := [("environment", 5)]) (by rfl) sc_law_fair.nd (pi_range1 (by rfl) T.b_range (pa_cons pe_int pa_nil)) (blkOk_by (N := ns_law_fair) (sc := defScope s_law_fair) (by decide +kernel)) (fun _ _ _ _ _ => (pg_name (i := 5) sc_law_fair.nd rfl (Or.inl rfl))) (fun _ _ _ _ _ => pts_nil) (fun _ _ _ _ _ => (pe_op op_mul pe_int (kBM K PySem.F.plainAttrs_list PySem.F.slot_list_count PySem.F.type_list_count (kCount K) (pv 0) (pa_cons (pv 5) pa_nil))))) (nomark _))))))), ?_⟩
    refine ⟨_, rfl, _, _, rfl, .inl (SqL.of hO), fun l hl => fun x dx hx hdx ne => ?_⟩
    have s1 : Same H (upd H l (.lst (os.map valO))) := Same.new hl
    have s2 : Same (upd H l (.lst (os.map valO))) (upd (upd (upd H l (.lst (os.map valO))) dx (.own x)) x (.ins C_Slices dx [])) := (Same.new hdx).trans (Same.new (by rw [upd_ne ne.symm]; exact hx))
    have fx : H x = none := s1.free hx
    refine ⟨x, dx, .ref l, .list (os.map datO), rfl, upd_same, Dt.same s2 (.lst upd_same vals_dat), fun ds e => (by cases e; rw [List.length_map]; have := ho.1; omega), fun e => ?_, fun _ => ⟨os, ho, rfl, fun H1 S1 c1 => ⟨rfl, ?_⟩⟩⟩
    · rw [okOwn_of ho] at e; cases e
    have s3 : Same H H1 := Same.chgN (s1.trans s2) c1 fx
    -- counts
    refine ⟨szl rfl, fun l0 n0 => ⟨_, _, _, rfl, rfl, upd_same, by decide, by decide, by decide, fun W hW => ?_⟩⟩
    have sW : Same H1 (upd (upd H1 l0 (.lst [.int 0])) W (.lst (List.replicate (Int.toNat 4) [V.int 0]).flatten)) := (Same.new n0).trans (Same.new hW)
    have fW1 : H1 W = none := (Same.new n0).free hW
    have fW : H W = none := s3.free fW1
    have nWx : W ≠ x := by
      obtain ⟨d, l', h1, h2⟩ := S1
      exact (ne_of_none h1 fW1).symm
    have hW0 : (upd (upd H1 l0 (.lst [.int 0])) W (.lst (List.replicate (Int.toNat 4) [V.int 0]).flatten)) W = some (.lst (([0, 0, 0, 0] : List Nat).map vN)) := upd_same
    generalize upd (upd H1 l0 (.lst [.int 0])) W (.lst (List.replicate (Int.toNat 4) [V.int 0]).flatten) = H2 at sW hW0
    have s4 := s3.trans sW
    have S2 := S1.same sW
    -- how many slots have an owner
    refine ⟨_, rfl, _, rfl, ⟨_, SqL.of (s4 _ _ hO)⟩, fun D hD => ?_⟩
    have hO2 := s4 _ _ hO
    refine lc_list (xs := os.map valO) (fun i H' => Same H2 H' ∧ ∃ xs : List V, H' D = some (.lst xs) ∧ xs.length = cnt (os.take i)) ?_ ?_ ?_ ?_
    · exact ⟨Same.new hD, [], upd_same, rfl⟩
    · rintro i H' _ ⟨s', _⟩
      exact SqL.of (s' _ _ hO2)
    · rintro i y H' hi ⟨s', xs, hd, hxl⟩
      rw [List.getElem?_map] at hi
      cases e : os[i]? with
      | none => rw [e] at hi; cases hi
      | some oo =>
        rw [e] at hi
        have ey : valO oo = y := Option.some.inj hi
        subst ey
        have ct : cnt (os.take (i + 1)) = cnt (os.take i) + if oo.isSome then 1 else 0 := by
          unfold cnt
          rw [← take_snoc e, List.countP_append, List.countP_singleton]
        refine ⟨rfl, _, rfl, rfl, _, rfl, ?_⟩
        rw [valO_non]
        cases oo with
        | none => exact iteF ⟨s', xs, hd, by rw [ct]; exact hxl⟩
        | some z =>
          refine iteT ⟨_, rfl, xs, hd, ?_, Same.mut s' hD, xs ++ [_], upd_same, ?_⟩
          · have : cnt (os.take i) ≤ 8 := by
              unfold cnt
              have a := List.countP_le_length (p := fun o : Option Nat => o.isSome) (l := os.take i)
              have b : (os.take i).length ≤ 8 := by rw [List.length_take]; have := ho.1; omega
              omega
            exact szt (by omega)
          · rw [List.length_append, hxl, ct]; rfl
    · rintro H3 ⟨s5, xs, hd, hxl⟩
      rw [List.length_map, List.take_length] at hxl
      refine ⟨_, _, rfl, .inl (SqL.of hd), ?_⟩
      have c8 : cnt os ≤ 8 := by
        have a := List.countP_le_length (p := fun o : Option Nat => o.isSome) (l := os)
        have := ho.1
        unfold cnt
        omega
      rw [hxl]
      refine ⟨_, _, rfl, rfl, .inl ⟨by decide, by decide⟩, _, rfl, by omega, by omega, ?_⟩
      rw [show ((6 : Int) * (cnt os : Nat)).toNat = 6 * cnt os by omega]
      refine for_range (fun i σ H' => ∃ (v3 : Option V) (cs : List Nat), σ = [some (.ref o), some (.ref x), some (.ref W), v3, none, none] ∧ Same H H' ∧ cs.length = 4 ∧ H' W = some (.lst (cs.map vN)) ∧
        ((∃ t u, SlAt C_Slices H' x os t u (at8 os t) ∧ LeftOk os cs i t u) ∨ DoneOk os cs i)) ?_ ?_ ?_
      · refine ⟨none, [0, 0, 0, 0], rfl, s4.trans s5, rfl, s5 _ _ hW0, ?_⟩
        have S3 := S2.same s5
        cases e : srch os 8 0 with
        | none => exact .inr (done_start ho e)
        | some m =>
          have e2 : start os = (m, at8 os m) := by unfold start; rw [e]
          rw [e2] at S3
          exact .inl ⟨m, 0, S3, left_start ho e⟩
      · rintro i σ H' hi ⟨v3, cs, rfl, s', hc, hw, alt⟩
        rcases alt with ⟨t, u, S, L⟩ | Dn
        · have hiss := L.2.2.1
          cases e : at8 os t with
          | none => rw [e] at hiss; cases hiss
          | some oo =>
            have h4 : oo < 4 := by
              have t8 := L.1
              rw [at8_lt t8] at e
              have : os[t]? = some (some oo) := by
                rw [List.getD_eq_getElem?_getD] at e
                cases q : os[t]? with
                | none => rw [q] at e; cases e
                | some z => rw [q] at e; have e' : z = some oo := e; rw [e']
              exact ho.2 _ (List.mem_of_getElem? this) oo rfl
            rw [e] at S
            obtain ⟨d0, l0', q1, q2⟩ := id S
            -- counts[slices.running()] += 1
            refine ⟨_, rfl, _, rfl, x, d0, _, rfl, q1, rfl, x, os, t, u, some oo, rfl, S, ?_⟩
            refine ⟨_, _, _, _, rfl, rfl, SqL.of hw, atC oo rfl (getVN (by omega)), _, _, rfl, rfl, _, _, _, _, rfl, rfl, hw, ixC oo rfl (by rw [List.length_map]; omega), ?_⟩
            have S' := S.upd (o := .lst ((cs.map vN).set oo (.int ((cs.getD oo 0 : Nat) + 1)))) nWx hw (by rw [List.length_map]; have := ho.1; omega)
            have hw' : (upd H' W (.lst ((cs.map vN).set oo (.int ((cs.getD oo 0 : Nat) + 1))))) W = some (.lst ((cs.set oo (cs.getD oo 0 + 1)).map vN)) := by
              rw [upd_same, show ((cs.getD oo 0 : Nat) : Int) + 1 = ((cs.getD oo 0 + 1 : Nat) : Int) by omega, mapSet]
            have s'' : Same H (upd H' W (.lst ((cs.map vN).set oo (.int ((cs.getD oo 0 : Nat) + 1))))) := Same.mut s' fW
            have lc : (cs.set oo (cs.getD oo 0 + 1)).length = 4 := by rw [List.length_set]; exact hc
            show tDrop (tMeth C_Slices "pass_unit" (spPass C_Slices) [] E0 (tVar 1) tNil) _ _ (upd H' W (.lst ((cs.map vN).set oo (.int ((cs.getD oo 0 : Nat) + 1)))))
            generalize upd H' W (.lst ((cs.map vN).set oo (.int ((cs.getD oo 0 : Nat) + 1)))) = H4 at S' hw' s''
            -- slices.pass_unit()
            obtain ⟨d1, l1, q3, q4⟩ := id S'
            refine ⟨_, rfl, x, d1, _, rfl, q3, rfl, x, os, t, u, some oo, rfl, S', ho, by have := L.1; omega, L.2.1, fun z => (by cases z), fun _ hu H5 S5 c5 => ?_, fun _ hu => ⟨fun hm => (left_endN hiss hm).elim, fun m hm H5 S5 c5 => ?_⟩⟩
            · refine ⟨_, _, rfl, Same.chgN s'' c5 fx, lc, c5 W _ nWx hw', .inl ⟨t, u + 1, ?_, left_unit hc L e h4 hu⟩⟩
              rw [e]; exact S5
            · subst hu
              refine ⟨_, _, rfl, Same.chgN s'' c5 fx, lc, c5 W _ nWx hw', ?_⟩
              rcases left_end ho hc L e h4 hm with q | q
              · exact .inl ⟨m, 0, S5, q⟩
              · exact .inr q
        · have := Dn.1
          omega
      · rintro σ H' ⟨v3, cs, rfl, s', hc, hw, alt⟩
        have Dn : DoneOk os cs (6 * cnt os) := by
          rcases alt with ⟨t, u, S, L⟩ | Dn
          · have := L.2.2.2.1
            have := L.2.1
            omega
          · exact Dn
        refine ⟨_, rfl, _, rfl, by decide, by decide, fun D2 hD2 => ?_⟩
        have ecs : cs = (List.range 4).map fun e => 6 * cntE e os := by
          refine List.ext_getElem (by simp [hc]) fun i h1 h2 => ?_
          have := Dn.2 i (by omega)
          rw [List.getD_eq_getElem?_getD, List.getElem?_eq_getElem h1] at this
          simpa using this
        refine lcR (((List.range 4).map fun e => 6 * cntE e os).map vN) (by simp) (by decide) hD2 ?_ ?_
        · intro j y H5 Q' hy s5 q
          have hj : j < 4 := by
            have := (List.getElem?_eq_some_iff.mp hy).1
            simpa using this
          have ey : y = .int ((6 * cntE j os : Nat) : Int) := by
            rw [List.getElem?_map, List.getElem?_map, List.getElem?_range hj] at hy
            exact (Option.some.inj hy).symm
          subst ey
          refine ⟨rfl, ?_⟩
          have hO5 := s5 _ _ (s' _ _ hO)
          refine ⟨_, rfl, .inl ⟨rfl, _, SqL.of hO5⟩, _, rfl, o, os.map valO, .int (j : Int), rfl, ?_, SqL.of hO5, rfl, flat_valO os, ?_⟩
          · show [V.int (0 + (j : Int))] = [V.int (j : Int)]
            rw [Int.zero_add]
          · rw [count_valO]
            refine ⟨_, _, rfl, rfl, .inl ⟨by decide, by decide⟩, ?_⟩
            show Q' (V.int ((6 : Int) * (cntE j os : Nat))) H5
            rw [show (6 : Int) * (cntE j os : Nat) = ((6 * cntE j os : Nat) : Int) by omega]
            exact q H5 (Same.refl _)
        · intro H5 s5 d5
          rw [← ecs] at d5
          refine ⟨.list (cs.map fun n : Nat => PyData.int (n : Int)), .list (cs.map fun n : Nat => PyData.int (n : Int)), (Dt.lst (s5 _ _ hw) ints_dt).dp, (Dt.lst d5 ints_dt).dp, ?_, ?_, ?_⟩
          · exact (Sh.lst (n := 0) fun d hd => by obtain ⟨n, _, rfl⟩ := List.mem_map.mp hd; exact Sh.int _ _).ok
          · exact (Sh.lst (n := 0) fun d hd => by obtain ⟨n, _, rfl⟩ := List.mem_map.mp hd; exact Sh.int _ _).ok
          · rw [PySem.SeqAt.eqv_refl _ (Sh.lst (n := 0) fun d hd => by obtain ⟨n, _, rfl⟩ := List.mem_map.mp hd; exact Sh.int _ _).1]
            exact k H5 (s'.trans s5)
end
end My

namespace My
open PySem L2
local macro_rules | `(tactic| walk_at "ne") => `(tactic| first | assumption | exact Ne.symm (by assumption) | exact ne_of_none (by assumption) (by assumption) | exact Ne.symm (ne_of_none (by assumption) (by assumption)))
local macro_rules | `(tactic| walk_at "hp") => `(tactic| first | assumption | with_reducible exact upd_same | (with_reducible refine Eq.trans (upd_ne ?_) ?_; rotate_left; walk_at "hp"; walk_at "ne"))
local macro_rules | `(tactic| walk_at "cnd") => `(tactic| first | omega | (show (0 : Int) < _; omega) | exact ⟨by omega, by omega⟩ | exact Or.inl ⟨by omega, by omega⟩ | exact Or.inr ⟨by omega, by omega⟩ | exact ⟨by omega, by omega, by decide⟩ | exact ⟨by omega, by omega, by omega⟩)
local macro_rules | `(tactic| walk_at "at") => `(tactic| first | exact atC 0 rfl rfl | exact atC 1 rfl rfl | exact atC 2 rfl rfl | exact atC 3 rfl rfl | exact atC 4 rfl rfl | exact atC 5 rfl rfl | exact atC 6 rfl rfl | exact atC 7 rfl rfl)
local macro_rules | `(tactic| walk_at "ix") => `(tactic| first | exact ixC 0 rfl (Nat.le_of_ble_eq_true rfl) | exact ixC 1 rfl (Nat.le_of_ble_eq_true rfl) | exact ixC 2 rfl (Nat.le_of_ble_eq_true rfl) | exact ixC 3 rfl (Nat.le_of_ble_eq_true rfl) | exact ixC 4 rfl (Nat.le_of_ble_eq_true rfl) | exact ixC 5 rfl (Nat.le_of_ble_eq_true rfl))
local macro_rules | `(tactic| walk_at "st") => `(tactic| first
  | refine ⟨_, rfl, ?_⟩
  | refine ⟨_, _, rfl, rfl, (by walk_at "cnd" : (_ : Prop)), ?_⟩
  | refine ⟨_, _, rfl, rfl, ?_⟩
  | refine ⟨rfl, ?_⟩
  | refine Or.inl ⟨_, rfl, ?_⟩
  | refine ⟨_, _, _, _, rfl, rfl, by exact SqL.of (by walk_at "hp"), by walk_at "at", ?_⟩
  | refine ⟨_, _, _, _, rfl, rfl, by exact SqT.of (by walk_at "hp"), by walk_at "at", ?_⟩
  | refine ⟨_, _, _, _, rfl, rfl, by walk_at "hp", by walk_at "ix", ?_⟩
  | refine ⟨_, _, rfl, Or.inl (by exact SqL.of (by walk_at "hp")), ?_⟩
  | refine ⟨_, _, rfl, Or.inr (by exact SqT.of (by walk_at "hp")), ?_⟩)
local macro_rules | `(tactic| walk_at "so") => `(tactic| first
  | refine ⟨_, _, _, _, _, rfl, by walk_at "hp", by assumption, by assumption, rfl, ?_⟩
  | refine ⟨_, _, _, _, rfl, by walk_at "hp", by assumption, by assumption, Nat.le_of_ble_eq_true rfl, ?_⟩
  | refine ⟨_, _, _, rfl, by walk_at "hp", rfl, ?_⟩
  | walk_at "st")
local macro_rules | `(tactic| walk_at "ro") => `(tactic| repeat walk_at "so")
local macro_rules | `(tactic| walk_at "run") => `(tactic| repeat walk_at "st")

def spLaw (K : PySem.W.Frag) : Sp := fun vs H Q _ => ∃ (a : Addr) (ns : List Int), vs = [.ref a] ∧ SqL K H a (ns.map V.int) ∧ ∀ H', Q (.bl true) H'
theorem SlAt.chg {C : Addr} {H H' : Hp} {p q : Addr} {os : List (Option Nat)} {t u : Nat} {h : Option Nat} {ys : List V} (S : SlAt C H p os t u h) (c : Chg q H H') (n1 : p ≠ q) (hq : H q = some (.lst ys)) (hl : ys.length ≠ os.length) : SlAt C H' p os t u h := by
  obtain ⟨dx, l, h1, h2⟩ := S
  exact ⟨dx, l, c _ _ n1 h1, c _ _ (lst_ne h2 hq (by rw [List.length_map]; exact fun z => hl z.symm)) h2⟩
theorem Tape.chg {H H' : Hp} {a t q : Addr} (T : Tape H a t) (c : Chg q H H') (n1 : a ≠ q) (n2 : t ≠ q) : Tape H' a t := by
  obtain ⟨ns, i, r, z, ha, hs, rest⟩ := T
  exact ⟨ns, i, r, z, c _ _ n1 ha, c _ _ n2 hs, rest⟩
theorem srch_all {os : List (Option Nat)} {m0 : Nat} (h : srch os 8 0 = some m0) (t : Nat) : ∃ m, srch os 8 t = some m := by
  cases e : srch os 8 t with
  | some m => exact ⟨m, rfl⟩
  | none =>
    exfalso
    obtain ⟨a, b, c, d⟩ := srch_some h
    have hn := srch_none e
    have : at8 os (t + (m0 + 8 - t % 8) % 8) = none := hn _ (by omega) (by omega)
    have e8 : (t + (m0 + 8 - t % 8) % 8) % 8 = m0 % 8 := by omega
    unfold at8 at this c
    rw [e8] at this
    rw [this] at c; cases c
theorem eqv_none : ∀ (os : List (Option Nat)), PyData.eqvAll (os.map datO) (List.replicate os.length PyData.none) = os.all (·.isNone)
  | [] => rfl
  | o :: os => by
    show PyData.eqvAll (datO o :: os.map datO) (PyData.none :: List.replicate os.length PyData.none) = _
    rw [PyData.eqvAll, eqv_none os, List.all_cons]
    cases o <;> rfl
theorem all_none {os : List (Option Nat)} (ho : os.length = 8) : os.all (·.isNone) = true ↔ srch os 8 0 = none := by
  constructor
  · intro h
    cases e : srch os 8 0 with
    | none => rfl
    | some m =>
      obtain ⟨a, b, c, d⟩ := srch_some e
      have h8 : m < os.length := by omega
      have := List.all_eq_true.mp h _ (List.getElem_mem h8)
      rw [at8_lt (by omega), List.getD_eq_getElem?_getD, List.getElem?_eq_getElem h8] at c
      have c' : (os[m]).isSome = true := c
      cases q : os[m] with
      | none => rw [q] at c'; cases c'
      | some z => rw [q] at this; cases this
  · intro h
    rw [List.all_eq_true]
    intro o hO
    obtain ⟨i, hi, e⟩ := List.mem_iff_getElem.mp hO
    have := srch_none h i (by omega) (by omega)
    rw [at8_lt (by omega), List.getD_eq_getElem?_getD, List.getElem?_eq_getElem hi, e] at this
    have t : o = none := this
    rw [t]; rfl
/-- the two clocks go alike -/
def Both (C x s : Addr) (os : List (Option Nat)) (n : Nat) (H : Hp) : Prop := ∃ t u h, SlAt C H x os t u h ∧ StAt H s ((t / 8 : Nat) : Int) ((t % 8 : Nat) : Int) (u : Int) (valO h) ∧ u < 6 ∧ t ≤ 8 * n + 8 ∧
  ((h = none ∧ srch os 8 0 = none) ∨ (h ≠ none ∧ ∃ m, srch os 8 0 = some m))
structure Apart (tp ts x s l : Addr) : Prop where
  tpx : tp ≠ x
  tsx : ts ≠ x
  tps : tp ≠ s
  tss : ts ≠ s
  xs : x ≠ s
  ltp : l ≠ tp
  lx : l ≠ x
  ls : l ≠ s
structure J (C tp ts x s l : Addr) (os : List (Option Nat)) (n : Nat) (H : Hp) : Prop where
  tape : Tape H tp ts
  own : H l = some (.lst (os.map valO))
  both : Both C x s os n H
section
variable {C tp ts x s l : Addr} {os : List (Option Nat)} {n : Nat} {H H' : Hp}
theorem Both.same (B : Both C x s os n H) (e : Same H H') : Both C x s os n H' := by
  obtain ⟨t, u, h, S, st, r⟩ := B
  exact ⟨t, u, h, S.same e, e _ _ st, r⟩
theorem J.same (j : J C tp ts x s l os n H) (e : Same H H') : J C tp ts x s l os n H' := ⟨j.tape.same e, e _ _ j.own, j.both.same e⟩
theorem J.next (A : Apart tp ts x s l) (ho : os.length = 8) (j : J C tp ts x s l os n H) (t' : Tape H' tp ts) (c : Chg tp H H') : J C tp ts x s l os n H' := by
  obtain ⟨t, u, h, S, st, r⟩ := j.both
  obtain ⟨ns, i, r0, z, ha, _⟩ := j.tape
  exact ⟨t', c _ _ A.ltp j.own, t, u, h, S.chg c A.tpx.symm ha (by rw [ho]; show (4 : Nat) ≠ 8; decide), c _ _ A.tps.symm st, r⟩
end
section
variable {P : Program} {w : World} {K : PySem.W.Frag} {mg : Str → Option Value} {base : Heap} {C_Slices C_NotValid : Addr}
abbrev s_law : Stmt := topS 19
abbrev ns_law : List Str := ["script", "tape", "owners", "k", "slices", "state", "turn", "kind", "due", "other", "told"]
theorem sc_law : FnScope ns_law ["script"] (defScope s_law) := ⟨rfl, rfl, rfl, by decide +kernel, rfl, by decide +kernel, by decide +kernel⟩

theorem ok_law {f : Addr} {fd : FuncData} (F : Fun K "law" "law" s_law f fd) (T : Txt K mg C_Slices C_NotValid) (D_law_next : Dfn P w K mg base CX0 1 "_law_next" ["tape", "many"] spNext)
    (M_Slices : Mkr P w K mg base (L2.CX P w) 6 "Slices" C_Slices ["self", "owners"] (spInit C_Slices C_NotValid)) (D_law_refused : Dfn P w K mg base CX0 8 "_law_refused" ["owners"] spRefused) (D_law_fair : Dfn P w K mg base CX0 8 "_law_fair" ["owners"] spFair)
    (D_law_next_slot : Dfn P w K mg base CX0 1 "_law_next_slot" ["state", "owners"] spNextSlot) (D_Slices_running : Mth P w K mg base CX0 1 C_Slices "running" ["self"] (spRun C_Slices)) (D_Slices_place : Mth P w K mg base CX0 1 C_Slices "place" ["self"] (spPlace C_Slices))
    (D_Slices_hand_on : Mth P w K mg base (L2.CX P w) 5 C_Slices "hand_on" ["self", "environment"] (spHand C_Slices)) (D_Slices_give_up : Mth P w K mg base CX0 3 C_Slices "give_up" ["self"] (spGive C_Slices))
    (D_Slices_pass_unit : Mth P w K mg base CX0 3 C_Slices "pass_unit" ["self"] (spPass C_Slices)) : FnOk P w K mg base CX0 9 f fd ["script"] (spLaw K) := by
  refine F.ok sc_law (fun vs H Q E h => ?_) (fun cdv A outer s0 H vs Q E hr h => ?_)
  · obtain ⟨a, ns, rfl, _⟩ := h
    rfl
  · obtain ⟨a, ns, rfl, hS, k⟩ := h
    refine ⟨_, (pss_cons (ps_set (i := 1) sc_law.nd rfl (Or.inr rfl) (pe_lst (pa_cons (pe_callTy (kListOf K) (by rfl) T.b_list (by decide +kernel) (pa_cons (pv 0) pa_nil)) (pa_cons pe_int (pa_cons pe_int (pa_cons pe_int pa_nil))))))
  (pss_cons (ps_setLc (i := 2) (own := [("k", 3)]) (by rfl) sc_law.nd rfl rfl (sw_true rfl rfl rfl (by decide +kernel)) (pi_range1 (by rfl) T.b_range (pa_cons pe_int pa_nil)) (blkOk_by (N := ns_law) (sc := defScope s_law) (by decide +kernel)) (fun _ _ _ _ _ => (pg_name (i := 3) sc_law.nd rfl (Or.inl rfl))) (fun _ _ _ _ _ => pts_nil) (fun _ _ _ _ _ => (pe_ix (kIxL K) (pe_lst (pa_cons pe_non (pa_cons pe_int (pa_cons pe_int (pa_cons pe_int (pa_cons pe_int pa_nil)))))) (pe_dcall D_law_next (hr.mono (by decide)) (by rfl) pass0 (pa_cons (pv 1) (pa_cons pe_int pa_nil))) (fun _ _ => rfl))))
  (pss_cons (ps_set (i := 4) sc_law.nd rfl (Or.inl rfl) (pe_dmake M_Slices (hr.mono (by decide)) (by rfl) passL (pa_cons (pe_callTy (kListOf K) (by rfl) T.b_list (by decide +kernel) (pa_cons (pv 2) pa_nil)) pa_nil)))
  (pss_cons (ps_if (PW.pt (pw_or (pt_not (pt_val (pe_dcall D_law_refused (hr.mono (by decide)) (by rfl) pass0 (pa_cons (pe_slice (kSlL K) (pv 2) (po_some pe_int) po_none) pa_nil)))) (pw_or (pt_not (pt_val (pe_dcall D_law_refused (hr.mono (by decide)) (by rfl) pass0 (pa_cons (pe_op op_cat (pe_lst (pa_cons pe_bl pa_nil)) (pe_slice (kSlL K) (pv 2) (po_some pe_int) po_none)) pa_nil)))) (pw_or1 (pt_not (pt_val (pe_dcall D_law_fair (hr.mono (by decide)) (by rfl) pass0 (pa_cons (pv 2) pa_nil)))))))) (pss_one (ps_ret pe_bl)) pss_nil)
  (pss_cons (ps_set (i := 5) sc_law.nd rfl (Or.inl rfl) (pe_lst (pa_cons pe_int (pa_cons (pe_un un_neg pe_int) (pa_cons pe_int (pa_cons pe_non pa_nil))))))
  (C8.pss_cut (ps_if (pt_cmpR (kEqD K hr.units) (pv 2) (pe_op op_rep (pe_lst (pa_cons pe_non pa_nil)) pe_int) (nomark _)) (pss_one (ps_set (i := 5) sc_law.nd rfl (Or.inl rfl) (pe_lst (pa_cons pe_int (pa_cons pe_int (pa_cons pe_int (pa_cons pe_non pa_nil))))))) (pss_one (ps_expr (pe_dcall D_law_next_slot (hr.mono (by decide)) (by rfl) pass0 (pa_cons (pv 5) (pa_cons (pv 2) pa_nil))))))
  (pss_cons (ps_for PassesOwn.never (by rfl) (pi_range1 (by rfl) T.b_range (pa_cons (pe_dcall D_law_next (hr.mono (by decide)) (by rfl) pass0 (pa_cons (pv 1) (pa_cons (pe_ix (kIxL K) (pe_lst (pa_cons pe_int (pa_cons pe_int pa_nil))) (pe_dcall D_law_next (hr.mono (by decide)) (by rfl) pass0 (pa_cons (pv 1) (pa_cons pe_int pa_nil))) (fun _ _ => rfl)) pa_nil))) pa_nil)) (pg_name (i := 6) sc_law.nd rfl (Or.inl rfl)) (pss_cons (ps_if (PW.pt (pw_or (pt_cmpR op_ne (pe_dmeth0 (pv 4) D_Slices_running (hr.mono (by decide)) pass0 ) (pe_ix (kIxL K) (pv 5) pe_int (fun _ _ => rfl)) (nomark _)) (pw_or1 (pt_cmpR (kNeD K hr.units) (pe_dmeth0 (pv 4) D_Slices_place (hr.mono (by decide)) pass0 ) (pe_tup (pa_cons (pe_ix (kIxL K) (pv 5) pe_int (fun _ _ => rfl)) (pa_cons (pe_ix (kIxL K) (pv 5) pe_int (fun _ _ => rfl)) (pa_cons (pe_ix (kIxL K) (pv 5) pe_int (fun _ _ => rfl)) pa_nil)))) (nomark _))))) (pss_one (ps_ret pe_bl)) pss_nil)
  (pss_cons (ps_set (i := 7) sc_law.nd rfl (Or.inl rfl) (pe_dcall D_law_next (hr.mono (by decide)) (by rfl) pass0 (pa_cons (pv 1) (pa_cons pe_int pa_nil))))
  (pss_cons (ps_set (i := 8) sc_law.nd rfl (Or.inl rfl) pe_non)
  (pss_cons (ps_if (pt_cmpR op_eq (pv 7) pe_int (nomark _)) (pss_cons (ps_set (i := 9) sc_law.nd rfl (Or.inl rfl) (pe_dcall D_law_next (hr.mono (by decide)) (by rfl) pass0 (pa_cons (pv 1) (pa_cons pe_int pa_nil))))
  (pss_cons (ps_set (i := 10) sc_law.nd rfl (Or.inl rfl) (pe_dmeth (pv 4) D_Slices_hand_on (hr.mono (by decide)) passL (pa_cons (pv 9) pa_nil)))
  (C8.pss_cut (ps_if (pt_cmpR op_notN (pe_ix (kIxL K) (pv 5) pe_int (fun _ _ => rfl)) pe_non (nomark _)) (pss_one (ps_asg (pv 9) (pg_sub (pv 5) pe_int set_list))) pss_nil)
  (pss_cons (ps_if (pt_cmpR op_notN (pv 10) pe_non (nomark _)) (pss_one (ps_ret pe_bl)) pss_nil)
  (pss_one ps_continue))))) pss_nil)
  (pss_cons (ps_set (i := 10) sc_law.nd rfl (Or.inl rfl) (pe_ifExp (pt_cmpR op_eq (pv 7) pe_int (nomark _)) (pe_dmeth0 (pv 4) D_Slices_give_up (hr.mono (by decide)) pass0 ) (pe_dmeth0 (pv 4) D_Slices_pass_unit (hr.mono (by decide)) pass0 )))
  (C8.pss_cut (ps_if (pt_cmpR op_notN (pe_ix (kIxL K) (pv 5) pe_int (fun _ _ => rfl)) pe_non (nomark _)) (pss_cons (ps_augS (pv 5) pe_int (kGetL K) pe_int ip_add set_list)
  (pss_one (ps_if (PW.pt (pw_or (pt_cmpR op_eq (pv 7) pe_int (nomark _)) (pw_or1 (pt_cmpR op_eq (pe_ix (kIxL K) (pv 5) pe_int (fun _ _ => rfl)) pe_int (nomark _))))) (pss_cons (ps_set (i := 8) sc_law.nd rfl (Or.inl rfl) (pe_ix (kIxL K) (pv 2) (pe_ix (kIxL K) (pv 5) pe_int (fun _ _ => rfl)) (fun _ _ => rfl)))
  (pss_one (ps_expr (pe_dcall D_law_next_slot (hr.mono (by decide)) (by rfl) pass0 (pa_cons (pv 5) (pa_cons (pv 2) pa_nil)))))) pss_nil))) pss_nil)
  (pss_one (ps_if (pt_cmpR op_ne (pv 10) (pv 8) (nomark _)) (pss_one (ps_ret pe_bl)) pss_nil)))))))))
  (pss_one (ps_ret pe_bl))))))))), ?_⟩
    refine ⟨_, rfl, _, _, rfl, .inl hS, fun ts hts => ⟨szl rfl, fun tp htp => ?_⟩⟩
    have T0 : Tape (upd (upd H ts (.lst (ns.map V.int))) tp (.lst [.ref ts, .int 0, .int 0, .int 5])) tp ts :=
      ⟨ns, 0, 0, 5, upd_same, Same.new htp _ _ upd_same, by decide, by decide, by decide, by decide⟩
    generalize upd (upd H ts (.lst (ns.map V.int))) tp (.lst [.ref ts, .int 0, .int 0, .int 5]) = G0 at T0
    -- owners
    refine ⟨_, rfl, by decide, by decide, fun l hl => ?_⟩
    have nltp := T0.at hl
    have nlts := T0.at2 hl
    refine lc_range (fun i H' => ∃ os : List (Option Nat), os.length = i ∧ (∀ o ∈ os, ∀ n, o = some n → n < 4) ∧ H' l = some (.lst (os.map valO)) ∧ Tape H' tp ts ∧ Chg tp G0 H') ?_ ?_ ?_
    · exact ⟨[], rfl, fun _ h => (by cases h), upd_same, T0.same (Same.new hl), Same.chg (Same.new hl)⟩
    · rintro i H1 hi ⟨os, ol, o4, hl1, t1, c1⟩
      refine ⟨rfl, szl rfl, fun p hp => ?_⟩
      refine ⟨_, rfl, tp, ts, 5, rfl, by decide, by decide, t1.same (Same.new hp), fun v H2 v0 v1 t2 c2 => ?_⟩
      have hp2 := c2 p _ (t1.at hp) upd_same
      have npl : l ≠ p := ne_of_none hl1 hp
      have hl2 := c2 l _ nltp (Same.new hp _ _ hl1)
      have c3 : Chg tp G0 H2 := (c1.trans (Same.chg (Same.new hp))).trans c2
      have i8 : i < 8 := hi
      have add : ∀ o : Option Nat, (∀ n, o = some n → n < 4) → ∃ acc, H2 l = some (.lst acc) ∧ acc.length < sizeLine ∧ ∃ os : List (Option Nat), os.length = i + 1 ∧ (∀ o ∈ os, ∀ n, o = some n → n < 4) ∧ upd H2 l (.lst (acc ++ [valO o])) l = some (.lst (os.map valO)) ∧ Tape (upd H2 l (.lst (acc ++ [valO o]))) tp ts ∧ Chg tp G0 (upd H2 l (.lst (acc ++ [valO o]))) := by
        intro o h4
        refine ⟨_, hl2, szt (by rw [List.length_map]; omega), os ++ [o], by simp [ol], ?_, ?_, t2.upd nltp nlts, Chg.mut c3 hl⟩
        · intro o' ho' n e
          rcases List.mem_append.mp ho' with q | q
          · exact o4 o' q n e
          · rw [List.mem_singleton.mp q] at e; exact h4 n e
        · rw [upd_same, List.map_append]; rfl
      have hv : v = 0 ∨ v = 1 ∨ v = 2 ∨ v = 3 ∨ v = 4 := by omega
      rcases hv with rfl | rfl | rfl | rfl | rfl
      · walk_at "run"
        exact add none (fun n e => by cases e)
      · walk_at "run"
        exact add (some 0) (fun n e => by cases e; omega)
      · walk_at "run"
        exact add (some 1) (fun n e => by cases e; omega)
      · walk_at "run"
        exact add (some 2) (fun n e => by cases e; omega)
      · walk_at "run"
        exact add (some 3) (fun n e => by cases e; omega)
    · rintro H1 ⟨os, ol, o4, hl1, t1, c1⟩
      have ho : OwnsOk os := ⟨ol, o4⟩
      -- slices
      refine ⟨_, rfl, _, _, rfl, .inl (SqL.of hl1), fun l2 hl2 => fun x dx hx hdx ne => ?_⟩
      have s1 : Same H1 (upd H1 l2 (.lst (os.map valO))) := Same.new hl2
      have s2 : Same (upd H1 l2 (.lst (os.map valO))) (upd (upd (upd H1 l2 (.lst (os.map valO))) dx (.own x)) x (.ins C_Slices dx [])) := (Same.new hdx).trans (Same.new (by rw [upd_ne ne.symm]; exact hx))
      have fx : H1 x = none := s1.free hx
      have ntpx : x ≠ tp := t1.at fx
      have ntsx : x ≠ ts := t1.at2 fx
      have nlx : l ≠ x := ne_of_none hl1 fx
      refine ⟨x, dx, .ref l2, .list (os.map datO), rfl, upd_same, Dt.same s2 (.lst upd_same vals_dat), fun ds e => (by cases e; rw [List.length_map]; omega), fun e => ?_, fun _ => ⟨os, ho, rfl, fun H2 S2 c2 => ⟨rfl, ?_⟩⟩⟩
      · rw [okOwn_of ho] at e; cases e
      have s3 : Same H1 H2 := Same.chgN (s1.trans s2) c2 fx
      have t2 := t1.same s3
      have hlo2 := s3 _ _ hl1
      clear s1 s2 c2 hx hdx hl2
      -- refused, refused, fair
      have cut7 : cutV (os.map valO) (some 1) none = (os.drop 1).map valO := by
        unfold cutV
        rw [List.length_map, ol]
        show ((os.map valO).drop 1).take 7 = _
        rw [← List.map_drop, List.take_of_length_le (by simp; omega)]
      refine ⟨_, rfl, _, rfl, _, _, rfl, SqL.of hlo2, fun p1 hp1 => ?_⟩
      rw [cut7]
      have d1 : Dt (upd H2 p1 (.lst ((os.drop 1).map valO))) (.ref p1) (.list ((os.drop 1).map datO)) := .lst upd_same vals_dat
      refine ⟨_, _, rfl, d1, fun ds e => (by cases e; simp; omega), ?_, fun H3 s4 => ⟨_, rfl, iteF ?_⟩⟩
      · show (decide (((os.drop 1).map datO).length = 8) && _) = false
        rw [decide_eq_false (by simp; omega)]; rfl
      have s5 := (Same.new (o := .lst ((os.drop 1).map valO)) hp1).trans s4
      have hlo3 := s5 _ _ hlo2
      refine ⟨szl rfl, fun p2 hp2 => ⟨_, rfl, _, rfl, _, _, rfl, SqL.of (Same.new hp2 _ _ hlo3), fun p3 hp3 => ?_⟩⟩
      rw [cut7]
      have n23 : p2 ≠ p3 := ne_of_none upd_same hp3
      refine ⟨_, _, _, _, rfl, rfl, Eq.trans (upd_ne n23) upd_same, upd_same, szn (by simp; omega), fun p4 hp4 => ?_⟩
      have s6 := (Same.new (o := .lst [V.bl true]) hp2).trans ((Same.new (o := .lst ((os.drop 1).map valO)) hp3).trans (Same.new (o := .lst ([V.bl true] ++ (os.drop 1).map valO)) hp4))
      have d2 : Dt (upd (upd (upd H3 p2 (.lst [V.bl true])) p3 (.lst ((os.drop 1).map valO))) p4 (.lst ([V.bl true] ++ (os.drop 1).map valO))) (.ref p4) (.list (.bool true :: (os.drop 1).map datO)) := .lst upd_same (.cons (.bl true) vals_dat)
      refine ⟨_, _, rfl, d2, fun ds e => (by cases e; simp; omega), ?_, fun H4 s7 => ⟨_, rfl, iteF ?_⟩⟩
      · show (decide ((PyData.bool true :: (os.drop 1).map datO).length = 8) && (PyData.bool true :: (os.drop 1).map datO).all fun d => isNoneD d || isI d 0 3) = false
        rw [List.all_cons]
        show (_ && ((false || false) && _)) = false
        simp
      have s8 := s6.trans s7
      refine ⟨_, rfl, l, os, rfl, s8 _ _ hlo3, ho, fun H5 s9 => ⟨_, rfl, iteF ?_⟩⟩
      have s10 := (s5.trans s8).trans s9
      have t5 := t2.same s10
      have hlo5 := s10 _ _ hlo2
      have S5 := S2.same s10
      clear s4 s5 s6 s7 s8 s9 s10 d1 d2 hp1 hp2 hp3 hp4 hlo3 t2 hlo2 S2
      -- state
      refine ⟨_, rfl, szl rfl, fun s hs => ?_⟩
      have AP : Apart tp ts x s l := ⟨ntpx.symm, ntsx.symm, (t5.at hs).symm, (t5.at2 hs).symm, by obtain ⟨_, _, q, _⟩ := S5; exact ne_of_none q hs, nltp, nlx, ne_of_none hlo5 hs⟩
      have st0 : StAt (upd H5 s (.lst [.int 0, .int (-1), .int 0, .non])) s 0 (-1) 0 .non := upd_same
      have t6 := t5.same (Same.new (o := .lst [.int 0, .int (-1), .int 0, .non]) hs)
      have hlo6 := Same.new (o := .lst [.int 0, .int (-1), .int 0, .non]) hs _ _ hlo5
      have S6 := S5.same (Same.new (o := .lst [.int 0, .int (-1), .int 0, .non]) hs)
      show C8.tCut _ _ _ _ (upd H5 s (.lst [.int 0, .int (-1), .int 0, .non]))
      generalize upd H5 s (.lst [.int 0, .int (-1), .int 0, .non]) = H6 at st0 t6 hlo6 S6
      have x6 : H6 x ≠ none := by
        obtain ⟨_, _, q, _⟩ := S6
        rw [q]; exact fun z => by cases z
      -- all None, or the first slot
      refine ⟨fun σ H' => ∃ s, σ = [some (.ref a), some (.ref tp), some (.ref l), none, some (.ref x), some (.ref s), none, none, none, none, none] ∧ Apart tp ts x s l ∧ J C_Slices tp ts x s l os 0 H', ?_, ?_⟩
      · refine ⟨_, rfl, szl rfl, fun q1 hq1 => ⟨_, _, _, rfl, rfl, upd_same, by decide, by decide, by decide, fun q2 hq2 => ?_⟩⟩
        have sq := (Same.new (o := .lst [V.non]) hq1).trans (Same.new (o := .lst (List.replicate (Int.toNat 8) [V.non]).flatten) hq2)
        have dr : DtAll (upd (upd H6 q1 (.lst [V.non])) q2 (.lst (List.replicate (Int.toNat 8) [V.non]).flatten)) (List.replicate 8 V.non) (List.replicate 8 PyData.none) := .cons .non (.cons .non (.cons .non (.cons .non (.cons .non (.cons .non (.cons .non (.cons .non .nil)))))))
        have sh1 : Sh 1 (.list (os.map datO)) := Sh.lst fun d hd => by
          obtain ⟨o, _, rfl⟩ := List.mem_map.mp hd
          cases o
          · exact Sh.none _
          · exact Sh.int _ _
        have sh2 : Sh 1 (.list (List.replicate 8 PyData.none)) := Sh.lst fun d hd => by rw [List.eq_of_mem_replicate hd]; exact Sh.none _
        refine ⟨.list (os.map datO), .list (List.replicate 8 .none), (Dt.lst (sq _ _ hlo6) vals_dat).dp, (Dt.lst upd_same dr).dp, sh1.ok, sh2.ok, _, rfl, ?_⟩
        have ev : PyData.eqv (.list (os.map datO)) (.list (List.replicate 8 .none)) = os.all (·.isNone) := by
          have ol' : os.length = 8 := ol
          have q := eqv_none os
          rw [ol'] at q; exact q
        rw [ev]
        have S7 := S6.same sq
        have t7 := t6.same sq
        have hlo7 := sq _ _ hlo6
        cases e : os.all (·.isNone) with
        | true =>
          have en := (all_none ol).mp e
          refine iteT ⟨szl rfl, fun s' hs' => ?_⟩
          have e0 : start os = (0, none) := by unfold start; rw [en]
          rw [e0] at S7
          refine ⟨s', rfl, ⟨AP.tpx, AP.tsx, (t7.at hs').symm, (t7.at2 hs').symm, by obtain ⟨_, _, q, _⟩ := S7; exact ne_of_none q hs', AP.ltp, AP.lx, ne_of_none hlo7 hs'⟩, t7.same (Same.new hs'), Same.new hs' _ _ hlo7, 0, 0, none, S7.same (Same.new hs'), upd_same, by omega, by omega, .inl ⟨rfl, en⟩⟩
        | false =>
          obtain ⟨m, hm⟩ : ∃ m, srch os 8 0 = some m := by
            cases q : srch os 8 0 with
            | some m => exact ⟨m, rfl⟩
            | none => rw [(all_none ol).mpr q] at e; cases e
          have e0 : start os = (m, at8 os m) := by unfold start; rw [hm]
          rw [e0] at S7
          refine iteF ⟨_, rfl, _, rfl, s, l, os, 0, -1, 0, .non, 0, m, rfl, sq _ _ st0, hlo7, ho, by omega, by omega, by omega, hm, fun H' st' c' => ?_⟩
          have st7 := sq _ _ st0
          obtain ⟨_, b1, b2, _⟩ := srch_some hm
          refine ⟨s, rfl, AP, t7.chg c' AP.tps AP.tss, c' _ _ AP.ls hlo7, m, 0, at8 os m, S7.chg c' AP.xs st7 (by rw [ol]; show (4 : Nat) ≠ 8; decide), st', by omega, by omega, .inr ⟨fun z => ?_, m, hm⟩⟩
          rw [z] at b2; cases b2
      · rintro σ H7 ⟨s, rfl, AP, j0⟩
        clear st0 t6 hlo6 S6 x6 H6 t5 hlo5 S5
        -- how many turns
        refine ⟨_, rfl, szl rfl, fun q1 hq1 => ⟨_, rfl, tp, ts, 2, rfl, by decide, by decide, j0.tape.same (Same.new hq1), fun b H8 b0 b1 t8 c8 => ?_⟩⟩
        have j8 := (j0.same (Same.new hq1)).next AP ol t8 c8
        have hq8 := c8 q1 _ (j0.tape.at hq1) upd_same
        have hb : b = 0 ∨ b = 1 := by omega
        rcases hb with rfl | rfl
        all_goals
          walk_at "run"
          refine ⟨tp, ts, _, rfl, by decide, by decide, t8, fun n H9 n0 n1 t9 c9 => ?_⟩
          have j9 := j8.next AP ol t9 c9
          obtain ⟨n', rfl⟩ := Int.eq_ofNat_of_zero_le n0
          refine ⟨_, rfl, by omega, by omega, ?_⟩
          rw [Int.toNat_natCast]
          refine for_range (fun i σ H' => Hide (∃ v6 v7 v8 v9 v10 : Option V, σ = [some (.ref a), some (.ref tp), some (.ref l), none, some (.ref x), some (.ref s), v6, v7, v8, v9, v10] ∧ J C_Slices tp ts x s l os i H')) ?_ ?_ ?_
          · exact hide ⟨none, none, none, none, none, rfl, j9⟩
          · rintro i σ H' hi hh
            obtain ⟨v6, v7, v8, v9, v10, rfl, jj⟩ := hh.out
            have hi' : i < 121 := by omega
            obtain ⟨t, u, h, S, st, hu, ht, AB⟩ := jj.both
            obtain ⟨dx1, l1, q1', q2'⟩ := id S
            have st' : H' s = some (.lst [.int ((t / 8 : Nat) : Int), .int ((t % 8 : Nat) : Int), .int (u : Int), valO h]) := st
            -- running, place
            refine ⟨_, rfl, x, dx1, _, rfl, q1', rfl, x, os, t, u, h, rfl, S, ?_⟩
            walk_at "run"
            refine ⟨by cases h <;> rfl, _, rfl, ?_⟩
            rw [show decide (valO h = valO h) = true by simp]
            refine iteF ⟨_, rfl, x, dx1, _, rfl, q1', rfl, x, os, t, u, h, rfl, S, fun p1 H1' hp1 e1 => ?_⟩
            subst e1
            walk_at "run"
            refine ⟨szl rfl, fun p2 hp2 => ?_⟩
            have s12 := (Same.new (o := .tup [.int ((t / 8 : Nat) : Int), .int ((t % 8 : Nat) : Int), .int (u : Int)]) hp1).trans (Same.new (o := .tup [.int ((t / 8 : Nat) : Int), .int ((t % 8 : Nat) : Int), .int (u : Int)]) hp2)
            have sh3 : Sh 1 (.tuple [.int ((t / 8 : Nat) : Int), .int ((t % 8 : Nat) : Int), .int (u : Int)]) := Sh.tup fun d hd => by
              simp only [List.mem_cons, List.not_mem_nil, or_false] at hd
              rcases hd with rfl | rfl | rfl <;> exact Sh.int _ _
            refine ⟨.tuple [.int ((t / 8 : Nat) : Int), .int ((t % 8 : Nat) : Int), .int (u : Int)], .tuple [.int ((t / 8 : Nat) : Int), .int ((t % 8 : Nat) : Int), .int (u : Int)], (Dt.tup (Same.new hp2 _ _ upd_same) (.cons (.int _) (.cons (.int _) (.cons (.int _) .nil)))).dp, (Dt.tup upd_same (.cons (.int _) (.cons (.int _) (.cons (.int _) .nil)))).dp, sh3.ok, sh3.ok, _, rfl, ?_⟩
            rw [PySem.SeqAt.eqv_refl _ sh3.1]
            refine iteF ?_
            have j2 := jj.same s12
            have S2 := S.same s12
            have st2 := s12 _ _ st'
            have B2 : Both C_Slices x s os i _ := ⟨t, u, h, S2, st2, hu, ht, AB⟩
            clear s12 hp1 hp2 sh3 q1' q2'
            -- kind
            refine ⟨_, rfl, tp, ts, 8, rfl, by decide, by decide, j2.tape, fun kd H3 k0 k1 t3 c3 => ?_⟩
            have j3 := j2.next AP ol t3 c3
            obtain ⟨ns3, i3, r3, z3, ha3, _⟩ := j2.tape
            have S3 := S2.chg c3 AP.tpx.symm ha3 (by rw [ol]; show (4 : Nat) ≠ 8; decide)
            have st3 := c3 s _ AP.tps.symm st2
            walk_at "run"
            refine iteD (fun ek => ?_) (fun ek => ?_)
            · -- handing on
              refine ⟨_, rfl, tp, ts, 4, rfl, by decide, by decide, j3.tape, fun e H4 e0 e4 t4 c4 => ?_⟩
              obtain ⟨e', rfl⟩ := Int.eq_ofNat_of_zero_le e0
              have j4 := j3.next AP ol t4 c4
              obtain ⟨ns4, i4, r4, z4, ha4, _⟩ := j3.tape
              have S4 := S3.chg c4 AP.tpx.symm ha4 (by rw [ol]; show (4 : Nat) ≠ 8; decide)
              have st4 := c4 s _ AP.tps.symm st3
              obtain ⟨dx2, l2, q1', q2'⟩ := id S4
              refine ⟨_, rfl, x, dx2, _, rfl, q1', rfl, _, rfl, x, os, t, u, h, e', rfl, by omega, S4, fun hn => ?_, fun hn H5 S5 c5 => ?_⟩
              · subst hn
                rcases AB with AB | ⟨hz, _⟩
                · refine ⟨fun σ H' => Hide (∃ v9 : Option V, σ = [some (.ref a), some (.ref tp), some (.ref l), none, some (.ref x), some (.ref s), some (.int (0 + (i : Int))), some (.int kd), some .non, v9, some .non] ∧ J C_Slices tp ts x s l os (i + 1) H'), ?_, ?_⟩
                  · walk_at "run"
                    exact hide ⟨_, rfl, j4.tape, j4.own, t, u, none, S4, st4, hu, by omega, .inl AB⟩
                  · rintro σ H7 hh
                    obtain ⟨v9, rfl, j7⟩ := hh.out
                    walk_at "run"
                    exact hide ⟨_, _, _, _, _, rfl, j7⟩
                · exact absurd rfl hz
              · rcases AB with AB | AB
                · exact absurd AB.1 hn
                · refine ⟨fun σ H' => Hide (∃ v9 : Option V, σ = [some (.ref a), some (.ref tp), some (.ref l), none, some (.ref x), some (.ref s), some (.int (0 + (i : Int))), some (.int kd), some .non, v9, some .non] ∧ J C_Slices tp ts x s l os (i + 1) H'), ?_, ?_⟩
                  · cases h with
                    | none => exact absurd rfl hn
                    | some z =>
                      have st5 := c5 s _ AP.xs.symm st4
                      walk_at "run"
                      try (refine iteDn (fun _ => ?_) (fun q => (by cases q)))
                      walk_at "run"
                      refine hide ⟨_, rfl, (j4.tape.chg c5 AP.tpx AP.tsx).chg Chg.upd AP.tps AP.tss, by rw [upd_ne AP.ls]; exact c5 l _ AP.lx j4.own, t, u, some e', S5.chg Chg.upd AP.xs st5 (by rw [ol]; show (4 : Nat) ≠ 8; decide), upd_same, hu, by omega, .inr ⟨fun q => (by cases q), AB.2⟩⟩
                  · rintro σ H7 hh
                    obtain ⟨v9, rfl, j7⟩ := hh.out
                    walk_at "run"
                    exact hide ⟨_, _, _, _, _, rfl, j7⟩
            · -- giving up, or a unit
              walk_at "run"
              obtain ⟨dx2, l2, q1', q2'⟩ := id S3
              refine iteD (fun e1 => ?_) (fun e1 => ?_)
              · refine ⟨_, rfl, x, dx2, _, rfl, q1', rfl, x, os, t, u, h, rfl, S3, ho, by omega, fun hn => ?_, fun hn => ⟨fun hm => ?_, fun m hm H4 S4 c4 => ?_⟩⟩
                · subst hn
                  rcases AB with AB | ⟨hz, _⟩
                  rotate_left
                  · exact absurd rfl hz
                  refine ⟨fun σ H' => Hide (∃ (o : Option Nat) (v9 : Option V), σ = [some (.ref a), some (.ref tp), some (.ref l), none, some (.ref x), some (.ref s), some (.int (0 + (i : Int))), some (.int kd), some (valO o), v9, some (valO o)] ∧ J C_Slices tp ts x s l os (i + 1) H'), ?_, ?_⟩
                  · walk_at "run"
                    exact hide ⟨none, v9, rfl, j3.tape, j3.own, t, u, none, S3, st3, hu, by omega, .inl AB⟩
                  · rintro σ H7 hh
                    obtain ⟨o, v9, rfl, j7⟩ := hh.out
                    refine ⟨_, rfl, _, rfl, by cases o <;> rfl, _, rfl, ?_⟩
                    rw [show decide (valO o = valO o) = true by simp]
                    exact iteF <| hide ⟨_, _, _, _, _, rfl, j7⟩
                · rcases AB with AB | AB
                  · exact absurd AB.1 hn
                  · obtain ⟨m, hm'⟩ := srch_all AB.2.choose_spec (t + 1)
                    rw [hm'] at hm; cases hm
                · rcases AB with AB | AB
                  · exact absurd AB.1 hn
                  cases h with
                  | none => exact absurd rfl hn
                  | some z =>
                  have own4 := c4 l _ AP.lx j3.own
                  have st4 := c4 s _ AP.xs.symm st3
                  have tp4 := j3.tape.chg c4 AP.tpx AP.tsx
                  refine ⟨fun σ H' => Hide (∃ (o : Option Nat) (v9 : Option V), σ = [some (.ref a), some (.ref tp), some (.ref l), none, some (.ref x), some (.ref s), some (.int (0 + (i : Int))), some (.int kd), some (valO o), v9, some (valO o)] ∧ J C_Slices tp ts x s l os (i + 1) H'), ?_, ?_⟩
                  · walk_at "run"
                    try (refine iteDn (fun _ => ?_) (fun q => (by cases q)))
                    walk_at "run"
                    refine iteD (fun _ => ?_) (fun q => absurd e1 q)
                    walk_at "run"
                    have own5 : (upd H4 s (.lst [.int ((t / 8 : Nat) : Int), .int ((t % 8 : Nat) : Int), .int ((u : Int) + 1), .int (z : Int)])) l = some (.lst (os.map valO)) := by rw [upd_ne AP.ls]; exact own4
                    refine ⟨_, _, _, _, rfl, rfl, SqL.of own5, atC (t % 8) rfl (mapO_get (by rw [ol]; omega)), ?_⟩
                    refine ⟨_, rfl, _, rfl, s, l, os, ((t / 8 : Nat) : Int), ((t % 8 : Nat) : Int), (u : Int) + 1, .int (z : Int), t + 1, m, rfl, upd_same, own5, ho, by omega, by omega, by omega, hm, fun H6 st6 c6 => ?_⟩
                    refine hide ⟨at8 os t, v9, rfl, (tp4.chg Chg.upd AP.tps AP.tss).chg c6 AP.tps AP.tss, c6 l _ AP.ls own5, m, 0, at8 os m, ?_, st6, by omega, ?_, .inr ⟨?_, AB.2⟩⟩
                    · exact (S4.chg Chg.upd AP.xs st4 (by rw [ol]; show (4 : Nat) ≠ 8; decide)).chg c6 AP.xs upd_same (by rw [ol]; show (4 : Nat) ≠ 8; decide)
                    · have := (srch_some hm).2.1; omega
                    · intro q
                      have := (srch_some hm).2.2.1
                      rw [q] at this; cases this
                  · rintro σ H7 hh
                    obtain ⟨o, v9, rfl, j7⟩ := hh.out
                    refine ⟨_, rfl, _, rfl, by cases o <;> rfl, _, rfl, ?_⟩
                    rw [show decide (valO o = valO o) = true by simp]
                    exact iteF <| hide ⟨_, _, _, _, _, rfl, j7⟩
              · refine ⟨_, rfl, x, dx2, _, rfl, q1', rfl, x, os, t, u, h, rfl, S3, ho, by omega, hu, fun hn => ?_, fun hn hu5 H4 S4 c4 => ?_, fun hn hu5 => ⟨fun hm => ?_, fun m hm H4 S4 c4 => ?_⟩⟩
                · subst hn
                  rcases AB with AB | ⟨hz, _⟩
                  rotate_left
                  · exact absurd rfl hz
                  refine ⟨fun σ H' => Hide (∃ (o : Option Nat) (v9 : Option V), σ = [some (.ref a), some (.ref tp), some (.ref l), none, some (.ref x), some (.ref s), some (.int (0 + (i : Int))), some (.int kd), some (valO o), v9, some (valO o)] ∧ J C_Slices tp ts x s l os (i + 1) H'), ?_, ?_⟩
                  · walk_at "run"
                    exact hide ⟨none, v9, rfl, j3.tape, j3.own, t, u, none, S3, st3, hu, by omega, .inl AB⟩
                  · rintro σ H7 hh
                    obtain ⟨o, v9, rfl, j7⟩ := hh.out
                    refine ⟨_, rfl, _, rfl, by cases o <;> rfl, _, rfl, ?_⟩
                    rw [show decide (valO o = valO o) = true by simp]
                    exact iteF <| hide ⟨_, _, _, _, _, rfl, j7⟩
                · rcases AB with AB | AB
                  · exact absurd AB.1 hn
                  cases h with
                  | none => exact absurd rfl hn
                  | some z =>
                  refine ⟨fun σ H' => Hide (∃ (o : Option Nat) (v9 : Option V), σ = [some (.ref a), some (.ref tp), some (.ref l), none, some (.ref x), some (.ref s), some (.int (0 + (i : Int))), some (.int kd), some (valO o), v9, some (valO o)] ∧ J C_Slices tp ts x s l os (i + 1) H'), ?_, ?_⟩
                  · have own4 := c4 l _ AP.lx j3.own
                    have st4 := c4 s _ AP.xs.symm st3
                    have tp4 := j3.tape.chg c4 AP.tpx AP.tsx
                    walk_at "run"
                    try (refine iteDn (fun _ => ?_) (fun q => (by cases q)))
                    walk_at "run"
                    refine iteD (fun q => absurd q e1) (fun _ => ?_)
                    walk_at "run"
                    refine iteD (fun q => ?_) (fun _ => ?_)
                    · exfalso
                      have : (u : Int) + 1 = 6 := by injection q
                      omega
                    · refine hide ⟨none, v9, rfl, tp4.chg Chg.upd AP.tps AP.tss, by rw [upd_ne AP.ls]; exact own4, t, u + 1, some z, S4.chg Chg.upd AP.xs st4 (by rw [ol]; show (4 : Nat) ≠ 8; decide), ?_, by omega, by omega, .inr AB⟩
                      show upd _ _ _ _ = _
                      rw [upd_same]; rfl
                  · rintro σ H7 hh
                    obtain ⟨o, v9, rfl, j7⟩ := hh.out
                    refine ⟨_, rfl, _, rfl, by cases o <;> rfl, _, rfl, ?_⟩
                    rw [show decide (valO o = valO o) = true by simp]
                    exact iteF <| hide ⟨_, _, _, _, _, rfl, j7⟩
                · rcases AB with AB | AB
                  · exact absurd AB.1 hn
                  · obtain ⟨m, hm'⟩ := srch_all AB.2.choose_spec (t + 1)
                    rw [hm'] at hm; cases hm
                · rcases AB with AB | AB
                  · exact absurd AB.1 hn
                  cases h with
                  | none => exact absurd rfl hn
                  | some z =>
                  have own4 := c4 l _ AP.lx j3.own
                  have st4 := c4 s _ AP.xs.symm st3
                  have tp4 := j3.tape.chg c4 AP.tpx AP.tsx
                  refine ⟨fun σ H' => Hide (∃ (o : Option Nat) (v9 : Option V), σ = [some (.ref a), some (.ref tp), some (.ref l), none, some (.ref x), some (.ref s), some (.int (0 + (i : Int))), some (.int kd), some (valO o), v9, some (valO o)] ∧ J C_Slices tp ts x s l os (i + 1) H'), ?_, ?_⟩
                  · walk_at "run"
                    try (refine iteDn (fun _ => ?_) (fun q => (by cases q)))
                    walk_at "run"
                    refine iteD (fun q => absurd q e1) (fun _ => ?_)
                    walk_at "run"
                    refine iteD (fun _ => ?_) (fun q => ?_)
                    rotate_left
                    · exact absurd (by rw [hu5]; rfl) q
                    walk_at "run"
                    have own5 : (upd H4 s (.lst [.int ((t / 8 : Nat) : Int), .int ((t % 8 : Nat) : Int), .int ((u : Int) + 1), .int (z : Int)])) l = some (.lst (os.map valO)) := by rw [upd_ne AP.ls]; exact own4
                    refine ⟨_, _, _, _, rfl, rfl, SqL.of own5, atC (t % 8) rfl (mapO_get (by rw [ol]; omega)), ?_⟩
                    refine ⟨_, rfl, _, rfl, s, l, os, ((t / 8 : Nat) : Int), ((t % 8 : Nat) : Int), (u : Int) + 1, .int (z : Int), t + 1, m, rfl, upd_same, own5, ho, by omega, by omega, by omega, hm, fun H6 st6 c6 => ?_⟩
                    refine hide ⟨at8 os t, v9, rfl, (tp4.chg Chg.upd AP.tps AP.tss).chg c6 AP.tps AP.tss, c6 l _ AP.ls own5, m, 0, at8 os m, ?_, st6, by omega, ?_, .inr ⟨?_, AB.2⟩⟩
                    · exact (S4.chg Chg.upd AP.xs st4 (by rw [ol]; show (4 : Nat) ≠ 8; decide)).chg c6 AP.xs upd_same (by rw [ol]; show (4 : Nat) ≠ 8; decide)
                    · have := (srch_some hm).2.1; omega
                    · intro q
                      have := (srch_some hm).2.2.1
                      rw [q] at this; cases this
                  · rintro σ H7 hh
                    obtain ⟨o, v9, rfl, j7⟩ := hh.out
                    refine ⟨_, rfl, _, rfl, by cases o <;> rfl, _, rfl, ?_⟩
                    rw [show decide (valO o = valO o) = true by simp]
                    exact iteF <| hide ⟨_, _, _, _, _, rfl, j7⟩
          · rintro σ H' hh
            exact k H'
end
end My

namespace My
open PySem L2
/-! ### what the top has written, and the end -/
/-- an error of the class at S is what an except of S names -/
theorem exm_self {K : PySem.W.Frag} {S : Addr} (h1 : PySem.W.subIn K (.ref S) (.type "BaseException") = some true) (h2 : PySem.W.isClsIn K S = true) (h3 : PySem.W.typeIn K (.ref S) = some (.type "type")) (h4 : PySem.W.subIn K (.ref S) (.ref S) = some true) : PySem.W.exmOne K (.ref S) (.ref S) = some true := by
  have e1 : (PySem.W.subIn K (.ref S) (.type "BaseException") == some true) = true := by rw [h1] <;> rfl
  have e2 : ((PySem.W.clsIn K S).isSome && PySem.W.typeIn K (.ref S) == some (.type "type")) = true := by
    have h2' : (PySem.W.clsIn K S).isSome = true := h2
    rw [h2', h3] <;> rfl
  unfold PySem.W.exmOne PySem.W.kitCls
  refine (if_pos e1).trans ((if_pos e2).trans ?_)
  exact h4
theorem all_mk {l : PySem.W.OpenLaw} {w : World} {K : PySem.W.Frag} {h : Heap} {mg : Str → Option Value} {fa : Addr} (X : K.In h) (G : h.Ns mainGlobals mg) (hfa : mg "law" = some (.ref fa))
    {C_Slices C_NotValid : Addr}
    {f_law_next : Addr} {od_law_next an_law_next : Option Addr} {sl_law_next : Array (Option Value)} {oc_law_next kV_law_next dc_law_next pm_law_next cd_law_next ct_law_next : Value}
    {f_is_at_least : Addr} {od_is_at_least an_is_at_least : Option Addr} {sl_is_at_least : Array (Option Value)} {oc_is_at_least kV_is_at_least dc_is_at_least pm_is_at_least cd_is_at_least ct_is_at_least : Value}
    {f_is_between : Addr} {od_is_between an_is_between : Option Addr} {sl_is_between : Array (Option Value)} {oc_is_between kV_is_between dc_is_between pm_is_between cd_is_between ct_is_between : Value}
    {f_is_index : Addr} {od_is_index an_is_index : Option Addr} {sl_is_index : Array (Option Value)} {oc_is_index kV_is_index dc_is_index pm_is_index cd_is_index ct_is_index : Value}
    {f_is_environment : Addr} {od_is_environment an_is_environment : Option Addr} {sl_is_environment : Array (Option Value)} {oc_is_environment kV_is_environment dc_is_environment pm_is_environment cd_is_environment ct_is_environment : Value}
    {f_are_owners : Addr} {od_are_owners an_are_owners : Option Addr} {sl_are_owners : Array (Option Value)} {oc_are_owners kV_are_owners dc_are_owners pm_are_owners cd_are_owners ct_are_owners : Value}
    {f_Slices_running : Addr} {od_Slices_running an_Slices_running : Option Addr} {sl_Slices_running : Array (Option Value)} {oc_Slices_running kV_Slices_running dc_Slices_running pm_Slices_running cd_Slices_running ct_Slices_running : Value}
    {f_Slices_place : Addr} {od_Slices_place an_Slices_place : Option Addr} {sl_Slices_place : Array (Option Value)} {oc_Slices_place kV_Slices_place dc_Slices_place pm_Slices_place cd_Slices_place ct_Slices_place : Value}
    {f_Slices_begin : Addr} {od_Slices_begin an_Slices_begin : Option Addr} {sl_Slices_begin : Array (Option Value)} {oc_Slices_begin kV_Slices_begin dc_Slices_begin pm_Slices_begin cd_Slices_begin ct_Slices_begin : Value}
    {f_Slices_end : Addr} {od_Slices_end an_Slices_end : Option Addr} {sl_Slices_end : Array (Option Value)} {oc_Slices_end kV_Slices_end dc_Slices_end pm_Slices_end cd_Slices_end ct_Slices_end : Value}
    {f_Slices_pass_unit : Addr} {od_Slices_pass_unit an_Slices_pass_unit : Option Addr} {sl_Slices_pass_unit : Array (Option Value)} {oc_Slices_pass_unit kV_Slices_pass_unit dc_Slices_pass_unit pm_Slices_pass_unit cd_Slices_pass_unit ct_Slices_pass_unit : Value}
    {f_Slices_give_up : Addr} {od_Slices_give_up an_Slices_give_up : Option Addr} {sl_Slices_give_up : Array (Option Value)} {oc_Slices_give_up kV_Slices_give_up dc_Slices_give_up pm_Slices_give_up cd_Slices_give_up ct_Slices_give_up : Value}
    {f_Slices_hand_on : Addr} {od_Slices_hand_on an_Slices_hand_on : Option Addr} {sl_Slices_hand_on : Array (Option Value)} {oc_Slices_hand_on kV_Slices_hand_on dc_Slices_hand_on pm_Slices_hand_on cd_Slices_hand_on ct_Slices_hand_on : Value}
    {f_Slices_init : Addr} {od_Slices_init an_Slices_init : Option Addr} {sl_Slices_init : Array (Option Value)} {oc_Slices_init kV_Slices_init dc_Slices_init pm_Slices_init cd_Slices_init ct_Slices_init : Value}
    {f_law_next_slot : Addr} {od_law_next_slot an_law_next_slot : Option Addr} {sl_law_next_slot : Array (Option Value)} {oc_law_next_slot kV_law_next_slot dc_law_next_slot pm_law_next_slot cd_law_next_slot ct_law_next_slot : Value}
    {f_law_refused : Addr} {od_law_refused an_law_refused : Option Addr} {sl_law_refused : Array (Option Value)} {oc_law_refused kV_law_refused dc_law_refused pm_law_refused cd_law_refused ct_law_refused : Value}
    {f_law_fair : Addr} {od_law_fair an_law_fair : Option Addr} {sl_law_fair : Array (Option Value)} {oc_law_fair kV_law_fair dc_law_fair pm_law_fair cd_law_fair ct_law_fair : Value}
    {f_law : Addr} {od_law an_law : Option Addr} {sl_law : Array (Option Value)} {oc_law kV_law dc_law pm_law cd_law ct_law : Value}
    {t_ENVIRONMENTS : Tok}
    {t_SLOTS : Tok}
    {t_UNITS : Tok}
    (a_Slices : PySem.W.nsIn K mainGlobals "Slices" = some (some (.ref C_Slices)))
    (g1_Slices : PySem.W.plainGet K C_Slices Str.empty = true)
    (g2_Slices : PySem.W.hasDictIn K C_Slices = true)
    (g3_Slices : PySem.W.plainOver K C_Slices = true)
    (g4_Slices : PySem.W.findIn K (.ref C_Slices) "__setattr__" = some (some (.builtin "object.__setattr__")))
    (m_Slices : PySem.W.makesIn K C_Slices = true)
    (k_Slices : PySem.W.keepIn K (.ref C_Slices) = true)
    (n_Slices__owners : PySem.W.findIn K (.ref C_Slices) "_owners" = some none)
    (n_Slices__turn : PySem.W.findIn K (.ref C_Slices) "_turn" = some none)
    (n_Slices__unit : PySem.W.findIn K (.ref C_Slices) "_unit" = some none)
    (n_Slices__holder : PySem.W.findIn K (.ref C_Slices) "_holder" = some none)
    (a_NotValid : PySem.W.nsIn K mainGlobals "NotValid" = some (some (.ref C_NotValid)))
    (k_NotValid : PySem.W.keepIn K (.ref C_NotValid) = true)
    (x_NotValid : PySem.W.excIn K C_NotValid [.type "ValueError", .type "Exception", .type "BaseException", .type "object"] "ValueError.__new__" = true)
    (e1_NotValid : PySem.W.subIn K (.ref C_NotValid) (.type "BaseException") = some true)
    (e2_NotValid : PySem.W.isClsIn K C_NotValid = true)
    (e3_NotValid : PySem.W.typeIn K (.ref C_NotValid) = some (.type "type"))
    (e4_NotValid : PySem.W.subIn K (.ref C_NotValid) (.ref C_NotValid) = some true)
    (a_law_next : PySem.W.nsIn K mainGlobals "_law_next" = some (some (.ref f_law_next)))
    (l_law_next : K.lookup f_law_next = some ⟨oc_law_next, od_law_next, .func (PySem.W.fnOf "_law_next" "_law_next" (defArgs s_law_next) (defBody s_law_next) (defScope s_law_next) .none kV_law_next dc_law_next pm_law_next an_law_next cd_law_next ct_law_next), sl_law_next⟩)
    (q_law_next : PySem.W.codeIn K cd_law_next "_law_next" = true)
    (k_law_next : PySem.W.keepIn K (.ref f_law_next) = true)
    (a_is_at_least : PySem.W.nsIn K mainGlobals "is_at_least" = some (some (.ref f_is_at_least)))
    (l_is_at_least : K.lookup f_is_at_least = some ⟨oc_is_at_least, od_is_at_least, .func (PySem.W.fnOf "is_at_least" "is_at_least" (defArgs s_is_at_least) (defBody s_is_at_least) (defScope s_is_at_least) .none kV_is_at_least dc_is_at_least pm_is_at_least an_is_at_least cd_is_at_least ct_is_at_least), sl_is_at_least⟩)
    (q_is_at_least : PySem.W.codeIn K cd_is_at_least "is_at_least" = true)
    (k_is_at_least : PySem.W.keepIn K (.ref f_is_at_least) = true)
    (a_is_between : PySem.W.nsIn K mainGlobals "is_between" = some (some (.ref f_is_between)))
    (l_is_between : K.lookup f_is_between = some ⟨oc_is_between, od_is_between, .func (PySem.W.fnOf "is_between" "is_between" (defArgs s_is_between) (defBody s_is_between) (defScope s_is_between) .none kV_is_between dc_is_between pm_is_between an_is_between cd_is_between ct_is_between), sl_is_between⟩)
    (q_is_between : PySem.W.codeIn K cd_is_between "is_between" = true)
    (k_is_between : PySem.W.keepIn K (.ref f_is_between) = true)
    (a_is_index : PySem.W.nsIn K mainGlobals "is_index" = some (some (.ref f_is_index)))
    (l_is_index : K.lookup f_is_index = some ⟨oc_is_index, od_is_index, .func (PySem.W.fnOf "is_index" "is_index" (defArgs s_is_index) (defBody s_is_index) (defScope s_is_index) .none kV_is_index dc_is_index pm_is_index an_is_index cd_is_index ct_is_index), sl_is_index⟩)
    (q_is_index : PySem.W.codeIn K cd_is_index "is_index" = true)
    (k_is_index : PySem.W.keepIn K (.ref f_is_index) = true)
    (a_is_environment : PySem.W.nsIn K mainGlobals "is_environment" = some (some (.ref f_is_environment)))
    (l_is_environment : K.lookup f_is_environment = some ⟨oc_is_environment, od_is_environment, .func (PySem.W.fnOf "is_environment" "is_environment" (defArgs s_is_environment) (defBody s_is_environment) (defScope s_is_environment) .none kV_is_environment dc_is_environment pm_is_environment an_is_environment cd_is_environment ct_is_environment), sl_is_environment⟩)
    (q_is_environment : PySem.W.codeIn K cd_is_environment "is_environment" = true)
    (k_is_environment : PySem.W.keepIn K (.ref f_is_environment) = true)
    (a_are_owners : PySem.W.nsIn K mainGlobals "_are_owners" = some (some (.ref f_are_owners)))
    (l_are_owners : K.lookup f_are_owners = some ⟨oc_are_owners, od_are_owners, .func (PySem.W.fnOf "_are_owners" "_are_owners" (defArgs s_are_owners) (defBody s_are_owners) (defScope s_are_owners) .none kV_are_owners dc_are_owners pm_are_owners an_are_owners cd_are_owners ct_are_owners), sl_are_owners⟩)
    (q_are_owners : PySem.W.codeIn K cd_are_owners "_are_owners" = true)
    (k_are_owners : PySem.W.keepIn K (.ref f_are_owners) = true)
    (a_Slices_running : PySem.W.findIn K (.ref C_Slices) "running" = some (some (.ref f_Slices_running)))
    (i_Slices_running : PySem.W.isFn K (.ref f_Slices_running) = true)
    (l_Slices_running : K.lookup f_Slices_running = some ⟨oc_Slices_running, od_Slices_running, .func (PySem.W.fnOf "running" "Slices.running" (defArgs s_Slices_running) (defBody s_Slices_running) (defScope s_Slices_running) .none kV_Slices_running dc_Slices_running pm_Slices_running an_Slices_running cd_Slices_running ct_Slices_running), sl_Slices_running⟩)
    (q_Slices_running : PySem.W.codeIn K cd_Slices_running "Slices.running" = true)
    (k_Slices_running : PySem.W.keepIn K (.ref f_Slices_running) = true)
    (a_Slices_place : PySem.W.findIn K (.ref C_Slices) "place" = some (some (.ref f_Slices_place)))
    (i_Slices_place : PySem.W.isFn K (.ref f_Slices_place) = true)
    (l_Slices_place : K.lookup f_Slices_place = some ⟨oc_Slices_place, od_Slices_place, .func (PySem.W.fnOf "place" "Slices.place" (defArgs s_Slices_place) (defBody s_Slices_place) (defScope s_Slices_place) .none kV_Slices_place dc_Slices_place pm_Slices_place an_Slices_place cd_Slices_place ct_Slices_place), sl_Slices_place⟩)
    (q_Slices_place : PySem.W.codeIn K cd_Slices_place "Slices.place" = true)
    (k_Slices_place : PySem.W.keepIn K (.ref f_Slices_place) = true)
    (a_Slices_begin : PySem.W.findIn K (.ref C_Slices) "_begin" = some (some (.ref f_Slices_begin)))
    (i_Slices_begin : PySem.W.isFn K (.ref f_Slices_begin) = true)
    (l_Slices_begin : K.lookup f_Slices_begin = some ⟨oc_Slices_begin, od_Slices_begin, .func (PySem.W.fnOf "_begin" "Slices._begin" (defArgs s_Slices_begin) (defBody s_Slices_begin) (defScope s_Slices_begin) .none kV_Slices_begin dc_Slices_begin pm_Slices_begin an_Slices_begin cd_Slices_begin ct_Slices_begin), sl_Slices_begin⟩)
    (q_Slices_begin : PySem.W.codeIn K cd_Slices_begin "Slices._begin" = true)
    (k_Slices_begin : PySem.W.keepIn K (.ref f_Slices_begin) = true)
    (a_Slices_end : PySem.W.findIn K (.ref C_Slices) "_end" = some (some (.ref f_Slices_end)))
    (i_Slices_end : PySem.W.isFn K (.ref f_Slices_end) = true)
    (l_Slices_end : K.lookup f_Slices_end = some ⟨oc_Slices_end, od_Slices_end, .func (PySem.W.fnOf "_end" "Slices._end" (defArgs s_Slices_end) (defBody s_Slices_end) (defScope s_Slices_end) .none kV_Slices_end dc_Slices_end pm_Slices_end an_Slices_end cd_Slices_end ct_Slices_end), sl_Slices_end⟩)
    (q_Slices_end : PySem.W.codeIn K cd_Slices_end "Slices._end" = true)
    (k_Slices_end : PySem.W.keepIn K (.ref f_Slices_end) = true)
    (a_Slices_pass_unit : PySem.W.findIn K (.ref C_Slices) "pass_unit" = some (some (.ref f_Slices_pass_unit)))
    (i_Slices_pass_unit : PySem.W.isFn K (.ref f_Slices_pass_unit) = true)
    (l_Slices_pass_unit : K.lookup f_Slices_pass_unit = some ⟨oc_Slices_pass_unit, od_Slices_pass_unit, .func (PySem.W.fnOf "pass_unit" "Slices.pass_unit" (defArgs s_Slices_pass_unit) (defBody s_Slices_pass_unit) (defScope s_Slices_pass_unit) .none kV_Slices_pass_unit dc_Slices_pass_unit pm_Slices_pass_unit an_Slices_pass_unit cd_Slices_pass_unit ct_Slices_pass_unit), sl_Slices_pass_unit⟩)
    (q_Slices_pass_unit : PySem.W.codeIn K cd_Slices_pass_unit "Slices.pass_unit" = true)
    (k_Slices_pass_unit : PySem.W.keepIn K (.ref f_Slices_pass_unit) = true)
    (a_Slices_give_up : PySem.W.findIn K (.ref C_Slices) "give_up" = some (some (.ref f_Slices_give_up)))
    (i_Slices_give_up : PySem.W.isFn K (.ref f_Slices_give_up) = true)
    (l_Slices_give_up : K.lookup f_Slices_give_up = some ⟨oc_Slices_give_up, od_Slices_give_up, .func (PySem.W.fnOf "give_up" "Slices.give_up" (defArgs s_Slices_give_up) (defBody s_Slices_give_up) (defScope s_Slices_give_up) .none kV_Slices_give_up dc_Slices_give_up pm_Slices_give_up an_Slices_give_up cd_Slices_give_up ct_Slices_give_up), sl_Slices_give_up⟩)
    (q_Slices_give_up : PySem.W.codeIn K cd_Slices_give_up "Slices.give_up" = true)
    (k_Slices_give_up : PySem.W.keepIn K (.ref f_Slices_give_up) = true)
    (a_Slices_hand_on : PySem.W.findIn K (.ref C_Slices) "hand_on" = some (some (.ref f_Slices_hand_on)))
    (i_Slices_hand_on : PySem.W.isFn K (.ref f_Slices_hand_on) = true)
    (l_Slices_hand_on : K.lookup f_Slices_hand_on = some ⟨oc_Slices_hand_on, od_Slices_hand_on, .func (PySem.W.fnOf "hand_on" "Slices.hand_on" (defArgs s_Slices_hand_on) (defBody s_Slices_hand_on) (defScope s_Slices_hand_on) .none kV_Slices_hand_on dc_Slices_hand_on pm_Slices_hand_on an_Slices_hand_on cd_Slices_hand_on ct_Slices_hand_on), sl_Slices_hand_on⟩)
    (q_Slices_hand_on : PySem.W.codeIn K cd_Slices_hand_on "Slices.hand_on" = true)
    (k_Slices_hand_on : PySem.W.keepIn K (.ref f_Slices_hand_on) = true)
    (a_Slices_init : PySem.W.findIn K (.ref C_Slices) "__init__" = some (some (.ref f_Slices_init)))
    (i_Slices_init : PySem.W.isFn K (.ref f_Slices_init) = true)
    (l_Slices_init : K.lookup f_Slices_init = some ⟨oc_Slices_init, od_Slices_init, .func (PySem.W.fnOf "__init__" "Slices.__init__" (defArgs s_Slices_init) (defBody s_Slices_init) (defScope s_Slices_init) .none kV_Slices_init dc_Slices_init pm_Slices_init an_Slices_init cd_Slices_init ct_Slices_init), sl_Slices_init⟩)
    (q_Slices_init : PySem.W.codeIn K cd_Slices_init "Slices.__init__" = true)
    (k_Slices_init : PySem.W.keepIn K (.ref f_Slices_init) = true)
    (a_law_next_slot : PySem.W.nsIn K mainGlobals "_law_next_slot" = some (some (.ref f_law_next_slot)))
    (l_law_next_slot : K.lookup f_law_next_slot = some ⟨oc_law_next_slot, od_law_next_slot, .func (PySem.W.fnOf "_law_next_slot" "_law_next_slot" (defArgs s_law_next_slot) (defBody s_law_next_slot) (defScope s_law_next_slot) .none kV_law_next_slot dc_law_next_slot pm_law_next_slot an_law_next_slot cd_law_next_slot ct_law_next_slot), sl_law_next_slot⟩)
    (q_law_next_slot : PySem.W.codeIn K cd_law_next_slot "_law_next_slot" = true)
    (k_law_next_slot : PySem.W.keepIn K (.ref f_law_next_slot) = true)
    (a_law_refused : PySem.W.nsIn K mainGlobals "_law_refused" = some (some (.ref f_law_refused)))
    (l_law_refused : K.lookup f_law_refused = some ⟨oc_law_refused, od_law_refused, .func (PySem.W.fnOf "_law_refused" "_law_refused" (defArgs s_law_refused) (defBody s_law_refused) (defScope s_law_refused) .none kV_law_refused dc_law_refused pm_law_refused an_law_refused cd_law_refused ct_law_refused), sl_law_refused⟩)
    (q_law_refused : PySem.W.codeIn K cd_law_refused "_law_refused" = true)
    (k_law_refused : PySem.W.keepIn K (.ref f_law_refused) = true)
    (a_law_fair : PySem.W.nsIn K mainGlobals "_law_fair" = some (some (.ref f_law_fair)))
    (l_law_fair : K.lookup f_law_fair = some ⟨oc_law_fair, od_law_fair, .func (PySem.W.fnOf "_law_fair" "_law_fair" (defArgs s_law_fair) (defBody s_law_fair) (defScope s_law_fair) .none kV_law_fair dc_law_fair pm_law_fair an_law_fair cd_law_fair ct_law_fair), sl_law_fair⟩)
    (q_law_fair : PySem.W.codeIn K cd_law_fair "_law_fair" = true)
    (k_law_fair : PySem.W.keepIn K (.ref f_law_fair) = true)
    (a_law : PySem.W.nsIn K mainGlobals "law" = some (some (.ref f_law)))
    (l_law : K.lookup f_law = some ⟨oc_law, od_law, .func (PySem.W.fnOf "law" "law" (defArgs s_law) (defBody s_law) (defScope s_law) .none kV_law dc_law pm_law an_law cd_law ct_law), sl_law⟩)
    (q_law : PySem.W.codeIn K cd_law "law" = true)
    (k_law : PySem.W.keepIn K (.ref f_law) = true)
    (z_abs : PySem.W.nsIn K mainGlobals "abs" = some none)
    (z_all : PySem.W.nsIn K mainGlobals "all" = some none)
    (z_bool : PySem.W.nsIn K mainGlobals "bool" = some none)
    (z_int : PySem.W.nsIn K mainGlobals "int" = some none)
    (z_isinstance : PySem.W.nsIn K mainGlobals "isinstance" = some none)
    (z_len : PySem.W.nsIn K mainGlobals "len" = some none)
    (z_list : PySem.W.nsIn K mainGlobals "list" = some none)
    (z_range : PySem.W.nsIn K mainGlobals "range" = some none)
    (y_ENVIRONMENTS : PySem.W.nsIn K mainGlobals "ENVIRONMENTS" = some (some (.int 4 t_ENVIRONMENTS)))
    (y_SLOTS : PySem.W.nsIn K mainGlobals "SLOTS" = some (some (.int 8 t_SLOTS)))
    (y_UNITS : PySem.W.nsIn K mainGlobals "UNITS" = some (some (.int 6 t_UNITS))) :
    ∃ fd : FuncData, (∀ (s : Shared) (v : Value), BindsTo s fd ⟨[v], []⟩ [("script", v)]) ∧ ∀ base : Heap, K.In base → base.Ns mainGlobals mg → FnOk l.prog w K mg base CX0 9 fa fd ["script"] (spLaw K) := by
  have e := hfa.symm.trans (PySem.W.mg_of X G a_law)
  cases e
  have T : Txt K mg C_Slices C_NotValid := ⟨PySem.W.mg_none_of X G z_abs, PySem.W.mg_none_of X G z_all, PySem.W.mg_none_of X G z_bool, PySem.W.mg_none_of X G z_int, PySem.W.mg_none_of X G z_isinstance, PySem.W.mg_none_of X G z_len, PySem.W.mg_none_of X G z_list, PySem.W.mg_none_of X G z_range, ⟨_, PySem.W.mg_of X G y_ENVIRONMENTS⟩, ⟨_, PySem.W.mg_of X G y_SLOTS⟩, ⟨_, PySem.W.mg_of X G y_UNITS⟩, ⟨PySem.W.mg_of X G a_NotValid, k_NotValid, x_NotValid, e1_NotValid, e3_NotValid, exm_self e1_NotValid e2_NotValid e3_NotValid e4_NotValid⟩, ⟨g1_Slices, g2_Slices, g3_Slices, g4_Slices⟩, n_Slices__owners, n_Slices__turn, n_Slices__unit, n_Slices__holder⟩
  have F_law_next := fun_mk (st := s_law_next) l_law_next q_law_next k_law_next
  have B_law_next := F_law_next.binds (ps := ["tape", "many"]) fun _ _ _ _ _ _ us hl => match us, hl with | [_, _], _ => rfl
  have F_is_at_least := fun_mk (st := s_is_at_least) l_is_at_least q_is_at_least k_is_at_least
  have B_is_at_least := F_is_at_least.binds (ps := ["value", "least"]) fun _ _ _ _ _ _ us hl => match us, hl with | [_, _], _ => rfl
  have F_is_between := fun_mk (st := s_is_between) l_is_between q_is_between k_is_between
  have B_is_between := F_is_between.binds (ps := ["value", "least", "most"]) fun _ _ _ _ _ _ us hl => match us, hl with | [_, _, _], _ => rfl
  have F_is_index := fun_mk (st := s_is_index) l_is_index q_is_index k_is_index
  have B_is_index := F_is_index.binds (ps := ["value", "many"]) fun _ _ _ _ _ _ us hl => match us, hl with | [_, _], _ => rfl
  have F_is_environment := fun_mk (st := s_is_environment) l_is_environment q_is_environment k_is_environment
  have B_is_environment := F_is_environment.binds (ps := ["value"]) fun _ _ _ _ _ _ us hl => match us, hl with | [_], _ => rfl
  have F_are_owners := fun_mk (st := s_are_owners) l_are_owners q_are_owners k_are_owners
  have B_are_owners := F_are_owners.binds (ps := ["value"]) fun _ _ _ _ _ _ us hl => match us, hl with | [_], _ => rfl
  have F_Slices_running := fun_mk (st := s_Slices_running) l_Slices_running q_Slices_running k_Slices_running
  have B_Slices_running := F_Slices_running.binds (ps := ["self"]) fun _ _ _ _ _ _ us hl => match us, hl with | [_], _ => rfl
  have F_Slices_place := fun_mk (st := s_Slices_place) l_Slices_place q_Slices_place k_Slices_place
  have B_Slices_place := F_Slices_place.binds (ps := ["self"]) fun _ _ _ _ _ _ us hl => match us, hl with | [_], _ => rfl
  have F_Slices_begin := fun_mk (st := s_Slices_begin) l_Slices_begin q_Slices_begin k_Slices_begin
  have B_Slices_begin := F_Slices_begin.binds (ps := ["self", "turn"]) fun _ _ _ _ _ _ us hl => match us, hl with | [_, _], _ => rfl
  have F_Slices_end := fun_mk (st := s_Slices_end) l_Slices_end q_Slices_end k_Slices_end
  have B_Slices_end := F_Slices_end.binds (ps := ["self"]) fun _ _ _ _ _ _ us hl => match us, hl with | [_], _ => rfl
  have F_Slices_pass_unit := fun_mk (st := s_Slices_pass_unit) l_Slices_pass_unit q_Slices_pass_unit k_Slices_pass_unit
  have B_Slices_pass_unit := F_Slices_pass_unit.binds (ps := ["self"]) fun _ _ _ _ _ _ us hl => match us, hl with | [_], _ => rfl
  have F_Slices_give_up := fun_mk (st := s_Slices_give_up) l_Slices_give_up q_Slices_give_up k_Slices_give_up
  have B_Slices_give_up := F_Slices_give_up.binds (ps := ["self"]) fun _ _ _ _ _ _ us hl => match us, hl with | [_], _ => rfl
  have F_Slices_hand_on := fun_mk (st := s_Slices_hand_on) l_Slices_hand_on q_Slices_hand_on k_Slices_hand_on
  have B_Slices_hand_on := F_Slices_hand_on.binds (ps := ["self", "environment"]) fun _ _ _ _ _ _ us hl => match us, hl with | [_, _], _ => rfl
  have F_Slices_init := fun_mk (st := s_Slices_init) l_Slices_init q_Slices_init k_Slices_init
  have B_Slices_init := F_Slices_init.binds (ps := ["self", "owners"]) fun _ _ _ _ _ _ us hl => match us, hl with | [_, _], _ => rfl
  have F_law_next_slot := fun_mk (st := s_law_next_slot) l_law_next_slot q_law_next_slot k_law_next_slot
  have B_law_next_slot := F_law_next_slot.binds (ps := ["state", "owners"]) fun _ _ _ _ _ _ us hl => match us, hl with | [_, _], _ => rfl
  have F_law_refused := fun_mk (st := s_law_refused) l_law_refused q_law_refused k_law_refused
  have B_law_refused := F_law_refused.binds (ps := ["owners"]) fun _ _ _ _ _ _ us hl => match us, hl with | [_], _ => rfl
  have F_law_fair := fun_mk (st := s_law_fair) l_law_fair q_law_fair k_law_fair
  have B_law_fair := F_law_fair.binds (ps := ["owners"]) fun _ _ _ _ _ _ us hl => match us, hl with | [_], _ => rfl
  have F_law := fun_mk (st := s_law) l_law q_law k_law
  refine ⟨PySem.W.fnOf "law" "law" (defArgs s_law) (defBody s_law) (defScope s_law) .none kV_law dc_law pm_law an_law cd_law ct_law, fun s v => .of_eq rfl, fun base _ _ => ?_⟩
  have D_law_next : Dfn l.prog w K mg base CX0 1 "_law_next" ["tape", "many"] spNext := ⟨f_law_next, _, ok_law_next F_law_next T , PySem.W.mg_of X G a_law_next, k_law_next, B_law_next⟩
  have D_is_at_least : Dfn l.prog w K mg base CX0 1 "is_at_least" ["value", "least"] spGe := ⟨f_is_at_least, _, ok_is_at_least F_is_at_least T , PySem.W.mg_of X G a_is_at_least, k_is_at_least, B_is_at_least⟩
  have D_is_between : Dfn l.prog w K mg base CX0 2 "is_between" ["value", "least", "most"] spBtw := ⟨f_is_between, _, ok_is_between F_is_between T D_is_at_least, PySem.W.mg_of X G a_is_between, k_is_between, B_is_between⟩
  have D_is_index : Dfn l.prog w K mg base CX0 3 "is_index" ["value", "many"] spIdx := ⟨f_is_index, _, ok_is_index F_is_index T D_is_between, PySem.W.mg_of X G a_is_index, k_is_index, B_is_index⟩
  have D_is_environment : Dfn l.prog w K mg base CX0 4 "is_environment" ["value"] spEnv := ⟨f_is_environment, _, ok_is_environment F_is_environment T D_is_index, PySem.W.mg_of X G a_is_environment, k_is_environment, B_is_environment⟩
  have D_are_owners : Dfn l.prog w K mg base CX0 5 "_are_owners" ["value"] spAre := ⟨f_are_owners, _, ok_are_owners F_are_owners T D_is_environment, PySem.W.mg_of X G a_are_owners, k_are_owners, B_are_owners⟩
  have D_Slices_running : Mth l.prog w K mg base CX0 1 C_Slices "running" ["self"] (spRun C_Slices) := ⟨f_Slices_running, _, ok_Slices_running F_Slices_running T , ⟨a_Slices_running, i_Slices_running, k_Slices_running⟩, B_Slices_running, T.o_Slices⟩
  have D_Slices_place : Mth l.prog w K mg base CX0 1 C_Slices "place" ["self"] (spPlace C_Slices) := ⟨f_Slices_place, _, ok_Slices_place F_Slices_place T , ⟨a_Slices_place, i_Slices_place, k_Slices_place⟩, B_Slices_place, T.o_Slices⟩
  have D_Slices_begin : Mth l.prog w K mg base CX0 1 C_Slices "_begin" ["self", "turn"] (spBegin C_Slices) := ⟨f_Slices_begin, _, ok_Slices_begin F_Slices_begin T , ⟨a_Slices_begin, i_Slices_begin, k_Slices_begin⟩, B_Slices_begin, T.o_Slices⟩
  have D_Slices_end : Mth l.prog w K mg base CX0 2 C_Slices "_end" ["self"] (spEnd C_Slices) := ⟨f_Slices_end, _, ok_Slices_end F_Slices_end T D_Slices_begin, ⟨a_Slices_end, i_Slices_end, k_Slices_end⟩, B_Slices_end, T.o_Slices⟩
  have D_Slices_pass_unit : Mth l.prog w K mg base CX0 3 C_Slices "pass_unit" ["self"] (spPass C_Slices) := ⟨f_Slices_pass_unit, _, ok_Slices_pass_unit F_Slices_pass_unit T D_Slices_end, ⟨a_Slices_pass_unit, i_Slices_pass_unit, k_Slices_pass_unit⟩, B_Slices_pass_unit, T.o_Slices⟩
  have D_Slices_give_up : Mth l.prog w K mg base CX0 3 C_Slices "give_up" ["self"] (spGive C_Slices) := ⟨f_Slices_give_up, _, ok_Slices_give_up F_Slices_give_up T D_Slices_end, ⟨a_Slices_give_up, i_Slices_give_up, k_Slices_give_up⟩, B_Slices_give_up, T.o_Slices⟩
  have D_Slices_hand_on : Mth l.prog w K mg base (L2.CX l.prog w) 5 C_Slices "hand_on" ["self", "environment"] (spHand C_Slices) := ⟨f_Slices_hand_on, _, ok_Slices_hand_on F_Slices_hand_on T D_is_environment, ⟨a_Slices_hand_on, i_Slices_hand_on, k_Slices_hand_on⟩, B_Slices_hand_on, T.o_Slices⟩
  have M_Slices : Mkr l.prog w K mg base (L2.CX l.prog w) 6 "Slices" C_Slices ["self", "owners"] (spInit C_Slices C_NotValid) := ⟨f_Slices_init, _, ⟨m_Slices, a_Slices_init, i_Slices_init, k_Slices⟩, ok_Slices_init F_Slices_init T D_are_owners D_Slices_begin, B_Slices_init, PySem.W.mg_of X G a_Slices⟩
  have D_law_next_slot : Dfn l.prog w K mg base CX0 1 "_law_next_slot" ["state", "owners"] spNextSlot := ⟨f_law_next_slot, _, ok_law_next_slot F_law_next_slot T , PySem.W.mg_of X G a_law_next_slot, k_law_next_slot, B_law_next_slot⟩
  have D_law_refused : Dfn l.prog w K mg base CX0 8 "_law_refused" ["owners"] spRefused := ⟨f_law_refused, _, ok_law_refused F_law_refused T M_Slices, PySem.W.mg_of X G a_law_refused, k_law_refused, B_law_refused⟩
  have D_law_fair : Dfn l.prog w K mg base CX0 8 "_law_fair" ["owners"] spFair := ⟨f_law_fair, _, ok_law_fair F_law_fair T M_Slices D_Slices_running D_Slices_pass_unit, PySem.W.mg_of X G a_law_fair, k_law_fair, B_law_fair⟩
  exact ok_law F_law T D_law_next M_Slices D_law_refused D_law_fair D_law_next_slot D_Slices_running D_Slices_place D_Slices_hand_on D_Slices_give_up D_Slices_pass_unit
theorem walk {l : PySem.W.OpenLaw} {q : Program} {loose : List Str} {XP : (Str → Option Value) → Heap → Prop} {YP : World → Heap → Prop} {d : DefRec} {K : Params → PySem.W.Frag} (hn : l.most = some 63) (hdf : d.params.defaults = [])
    (hY : ∀ (w : World) (h : Heap), YP w h → (K w.params).In h)
    (F : ∀ (w : World) (mg : Str → Option Value) (fa : Addr) (h : Heap), (K w.params).In h → h.Ns mainGlobals mg → mg d.name = some (.ref fa) →
      ∃ fd : FuncData, (∀ (s : Shared) (u : Value), BindsTo s fd ⟨[u], []⟩ [("script", u)]) ∧ ∀ base : Heap, (K w.params).In base → base.Ns mainGlobals mg → FnOk l.prog w (K w.params) mg base CX0 9 fa fd ["script"] (spLaw (K w.params))) :
    PySem.W.WalkO q loose XP YP l.row.toRowW d [] (fun f vs => PySem.call f vs) :=
  L2.walk_of (n := 63) (k := 9) (x := "script") (CX := fun _ => CX0) (sp := fun w => spLaw (K w.params)) hn (by decide) hdf ⟨rfl, by decide, by decide⟩ hY F (fun _ _ a ns hl _ hS => ⟨a, ns, rfl, hS, fun _ => rfl⟩) fun _ _ _ _ _ z => z
end My
open PySem PySem.W PyProof.Rows in
set_option maxRecDepth 100000 in
set_option maxHeartbeats 0 in
theorem PySem.Challenge.cw_steadhold_k31_slices_of_time_holds : PySem.Challenge.rw_steadhold_k31_slices_of_time.Holds := by
  w_on; o_law; k_head; (case hw => w_witness2)
  k_fill
  refine My.walk (l := PySem.Challenge.rw_steadhold_k31_slices_of_time) rfl rfl (fun w h Y => PySem.W.kIn_of Y) ?F
  case F =>
    intro w mg fa h KX G hmg
    refine' My.all_mk KX G hmg ?a_Slices ?g1_Slices ?g2_Slices ?g3_Slices ?g4_Slices ?m_Slices ?k_Slices ?n_Slices__owners ?n_Slices__turn ?n_Slices__unit ?n_Slices__holder ?a_NotValid ?k_NotValid ?x_NotValid ?e1_NotValid ?e2_NotValid ?e3_NotValid ?e4_NotValid ?a_law_next ?l_law_next ?q_law_next ?k_law_next ?a_is_at_least ?l_is_at_least ?q_is_at_least ?k_is_at_least ?a_is_between ?l_is_between ?q_is_between ?k_is_between ?a_is_index ?l_is_index ?q_is_index ?k_is_index ?a_is_environment ?l_is_environment ?q_is_environment ?k_is_environment ?a_are_owners ?l_are_owners ?q_are_owners ?k_are_owners ?a_Slices_running ?i_Slices_running ?l_Slices_running ?q_Slices_running ?k_Slices_running ?a_Slices_place ?i_Slices_place ?l_Slices_place ?q_Slices_place ?k_Slices_place ?a_Slices_begin ?i_Slices_begin ?l_Slices_begin ?q_Slices_begin ?k_Slices_begin ?a_Slices_end ?i_Slices_end ?l_Slices_end ?q_Slices_end ?k_Slices_end ?a_Slices_pass_unit ?i_Slices_pass_unit ?l_Slices_pass_unit ?q_Slices_pass_unit ?k_Slices_pass_unit ?a_Slices_give_up ?i_Slices_give_up ?l_Slices_give_up ?q_Slices_give_up ?k_Slices_give_up ?a_Slices_hand_on ?i_Slices_hand_on ?l_Slices_hand_on ?q_Slices_hand_on ?k_Slices_hand_on ?a_Slices_init ?i_Slices_init ?l_Slices_init ?q_Slices_init ?k_Slices_init ?a_law_next_slot ?l_law_next_slot ?q_law_next_slot ?k_law_next_slot ?a_law_refused ?l_law_refused ?q_law_refused ?k_law_refused ?a_law_fair ?l_law_fair ?q_law_fair ?k_law_fair ?a_law ?l_law ?q_law ?k_law ?z_abs ?z_all ?z_bool ?z_int ?z_isinstance ?z_len ?z_list ?z_range ?y_ENVIRONMENTS ?y_SLOTS ?y_UNITS
    (case a_Slices => k_is)
    (case g1_Slices => k_is)
    (case g2_Slices => k_is)
    (case g3_Slices => k_is)
    (case g4_Slices => k_is)
    (case m_Slices => k_is)
    (case k_Slices => k_is)
    (case n_Slices__owners => k_is)
    (case n_Slices__turn => k_is)
    (case n_Slices__unit => k_is)
    (case n_Slices__holder => k_is)
    (case a_NotValid => k_is)
    (case k_NotValid => k_is)
    (case x_NotValid => k_exc)
    (case e1_NotValid => k_is)
    (case e2_NotValid => k_is)
    (case e3_NotValid => k_is)
    (case e4_NotValid => first | rfl | k_is)
    (case a_law_next => k_is)
    (case l_law_next => k_is)
    (case q_law_next => k_is)
    (case k_law_next => k_is)
    (case a_is_at_least => k_is)
    (case l_is_at_least => k_is)
    (case q_is_at_least => k_is)
    (case k_is_at_least => k_is)
    (case a_is_between => k_is)
    (case l_is_between => k_is)
    (case q_is_between => k_is)
    (case k_is_between => k_is)
    (case a_is_index => k_is)
    (case l_is_index => k_is)
    (case q_is_index => k_is)
    (case k_is_index => k_is)
    (case a_is_environment => k_is)
    (case l_is_environment => k_is)
    (case q_is_environment => k_is)
    (case k_is_environment => k_is)
    (case a_are_owners => k_is)
    (case l_are_owners => k_is)
    (case q_are_owners => k_is)
    (case k_are_owners => k_is)
    (case a_Slices_running => k_is)
    (case i_Slices_running => k_is)
    (case l_Slices_running => k_is)
    (case q_Slices_running => k_is)
    (case k_Slices_running => k_is)
    (case a_Slices_place => k_is)
    (case i_Slices_place => k_is)
    (case l_Slices_place => k_is)
    (case q_Slices_place => k_is)
    (case k_Slices_place => k_is)
    (case a_Slices_begin => k_is)
    (case i_Slices_begin => k_is)
    (case l_Slices_begin => k_is)
    (case q_Slices_begin => k_is)
    (case k_Slices_begin => k_is)
    (case a_Slices_end => k_is)
    (case i_Slices_end => k_is)
    (case l_Slices_end => k_is)
    (case q_Slices_end => k_is)
    (case k_Slices_end => k_is)
    (case a_Slices_pass_unit => k_is)
    (case i_Slices_pass_unit => k_is)
    (case l_Slices_pass_unit => k_is)
    (case q_Slices_pass_unit => k_is)
    (case k_Slices_pass_unit => k_is)
    (case a_Slices_give_up => k_is)
    (case i_Slices_give_up => k_is)
    (case l_Slices_give_up => k_is)
    (case q_Slices_give_up => k_is)
    (case k_Slices_give_up => k_is)
    (case a_Slices_hand_on => k_is)
    (case i_Slices_hand_on => k_is)
    (case l_Slices_hand_on => k_is)
    (case q_Slices_hand_on => k_is)
    (case k_Slices_hand_on => k_is)
    (case a_Slices_init => k_is)
    (case i_Slices_init => k_is)
    (case l_Slices_init => k_is)
    (case q_Slices_init => k_is)
    (case k_Slices_init => k_is)
    (case a_law_next_slot => k_is)
    (case l_law_next_slot => k_is)
    (case q_law_next_slot => k_is)
    (case k_law_next_slot => k_is)
    (case a_law_refused => k_is)
    (case l_law_refused => k_is)
    (case q_law_refused => k_is)
    (case k_law_refused => k_is)
    (case a_law_fair => k_is)
    (case l_law_fair => k_is)
    (case q_law_fair => k_is)
    (case k_law_fair => k_is)
    (case a_law => k_is)
    (case l_law => k_is)
    (case q_law => k_is)
    (case k_law => k_is)
    (case z_abs => k_is)
    (case z_all => k_is)
    (case z_bool => k_is)
    (case z_int => k_is)
    (case z_isinstance => k_is)
    (case z_len => k_is)
    (case z_list => k_is)
    (case z_range => k_is)
    (case y_ENVIRONMENTS => k_is)
    (case y_SLOTS => k_is)
    (case y_UNITS => k_is)
