import PyProof.Rows.All
import Wide.All
import OpenK.AllK
import Wide.FinOn
import HandS.ForMost
import HandS.IsInst
import HandS.Exc
import HandS.TryOnly
import HandS.ExcOwn
import HandS.WordsExc
import HandS.RaiseMore
import HandS.Codes
import HandS.TupAny
import KE.GoesZip
import KE.GoesMore
import HandS.Zip
import HandS.Walk
import HandS.Style
import HandS.WideBits
import HandS.TupMul
import PySem.Challenge.RW_steadhold_k41_instructions_that_touch_re
set_option Elab.async false
set_option linter.all false
set_option maxRecDepth 100000
set_option maxHeartbeats 4000000
namespace My
open PySem L2
/-! ### rules that the layer lacks -/
section
variable {X : Cx}
/-- xs[i] as the read of xs[i] op= e -/
theorem get_list : PGet X (rIxL X.K) := fun pins s0 σ H o1 o2 u1 u2 Q I r1 r2 hh => by
  obtain ⟨l, xs, n, z, e1, e2, hl, hn, q⟩ := hh
  subst e1; subst e2
  cases r1
  obtain ⟨tk, e3⟩ := r2
  subst e3
  obtain ⟨us, rel, pll, _⟩ := I.list hl
  obtain ⟨j, c1, c2, _, c4, c5⟩ := atI_get hn
  obtain ⟨u, hu, ru⟩ := rel.get c2
  have len := rel.length
  have big := line63
  have goal : EP X pins σ Q u s0 := ⟨z, H, I, ru, q⟩
  rcases Int.lt_or_le n 0 with neg | pos
  · have hj : (n + (us.toArray.size : Int)).toNat = j := by
      rw [seqIndex_neg neg c4] at c1
      have c1' := Option.some.inj c1
      simpa [← len] using c1'
    exact PySem.wpAny_getItem_list_neg pll.isList neg (by simp; omega) (by omega) (by rw [hj]; simpa using hu) goal
  · have hj : n.toNat = j := by
      rw [seqIndex_of pos c5] at c1
      exact Option.some.inj c1
    exact PySem.wpAny_getItem_list pll.isList pos (by omega) (by rw [hj]; simpa using hu) goal
/-- a module's int, text -/
theorem pe_gint {x : Str} {i : Int} {pos : Pos} (hg : Gl X x) (hm : ∃ t, X.mg x = some (.int i t)) (hd : (x == ("__debug__" : Str)) = false := by decide) : PE X (.Name x pos) (tC (.int i)) := by
  obtain ⟨t, hm⟩ := hm
  exact pe_glob hg hm ⟨t, rfl⟩ hd
theorem pe_gstr {x i : Str} {pos : Pos} (hg : Gl X x) (hm : ∃ t, X.mg x = some (.str i t)) (hd : (x == ("__debug__" : Str)) = false := by decide) : PE X (.Name x pos) (tC (.str i)) := by
  obtain ⟨t, hm⟩ := hm
  exact pe_glob hg hm ⟨t, rfl⟩ hd
end
/-! ### rules with the written part named -/
def rLen (K : PySem.W.Frag) : List V → Hp → VK → Prop := fun xs H Q => ∃ p ys, xs = [.ref p] ∧ (SqL K H p ys ∨ SqT K H p ys) ∧ Q (.int ys.length) H
def rListOf (K : PySem.W.Frag) : List V → Hp → VK → Prop := fun xs H Q => ∃ p ys, xs = [.ref p] ∧ (SqL K H p ys ∨ SqT K H p ys) ∧ ∀ l, H l = none → Q (.ref l) (upd H l (.lst ys))
def rTupOf (K : PySem.W.Frag) : List V → Hp → VK → Prop := fun xs H Q => ∃ p ys, xs = [.ref p] ∧ ((SqL K H p ys ∧ ∀ l, H l = none → Q (.ref l) (upd H l (.tup ys))) ∨ (SqT K H p ys ∧ Q (.ref p) H))
section
variable {X : Cx} (K : PySem.W.Frag)
theorem kIxL (h : X.K = K := by rfl) : IxR X (rIxL K) := by subst h; exact ix_list
theorem kIxT (h : X.K = K := by rfl) : IxR X (rIxT K) := by subst h; exact ix_tup
theorem kGetL (h : X.K = K := by rfl) : PGet X (rIxL K) := by subst h; exact get_list
theorem kSlL (h : X.K = K := by rfl) : SlR X (rSlL K) := by subst h; exact sl_list
theorem kSlT (h : X.K = K := by rfl) : SlR X (rSlA K) := by subst h; exact sl_tupA
theorem kEqD (hu : X.A.units + 64 < cLine) (h : X.K = K := by rfl) : OpR X (compareOp .Eq) (rEqD K) := by subst h; exact op_eqD hu
theorem kNeD (hu : X.A.units + 64 < cLine) (h : X.K = K := by rfl) : OpR X (compareOp .NotEq) (rNeD K) := by subst h; exact op_neD hu
theorem kIn (h : X.K = K := by rfl) : OpR X (compareOp .In) (rIn K false) := by subst h; exact op_in_seq
theorem kNotIn (h : X.K = K := by rfl) : OpR X (compareOp .NotIn) (rIn K true) := by subst h; exact op_notIn_seq
theorem kCatT (h : X.K = K := by rfl) : OpR X (binaryOp .Add) (rCatA K) := by subst h; exact op_catA
theorem kLen (h : X.K = K := by rfl) : CallR X (.builtin "len") (rLen K) := by subst h; exact call_len_seq
theorem kListOf (h : X.K = K := by rfl) : CallR X (.type "list") (rListOf K) := by subst h; exact call_list_of
theorem kTupOf (h : X.K = K := by rfl) : CallR X (.type "tuple") (rTupOf K) := by subst h; exact call_tuple_of
theorem kIsi (h : X.K = K := by rfl) : CallR X (.builtin "isinstance") (rIsi K) := by subst h; exact call_isi
theorem kAll (hc : X.calm = true) (h : X.K = K := by rfl) : CallR X (.builtin "all") (rAll K) := by subst h; exact cr_all hc
theorem kAny (hc : X.calm = true) (h : X.K = K := by rfl) : CallR X (.builtin "any") (rAny K) := by subst h; exact cr_any hc
theorem kSum (hc : X.calm = true) (h : X.K = K := by rfl) : CallR X (.builtin "sum") (rSum K) := by subst h; exact cr_sum hc
theorem kSorted (h : X.K = K := by rfl) : CallR X (.builtin "sorted") (rSorted K) := by subst h; exact cr_sorted
theorem kIndex (h : X.K = K := by rfl) : MtR X "list.index" (rIndex K) := by subst h; exact mt_index
section
variable {tg l : Expr} {tl : TE} {pos : Pos}
theorem kpiL (hl : PE X l tl) (h : X.K = K := by rfl) : PI X tg l (iList K tl) := by subst h; exact pi_list hl
theorem kpiT (hl : PE X l tl) (h : X.K = K := by rfl) : PI X tg l (iTup K tl) := by subst h; exact pi_tup hl
theorem kpgT {es : List Expr} {k : Nat} {t : TGs} {n : Nat} (hc : X.calm = true) (hh : PGs X es t)
    (hn : (assignEach es X.env).length = n := by rfl) (hst : (assignEach es X.env).findIdx? (·.1) = none := by rfl) (h : X.K = K := by rfl) : PG X (.Tuple es k pos) (gTup K n t) := by subst h; exact pg_tup hc hh hn hst
theorem kBM0 {o : Expr} {to : TE} {name : Str} {apos cpos : Pos} {T id : String} {r : V → List V → Hp → VK → Prop} (pa : PlainAttrs T) (slot : Slot T name id) (hty : typeOf (.builtin id) = pure (.type "method_descriptor")) (hm : MtR X id r) (ho : PE X o to)
    (hbase : attributeBase o name X.env (eval o X.env) = eval o X.env := by rfl) (hline : (apos.endLine == cpos.line) = true := by rfl) (h : X.K = K := by rfl) : PE X (.Call (.Attribute o name apos) [] [] cpos) (tBM0 K T r to) := by
  subst h; exact pe_bm0 pa slot hty hm ho hbase hline
theorem kBM {o e : Expr} {es : List Expr} {to : TE} {t : TA} {name : Str} {apos cpos : Pos} {T id : String} {r : V → List V → Hp → VK → Prop} (pa : PlainAttrs T) (slot : Slot T name id) (hty : typeOf (.builtin id) = pure (.type "method_descriptor")) (hm : MtR X id r) (ho : PE X o to) (ha : PA X (e :: es) t)
    (hbase : attributeBase o name X.env (eval o X.env) = eval o X.env := by rfl)
    (hfew : ((backTo cpos (starEach (e :: es) X.env)).all (fun x => !x.1) && (backToKw cpos (keywordEach [] X.env)).all (fun x => x.1.isSome)
      && decide ((e :: es).length + ([] : List Keyword).length + (if ([] : List Keyword).isEmpty then 0 else 1) < 30)) = true := by rfl)
    (hline : (apos.endLine == cpos.line) = true := by rfl) (hs : starEach (e :: es) X.env = (false, eval e X.env) :: starEach es X.env := by rfl) (hplain : (backTo cpos (starEach es X.env)).any (·.1) = false := by rfl) (h : X.K = K := by rfl) :
    PE X (.Call (.Attribute o name apos) (e :: es) [] cpos) (tBM K T r to t) := by
  subst h; exact pe_bm pa slot hty hm ho ha hbase hfew hline hs hplain
theorem kSFld {o value : Expr} {f : Str} {pos' : Pos} {ta tv : TE} (ha : PE X o ta) (hv : PE X value tv) (hs : swapsWith value (some (.Attribute o f pos')) pos.line X.env = pure false) (h : X.K = K := by rfl) : PS X (.Assign [.Attribute o f pos'] value pos) (sFld K ta tv f) := by subst h; exact ps_fld ha hv hs
theorem kSFldA {o value : Expr} {f : Str} {tpos : Pos} {ta tv : TE} {op : Operator} {rd : V → V → Hp → VK → Prop} (ha : PE X o ta) (hv : PE X value tv) (hop : InOp X op rd) (h : X.K = K := by rfl) : PS X (.AugAssign (.Attribute o f tpos) op value pos) (sFldAug K ta tv rd f) := by subst h; exact ps_fldaug ha hv hop
theorem kFld {f : Str} (he : PE X l tl) (hb : attributeBase l f X.env (eval l X.env) = eval l X.env) (h : X.K = K := by rfl) : PE X (.Attribute l f pos) (tFld K tl f) := by subst h; exact pe_fld he hb
end
end
/-! ### xs.count(y), flat items -/
theorem countP_eqU {x : V} {v : Value} (rx : RelV x v) : ∀ {xs : List V} {us : List Value}, Vals xs us → xs.all flatV = true → us.countP (eqU x) = xs.countP fun y => eqV y x
  | _, _, .nil, _ => rfl
  | y :: xs, u :: us, .cons r t, f => by
    rw [List.all_cons, Bool.and_eq_true] at f
    rw [List.countP_cons, List.countP_cons, countP_eqU rx t f.2, eqU_of r f.1]
def rCount (K : PySem.W.Frag) : V → List V → Hp → VK → Prop := fun x vs H Q => ∃ (p : Addr) (xs : List V) (y : V), x = .ref p ∧ vs = [y] ∧ SqL K H p xs ∧ flatV y = true ∧ xs.all flatV = true ∧ Q (.int (xs.countP (fun z => eqV z y) : Nat)) H
theorem kCount {X : Cx} (K : PySem.W.Frag) (h : X.K = K := by rfl) : MtR X "list.count" (rCount K) := by
  subst h
  intro pins s0 σ H x vs u us Q I r1 r2 hh
  obtain ⟨p, xs, y, rfl, rfl, hl, fy, fx, q⟩ := hh
  cases r1
  cases r2 with
  | cons ry rn =>
    cases rn
    obtain ⟨ws, rel, ⟨⟨c0, d0, dat, sl0⟩, n, ho, hc, _, hd⟩, _⟩ := I.list hl
    dsimp only at hc hd
    subst hc hd
    refine call_meets PySem.F.slot_list_count ⟨_, ho, rfl⟩ PySem.F.entry_list_count (PySem.F.args_list_count_2 _ _)
      (SeqAt.list_countAt p ws.toArray n d0 sl0 _ (eqU y)) ⟨ho, fun z hz => mem_eqAt ry fy rel fx z (by simpa using hz), ?_⟩
    refine ⟨.int (xs.countP (fun z => eqV z y) : Nat), H, I.tok _, ⟨s0.toks, ?_⟩, q⟩
    rw [← countP_eqU ry rel fx]
/-! ### a def by its name -/
section
variable {P : Program} {w : World} {K : PySem.W.Frag} {mg : Str → Option Value} {base : Heap}
structure Dfn (P : Program) (w : World) (K : PySem.W.Frag) (mg : Str → Option Value) (base : Heap) (CX : CXT) (k : Nat) (x : Str) (ps : List Str) (sp : Sp) : Prop where
  ex : ∃ f fd, FnOk P w K mg base CX k f fd ps sp ∧ mg x = some (.ref f) ∧ PySem.W.keepIn K (.ref f) = true ∧ Binds K fd ps []
theorem Dfn.imp {CX : CXT} {k : Nat} {x : Str} {ps : List Str} {sp sp' : Sp} (D : Dfn P w K mg base CX k x ps sp) (h : ∀ vs H Q E, sp' vs H Q E → sp vs H Q E) : Dfn P w K mg base CX k x ps sp' := by
  obtain ⟨f, fd, F, a, b, c⟩ := D.ex
  exact ⟨f, fd, F.imp h, a, b, c⟩
end
section
variable {X : Cx} {CX : CXT} {k : Nat} {x : Str} {ps : List Str} {sp : Sp} {E : XK} {t : TA} {e : Expr} {es : List Expr} {p pos : Pos}
theorem pe_dcall (D : Dfn X.prog X.w X.K X.mg X.base CX k x ps sp) (hr : Room k X.A) (hg : Gl X x) (hx : Passes CX X E) (ha : PA X (e :: es) t) (hdb : (x == ("__debug__" : Str)) = false := by decide)
    (he : starEach (e :: es) X.env = (false, eval e X.env) :: starEach es X.env := by rfl) (hpl : (backTo pos (starEach es X.env)).any (·.1) = false := by rfl) : PE X (.Call (.Name x p) (e :: es) [] pos) (tCall sp [] E t) := by
  obtain ⟨f, fd, F, hm, hk, hb⟩ := D.ex
  exact pe_call F hr hg hm hk hb .nil hx ha hdb he hpl
theorem pe_dcall0 (D : Dfn X.prog X.w X.K X.mg X.base CX k x ps sp) (hr : Room k X.A) (hg : Gl X x) (hx : Passes CX X E) (hdb : (x == ("__debug__" : Str)) = false := by decide) : PE X (.Call (.Name x p) [] [] pos) (tCall sp [] E tNil) := by
  obtain ⟨f, fd, F, hm, hk, hb⟩ := D.ex
  exact pe_call0 F hr hg hm hk hb .nil hx hdb
end
/-! ### own errors, objects, methods by their names -/
/-- an own error class without an __init__, over ValueError -/
structure Exn (K : PySem.W.Frag) (mg : Str → Option Value) (x : Str) (C : Addr) : Prop where
  gC : mg x = some (.ref C)
  kC : PySem.W.keepIn K (.ref C) = true
  xI : PySem.W.excIn K C [.type "ValueError", .type "Exception", .type "BaseException", .type "object"] "ValueError.__new__" = true
  bE : PySem.W.subIn K (.ref C) (.type "BaseException") = some true
  tE : PySem.W.typeIn K (.ref C) = some (.type "type")
  eE : PySem.W.exmOne K (.ref C) (.ref C) = some true
section
variable {X : Cx} {C : Addr} {x : Str} {p pos : Pos}
/-- X() of such a class -/
theorem pmk_x (N : Exn X.K X.mg x C) (hg : Gl X x) (hdb : (x == ("__debug__" : Str)) = false := by decide) : PMk X (.Call (.Name x p) [] [] pos) (fun _ H Q => Q (.ref C) none H) := fun pins s σ H Q I h => by
  refine wpAny_Call_Name_kw (ld_glob I hg N.gC ?_ hdb)
  refine PySem.W.callWith_K0 (first := []) I.kIn N.kC ?_
  obtain ⟨m1, m2, m3, m4, m5, m6, m7, m8, m9, m10, m11, r0, r1, r2, r3, r4, mN, hC, hN, hi, tl⟩ := exc_obj I.kIn N.xI
  exact wpAny_call_exc_subT PySem.F.excBase_ValueError tl hC hN hi (fun _ _ made => mk_of I made (raises_own N.bE N.tE) h (I.hok.gone made.new)) (Nat.zero_le _)
end
section
variable {P : Program} {w : World} {K : PySem.W.Frag} {mg : Str → Option Value} {base : Heap}
/-- a method of the class at C -/
structure Mth (P : Program) (w : World) (K : PySem.W.Frag) (mg : Str → Option Value) (base : Heap) (CX : CXT) (k : Nat) (C : Addr) (m : Str) (ps : List Str) (sp : Sp) : Prop where
  ex : ∃ f fd, FnOk P w K mg base CX k f fd ps sp ∧ Meth K C m f ∧ Binds K fd ps [] ∧ Cls K C
/-- the making of its instances -/
structure Mkr (P : Program) (w : World) (K : PySem.W.Frag) (mg : Str → Option Value) (base : Heap) (CX : CXT) (k : Nat) (x : Str) (C : Addr) (ps : List Str) (sp : Sp) : Prop where
  ex : ∃ f fd, Mk K C f ∧ FnOk P w K mg base CX k f fd ps sp ∧ Binds K fd ps [] ∧ mg x = some (.ref C)
end
section
variable {X : Cx} {CX : CXT} {k : Nat} {C : Addr} {m x : Str} {ps : List Str} {sp : Sp} {E : XK} {t : TA} {ta : TE} {e o : Expr} {es : List Expr} {p pos apos : Pos}
theorem pe_dmeth {pl : Sem Bool} (he : PE X o ta) (D : Mth X.prog X.w X.K X.mg X.base CX k C m ps sp) (hr : Room k X.A) (hx : Passes CX X E) (ha : PA X (e :: es) t)
    (hst : starEach (e :: es) X.env = (false, eval e X.env) :: starEach es X.env := by rfl) (hpl : (backTo pos (starEach es X.env)).any (·.1) = false := by rfl)
    (ht : eval (.Call (.Attribute o m apos) (e :: es) [] pos) X.env = (do
      let ov ← eval o X.env
      standAt apos.atName
      let (f, first) ← holding [ov] (getMethod ov m pl)
      callWith pos f first (backTo pos (starEach (e :: es) X.env)) (backToKw pos (keywordEach [] X.env))) := by rfl) :
    PE X (.Call (.Attribute o m apos) (e :: es) [] pos) (tMeth C m sp [] E ta t) := by
  obtain ⟨f, fd, F, hm, hb, c⟩ := D.ex
  exact pe_meth (pl := pl) he c hm F hr hb .nil hx ha hst hpl ht
theorem pe_dmeth0 {pl : Sem Bool} (he : PE X o ta) (D : Mth X.prog X.w X.K X.mg X.base CX k C m ps sp) (hr : Room k X.A) (hx : Passes CX X E)
    (ht : eval (.Call (.Attribute o m apos) [] [] pos) X.env = (do
      let ov ← eval o X.env
      standAt apos.atName
      let (f, first) ← holding [ov] (getMethod ov m pl)
      callWith pos f first (backTo pos (starEach [] X.env)) (backToKw pos (keywordEach [] X.env))) := by rfl) :
    PE X (.Call (.Attribute o m apos) [] [] pos) (tMeth C m sp [] E ta tNil) := by
  obtain ⟨f, fd, F, hm, hb, c⟩ := D.ex
  exact pe_meth0 (pl := pl) he c hm F hr hb .nil hx ht
theorem pe_dmake (D : Mkr X.prog X.w X.K X.mg X.base CX k x C ps sp) (hr : Room (k + 1) X.A) (hg : Gl X x) (hx : Passes CX X E) (ha : PA X (e :: es) t) (hdb : (x == ("__debug__" : Str)) = false := by decide)
    (he : starEach (e :: es) X.env = (false, eval e X.env) :: starEach es X.env := by rfl) (hpl : (backTo pos (starEach es X.env)).any (·.1) = false := by rfl) : PE X (.Call (.Name x p) (e :: es) [] pos) (tMake C sp [] E t) := by
  obtain ⟨f, fd, M, F, hb, hm⟩ := D.ex
  exact pe_make M F hr hg hm hb .nil hx ha hdb he hpl
/-- out of a try's body: what is wished at all slots -/
abbrev EA (W : WX) : XK := fun cls d H => ∀ σ, W cls d σ H
theorem passT {W : WX} (tk : Takes X W) : Passes (L2.CX X.prog X.w) X (EA W) := passes_call tk fun _ _ σ _ h => h σ
end
/-! ### heaps -/
/-- all but a is kept -/
def Chg (a : Addr) (H H' : Hp) : Prop := ∀ b o, b ≠ a → H b = some o → H' b = some o
/-- tuples never change -/
def TS (H H' : Hp) : Prop := ∀ b xs, H b = some (.tup xs) → H' b = some (.tup xs)
theorem TS.refl (H : Hp) : TS H H := fun _ _ h => h
theorem TS.trans {H H1 H2 : Hp} (a : TS H H1) (b : TS H1 H2) : TS H H2 := fun c xs h => b c xs (a c xs h)
theorem Same.ts {H H' : Hp} (s : Same H H') : TS H H' := fun b xs h => s b _ h
theorem Chg.refl (a : Addr) (H : Hp) : Chg a H H := fun _ _ _ h => h
theorem Chg.trans {a : Addr} {H H1 H2 : Hp} (x : Chg a H H1) (y : Chg a H1 H2) : Chg a H H2 := fun b o n h => y b o n (x b o n h)
theorem Same.chg {a : Addr} {H H' : Hp} (s : Same H H') : Chg a H H' := fun b o _ h => s b o h
theorem Same.new {H : Hp} {p : Addr} {o : HO} (h : H p = none) : Same H (upd H p o) := fun b u e => by
  rw [upd_ne (ne_of_none e h)]
  exact e
theorem Chg.upd {a : Addr} {H : Hp} {o : HO} : Chg a H (upd H a o) := fun b u n e => by
  rw [upd_ne n]
  exact e
theorem Chg.ts {a : Addr} {H H' : Hp} {xs : List V} (c : Chg a H H') (h : H a = some (.lst xs)) : TS H H' := fun b ys e => c b _ (ne_of e h (by intro z; cases z)) e
/-- a new object may change at will -/
theorem Same.mut {H H' : Hp} {p : Addr} {o : HO} (s : Same H H') (h : H p = none) : Same H (L2.upd H' p o) := fun b u e => by
  rw [upd_ne (ne_of_none e h)]
  exact s b u e
theorem Chg.mut {a : Addr} {H H' : Hp} {p : Addr} {o : HO} (s : Chg a H H') (h : H p = none) : Chg a H (L2.upd H' p o) := fun b u n e => by
  rw [upd_ne (ne_of_none e h)]
  exact s b u n e
/-- a word that the steps do not look into -/
@[irreducible] def Hide (p : Prop) : Prop := p
theorem hide {p : Prop} (h : p) : Hide p := by unfold Hide; exact h
theorem Hide.out {p : Prop} (h : Hide p) : p := by unfold Hide at h; exact h
/-! ### small lemmas of readings -/
theorem iteD {c : Prop} [Decidable c] {A B : Prop} (h1 : c → A) (h2 : ¬ c → B) : if decide c = true then A else B := by
  by_cases h : c
  · rw [if_pos (decide_eq_true h)]; exact h1 h
  · rw [if_neg (by rw [decide_eq_false h]; decide)]; exact h2 h
theorem iteDn {c : Prop} [Decidable c] {A B : Prop} (h1 : ¬ c → A) (h2 : c → B) : if (!decide c) = true then A else B := by
  by_cases h : c
  · rw [if_neg (by rw [decide_eq_true h]; decide)]; exact h2 h
  · rw [if_pos (by rw [decide_eq_false h]; rfl)]; exact h1 h
theorem iteB {b : Bool} {A B : Prop} (h1 : b = true → A) (h2 : b = false → B) : if b = true then A else B := by
  cases b
  · rw [if_neg Bool.false_ne_true]; exact h2 rfl
  · rw [if_pos rfl]; exact h1 rfl
theorem at0 {a : V} {l : List V} : atI (a :: l) 0 = some a := by
  rw [show (0 : Int) = ((0 : Nat) : Int) from rfl]; exact atI_nat (by rfl)
theorem atC {xs : List V} {i : Int} {v : V} (j : Nat) (e : i = (j : Int)) (h : xs[j]? = some v) : atI xs i = some v := by rw [e]; exact atI_nat h
theorem ixC {n : Nat} {i : Int} (j : Nat) (e : i = (j : Int)) (h : j < n) : ixN n i = some j := by
  subst e
  unfold ixN
  rw [if_pos (by omega), if_pos (by omega)]
  simp
theorem szl {n : Nat} (h : Nat.ble n 100 = true) : n ≤ sizeLine := Nat.le_trans (Nat.le_of_ble_eq_true h) (by decide)
theorem szn {n : Nat} (h : n ≤ 100000) : n ≤ sizeLine := Nat.le_trans h (by decide)
theorem szt {n : Nat} (h : n < 100000) : n < sizeLine := Nat.lt_of_lt_of_le h (by decide)
/-! ### data over the heap -/
mutual
inductive Dt (H : Hp) : V → PyData → Prop
  | non : Dt H .non .none
  | bl (b : Bool) : Dt H (.bl b) (.bool b)
  | int (i : Int) : Dt H (.int i) (.int i)
  | str (x : Str) : Dt H (.str x) (.str x)
  | lst {a : Addr} {xs : List V} {ds : List PyData} : H a = some (.lst xs) → DtAll H xs ds → Dt H (.ref a) (.list ds)
  | tup {a : Addr} {xs : List V} {ds : List PyData} : H a = some (.tup xs) → DtAll H xs ds → Dt H (.ref a) (.tuple ds)
inductive DtAll (H : Hp) : List V → List PyData → Prop
  | nil : DtAll H [] []
  | cons {v : V} {vs : List V} {d : PyData} {ds : List PyData} : Dt H v d → DtAll H vs ds → DtAll H (v :: vs) (d :: ds)
end
mutual
def tonly : PyData → Bool
  | .list _ => false
  | .dict _ => false
  | .tuple xs => tonlyAll xs
  | _ => true
def tonlyAll : List PyData → Bool
  | [] => true
  | x :: xs => tonly x && tonlyAll xs
end
mutual
theorem Dt.same {H H' : Hp} (s : Same H H') : ∀ {d : PyData} {v : V}, Dt H v d → Dt H' v d
  | .none, _, h => by cases h; exact .non
  | .bool b, _, h => by cases h; exact .bl b
  | .int i, _, h => by cases h; exact .int i
  | .str x, _, h => by cases h; exact .str x
  | .list ds, _, h => by
    cases h with
    | lst ha hs => exact .lst (s _ _ ha) (DtAll.same s hs)
  | .tuple ds, _, h => by
    cases h with
    | tup ha hs => exact .tup (s _ _ ha) (DtAll.same s hs)
  | .dict _, _, h => by cases h
theorem DtAll.same {H H' : Hp} (s : Same H H') : ∀ {ds : List PyData} {vs : List V}, DtAll H vs ds → DtAll H' vs ds
  | [], _, h => by cases h; exact .nil
  | d :: ds, _, h => by
    cases h with
    | cons h1 h2 => exact .cons (Dt.same s h1) (DtAll.same s h2)
end
mutual
theorem Dt.ts {H H' : Hp} (s : TS H H') : ∀ {d : PyData} {v : V}, tonly d = true → Dt H v d → Dt H' v d
  | .none, _, _, h => by cases h; exact .non
  | .bool b, _, _, h => by cases h; exact .bl b
  | .int i, _, _, h => by cases h; exact .int i
  | .str x, _, _, h => by cases h; exact .str x
  | .list ds, _, t, h => by unfold tonly at t; cases t
  | .tuple ds, _, t, h => by
    unfold tonly at t
    cases h with
    | tup ha hs => exact .tup (s _ _ ha) (DtAll.ts s t hs)
  | .dict _, _, _, h => by cases h
theorem DtAll.ts {H H' : Hp} (s : TS H H') : ∀ {ds : List PyData} {vs : List V}, tonlyAll ds = true → DtAll H vs ds → DtAll H' vs ds
  | [], _, _, h => by cases h; exact .nil
  | d :: ds, _, t, h => by
    unfold tonlyAll at t
    rw [Bool.and_eq_true] at t
    cases h with
    | cons h1 h2 => exact .cons (Dt.ts s t.1 h1) (DtAll.ts s t.2 h2)
end
mutual
theorem Dt.dp {K : PySem.W.Frag} {H : Hp} : ∀ {d : PyData} {v : V}, Dt H v d → Dp K H v d
  | .none, _, h => by cases h; exact .non
  | .bool b, _, h => by cases h; exact .bl b
  | .int i, _, h => by cases h; exact .int i
  | .str x, _, h => by cases h; exact .str x
  | .list ds, _, h => by
    cases h with
    | lst ha hs => exact .lst (SqL.of ha) (DtAll.dp hs)
  | .tuple ds, _, h => by
    cases h with
    | tup ha hs => exact .tup (SqT.of ha) (DtAll.dp hs)
  | .dict _, _, h => by cases h
theorem DtAll.dp {K : PySem.W.Frag} {H : Hp} : ∀ {ds : List PyData} {vs : List V}, DtAll H vs ds → DpAll K H vs ds
  | [], _, h => by cases h; exact .nil
  | d :: ds, _, h => by
    cases h with
    | cons h1 h2 => exact .cons (Dt.dp h1) (DtAll.dp h2)
end
theorem DtAll.len {H : Hp} : ∀ {ds : List PyData} {vs : List V}, DtAll H vs ds → vs.length = ds.length
  | [], _, h => by cases h; rfl
  | d :: ds, _, h => by
    cases h with
    | cons h1 h2 => rw [List.length_cons, List.length_cons, DtAll.len h2]
theorem DtAll.get {H : Hp} : ∀ {ds : List PyData} {vs : List V} {i : Nat} {d : PyData}, DtAll H vs ds → ds[i]? = some d → ∃ v, vs[i]? = some v ∧ Dt H v d
  | [], _, i, d, h, e => by simp at e
  | d :: ds, _, 0, d', h, e => by
    cases h with
    | cons h1 h2 => simp at e; subst e; exact ⟨_, rfl, h1⟩
  | d :: ds, _, i + 1, d', h, e => by
    cases h with
    | cons h1 h2 =>
      obtain ⟨v, a, b⟩ := DtAll.get (i := i) h2 (by simpa using e)
      exact ⟨v, by simpa using a, b⟩
theorem DtAll.getV {H : Hp} : ∀ {ds : List PyData} {vs : List V} {i : Nat} {v : V}, DtAll H vs ds → vs[i]? = some v → ∃ d, ds[i]? = some d ∧ Dt H v d
  | [], _, i, d, h, e => by cases h; simp at e
  | d :: ds, _, 0, d', h, e => by
    cases h with
    | cons h1 h2 => simp at e; subst e; exact ⟨_, rfl, h1⟩
  | d :: ds, _, i + 1, d', h, e => by
    cases h with
    | cons h1 h2 =>
      obtain ⟨v, a, b⟩ := DtAll.getV (i := i) h2 (by simpa using e)
      exact ⟨v, by simpa using a, b⟩
theorem DtAll.append {H : Hp} : ∀ {ds es : List PyData} {vs us : List V}, DtAll H vs ds → DtAll H us es → DtAll H (vs ++ us) (ds ++ es)
  | [], _, _, _, h, h' => by cases h; exact h'
  | d :: ds, _, _, _, h, h' => by
    cases h with
    | cons h1 h2 => exact .cons h1 (DtAll.append h2 h')
/-! ### data that == may look at -/
theorem lay_all : ∀ {ds : List PyData}, (∀ d ∈ ds, d.canLay0 = true) → PyData.canLayAll0 ds = true
  | [], _ => by rw [PyData.canLayAll0]
  | d :: ds, h => by
    rw [PyData.canLayAll0, h d List.mem_cons_self, lay_all fun e he => h e (List.mem_cons_of_mem _ he)]; rfl
theorem dep_all {n : Nat} : ∀ {ds : List PyData}, (∀ d ∈ ds, d.depth ≤ n) → PyData.depthAll ds ≤ n
  | [], _ => by rw [PyData.depthAll]; exact Nat.zero_le _
  | d :: ds, h => by
    rw [PyData.depthAll]
    exact Nat.max_le.mpr ⟨h d List.mem_cons_self, dep_all fun e he => h e (List.mem_cons_of_mem _ he)⟩
/-- shaped, of so little depth -/
def Sh (n : Nat) (d : PyData) : Prop := d.canLay0 = true ∧ d.depth ≤ n
theorem Sh.int (n : Nat) (i : Int) : Sh n (.int i) := ⟨by rw [PyData.canLay0], by rw [PyData.depth]; exact Nat.zero_le _⟩
theorem Sh.bool (n : Nat) (i : Bool) : Sh n (.bool i) := ⟨by rw [PyData.canLay0], by rw [PyData.depth]; exact Nat.zero_le _⟩
theorem Sh.none (n : Nat) : Sh n .none := ⟨by rw [PyData.canLay0], by rw [PyData.depth]; exact Nat.zero_le _⟩
theorem Sh.tup {n : Nat} {ds : List PyData} (h : ∀ d ∈ ds, Sh n d) : Sh (n + 1) (.tuple ds) := ⟨by rw [PyData.canLay0]; exact lay_all fun d hd => (h d hd).1, by rw [PyData.depth]; exact Nat.succ_le_succ (dep_all fun d hd => (h d hd).2)⟩
theorem Sh.lst {n : Nat} {ds : List PyData} (h : ∀ d ∈ ds, Sh n d) : Sh (n + 1) (.list ds) := ⟨by rw [PyData.canLay0]; exact lay_all fun d hd => (h d hd).1, by rw [PyData.depth]; exact Nat.succ_le_succ (dep_all fun d hd => (h d hd).2)⟩
theorem Sh.ok {n : Nat} {d : PyData} (h : Sh n d) (hn : n ≤ 64 := by decide) : SeqAt.shaped d = true := by
  unfold SeqAt.shaped
  rw [h.1, decide_eq_true (Nat.le_trans h.2 hn)]; rfl
def tyName : PyData → String
  | .none => "NoneType"
  | .bool _ => "bool"
  | .int _ => "int"
  | .str _ => "str"
  | .list _ => "list"
  | .tuple _ => "tuple"
  | .dict _ => "dict"
theorem Dt.ty {K : PySem.W.Frag} {H : Hp} : ∀ {d : PyData} {v : V}, Dt H v d → TyX K H v (.type (tyName d))
  | .none, _, h => by cases h; exact .base .non
  | .bool b, _, h => by cases h; exact .base (.bl b)
  | .int i, _, h => by cases h; exact .base (.int i)
  | .str x, _, h => by cases h; exact .base (.str x)
  | .list ds, _, h => by
    cases h with
    | lst ha hs => exact .base (.lst ha)
  | .tuple ds, _, h => by
    cases h with
    | tup ha hs => exact .base (.tup ha)
  | .dict _, _, h => by cases h
def isNoneD : PyData → Bool
  | .none => true
  | _ => false
theorem Dt.isNon {H : Hp} {d : PyData} {v : V} (h : Dt H v d) : decide (v = V.non) = isNoneD d := by
  cases h <;> rfl
def isIntD : PyData → Bool
  | .int _ => true
  | .bool _ => true
  | _ => false
def isBoolD : PyData → Bool
  | .bool _ => true
  | _ => false
def isTupD : PyData → Bool
  | .tuple _ => true
  | _ => false
def isListD : PyData → Bool
  | .list _ => true
  | _ => false
theorem kitInt : ∀ d : PyData, kitB (tyName d) "int" = some (isIntD d)
  | .none => (by decide +kernel : kitB "NoneType" "int" = some false)
  | .bool _ => (by decide +kernel : kitB "bool" "int" = some true)
  | .int _ => (by decide +kernel : kitB "int" "int" = some true)
  | .str _ => (by decide +kernel : kitB "str" "int" = some false)
  | .list _ => (by decide +kernel : kitB "list" "int" = some false)
  | .tuple _ => (by decide +kernel : kitB "tuple" "int" = some false)
  | .dict _ => (by decide +kernel : kitB "dict" "int" = some false)
theorem kitBool : ∀ d : PyData, kitB (tyName d) "bool" = some (isBoolD d)
  | .none => (by decide +kernel : kitB "NoneType" "bool" = some false)
  | .bool _ => (by decide +kernel : kitB "bool" "bool" = some true)
  | .int _ => (by decide +kernel : kitB "int" "bool" = some false)
  | .str _ => (by decide +kernel : kitB "str" "bool" = some false)
  | .list _ => (by decide +kernel : kitB "list" "bool" = some false)
  | .tuple _ => (by decide +kernel : kitB "tuple" "bool" = some false)
  | .dict _ => (by decide +kernel : kitB "dict" "bool" = some false)
theorem kitTup : ∀ d : PyData, kitB (tyName d) "tuple" = some (isTupD d)
  | .none => (by decide +kernel : kitB "NoneType" "tuple" = some false)
  | .bool _ => (by decide +kernel : kitB "bool" "tuple" = some false)
  | .int _ => (by decide +kernel : kitB "int" "tuple" = some false)
  | .str _ => (by decide +kernel : kitB "str" "tuple" = some false)
  | .list _ => (by decide +kernel : kitB "list" "tuple" = some false)
  | .tuple _ => (by decide +kernel : kitB "tuple" "tuple" = some true)
  | .dict _ => (by decide +kernel : kitB "dict" "tuple" = some false)
theorem kitList : ∀ d : PyData, kitB (tyName d) "list" = some (isListD d)
  | .none => (by decide +kernel : kitB "NoneType" "list" = some false)
  | .bool _ => (by decide +kernel : kitB "bool" "list" = some false)
  | .int _ => (by decide +kernel : kitB "int" "list" = some false)
  | .str _ => (by decide +kernel : kitB "str" "list" = some false)
  | .list _ => (by decide +kernel : kitB "list" "list" = some true)
  | .tuple _ => (by decide +kernel : kitB "tuple" "list" = some false)
  | .dict _ => (by decide +kernel : kitB "dict" "list" = some false)
theorem r_isi {K : PySem.W.Frag} {H : Hp} {v : V} {d : PyData} {T : String} {b : Bool} {Q : VK} (h : Dt H v d) (e : kitB (tyName d) T = some b) (k : Q (.bl b) H) : rIsi K [v, .ty T] H Q :=
  ⟨_, _, _, _, _, rfl, .ty _, h.ty, kit_ty e, k⟩
/-- lo ≤ i ≤ hi, of a whole number -/
def isI (d : PyData) (lo hi : Int) : Bool := match d with
  | .int i => decide (lo ≤ i) && decide (i ≤ hi)
  | _ => false
def geI (d : PyData) (lo : Int) : Bool := match d with
  | .int i => decide (lo ≤ i)
  | _ => false
def spGe : Sp := fun vs H Q _ => ∃ v d lo, vs = [v, .int lo] ∧ Dt H v d ∧ Q (.bl (geI d lo)) H
def spBtw : Sp := fun vs H Q _ => ∃ v d lo hi, vs = [v, .int lo, .int hi] ∧ Dt H v d ∧ Q (.bl (isI d lo hi)) H
def spIdx : Sp := fun vs H Q _ => ∃ v d n, vs = [v, .int n] ∧ Dt H v d ∧ Q (.bl (isI d 0 (n - 1))) H
def spWord : Sp := fun vs H Q _ => ∃ v d, vs = [v] ∧ Dt H v d ∧ Q (.bl (isI d 0 4294967295)) H
theorem Dt.new {H : Hp} {p : Addr} {xs : List V} {ds : List PyData} (h : DtAll H xs ds) (hp : H p = none) : Dt (upd H p (.tup xs)) (.ref p) (.tuple ds) := .tup upd_same (h.same (Same.new hp))
/-- t + u of data -/
theorem r_catD {K : PySem.W.Frag} {H : Hp} {v u : V} {ds es : List PyData} {Q : VK} (h1 : Dt H v (.tuple ds)) (h2 : Dt H u (.tuple es)) (hz : ds.length + es.length ≤ 100000) (k : ∀ v' H', Same H H' → Dt H' v' (.tuple (ds ++ es)) → Q v' H') : rCatA K v u H Q := by
  cases h1 with
  | @tup a xs _ ha hs =>
    cases h2 with
    | @tup b ys _ hb ht =>
      refine ⟨a, b, xs, ys, rfl, rfl, SqT.of ha, SqT.of hb, szn (by rw [hs.len, ht.len]; exact hz), fun e => ?_, fun _ e => ?_, fun _ _ p hp => ?_⟩
      · subst e
        have : ds = [] := List.length_eq_zero_iff.mp (by rw [← hs.len]; rfl)
        subst this
        exact k _ _ (Same.refl H) (.tup hb ht)
      · subst e
        have : es = [] := List.length_eq_zero_iff.mp (by rw [← ht.len]; rfl)
        subst this
        rw [List.append_nil] at k
        exact k _ _ (Same.refl H) (.tup ha hs)
      · exact k _ _ (Same.new hp) (Dt.new (hs.append ht) hp)
/-! ### comprehensions whose elements change nothing that stood -/
theorem take_snoc {α : Type} {l : List α} {i : Nat} {y : α} (h : l[i]? = some y) : l.take i ++ [y] = l.take (i + 1) := by
  rw [List.take_add_one, h]; rfl
section
variable {K : PySem.W.Frag} {g : TG} {te : TE} {vs : List Nat} {σ : L2.St} {H : Hp} {D : Addr} {Qd : Hp → Prop}
/-- over a tuple: ys are the elements -/
theorem lcT {a : Addr} {xs : List V} (ys : List V) (hl : ys.length = xs.length) (hz : xs.length < 100000) (hx : H a = some (.tup xs)) (hD : H D = none)
    (step : ∀ (j : Nat) (x y : V) (H1 : Hp) (Q' : VK), xs[j]? = some x → ys[j]? = some y → Same H H1 → (∀ H2, Same H1 H2 → Q' y H2) → g x (wipe σ vs) H1 fun σ2 H2 => wipe σ2 vs = wipe σ vs ∧ te σ2 H2 Q')
    (k : ∀ H1, Same H H1 → H1 D = some (.lst ys) → Qd H1) :
    ∃ W : Nat → Nat → Hp → Prop, (∃ m, W 0 m (upd H D (.lst []))) ∧ ∀ i m H, W i m H →
      ((Itt K a).stop i H ∧ Qd H) ∨ ((Itt K a).go i H ∧ ∃ Nx : Hp → Prop, (∀ H', Nx H' → ∃ m', m' < m ∧ W (i + 1) m' H') ∧ ∀ x H', (Itt K a).yld i H x H' → g x (wipe σ vs) H' fun σ2 H2 => wipe σ2 vs = wipe σ vs ∧ tYes σ2 H2 fun b H3 =>
        if b = true then te σ2 H3 fun y H4 => ∃ acc, H4 D = some (.lst acc) ∧ acc.length < sizeLine ∧ Nx (upd H4 D (.lst (acc ++ [y]))) else Nx H3) := by
  refine lc_tup (K := K) (xs := xs) (fun i H1 => Same H H1 ∧ H1 D = some (.lst (ys.take i))) ⟨Same.new hD, upd_same⟩ (fun i H1 _ h => SqT.of (h.1 _ _ hx)) ?_ ?_
  · rintro i x H1 hi ⟨s1, d1⟩
    have hil : i < xs.length := (List.getElem?_eq_some_iff.mp hi).1
    have hy : ys[i]? = some ys[i] := List.getElem?_eq_getElem (by omega)
    refine step i x _ H1 _ hi hy s1 fun H2 s2 => ?_
    refine ⟨_, s2 _ _ d1, ?_, Same.mut (s1.trans s2) hD, ?_⟩
    · rw [List.length_take]
      exact Nat.lt_of_lt_of_le (Nat.lt_of_le_of_lt (Nat.min_le_right _ _) (by omega : ys.length < 100000)) (by decide)
    · rw [take_snoc hy]; exact upd_same
  · rintro H1 ⟨s1, d1⟩
    rw [List.take_of_length_le (by omega)] at d1
    exact k H1 s1 d1
/-- over a list: ys are the elements -/
theorem lcL {a : Addr} {xs : List V} (ys : List V) (hl : ys.length = xs.length) (hz : xs.length < 100000) (hx : H a = some (.lst xs)) (hD : H D = none)
    (step : ∀ (j : Nat) (x y : V) (H1 : Hp) (Q' : VK), xs[j]? = some x → ys[j]? = some y → Same H H1 → (∀ H2, Same H1 H2 → Q' y H2) → g x (wipe σ vs) H1 fun σ2 H2 => wipe σ2 vs = wipe σ vs ∧ te σ2 H2 Q')
    (k : ∀ H1, Same H H1 → H1 D = some (.lst ys) → Qd H1) :
    ∃ W : Nat → Nat → Hp → Prop, (∃ m, W 0 m (upd H D (.lst []))) ∧ ∀ i m H, W i m H →
      ((Itl K a).stop i H ∧ Qd H) ∨ ((Itl K a).go i H ∧ ∃ Nx : Hp → Prop, (∀ H', Nx H' → ∃ m', m' < m ∧ W (i + 1) m' H') ∧ ∀ x H', (Itl K a).yld i H x H' → g x (wipe σ vs) H' fun σ2 H2 => wipe σ2 vs = wipe σ vs ∧ tYes σ2 H2 fun b H3 =>
        if b = true then te σ2 H3 fun y H4 => ∃ acc, H4 D = some (.lst acc) ∧ acc.length < sizeLine ∧ Nx (upd H4 D (.lst (acc ++ [y]))) else Nx H3) := by
  refine lc_list (K := K) (xs := xs) (fun i H1 => Same H H1 ∧ H1 D = some (.lst (ys.take i))) ⟨Same.new hD, upd_same⟩ (fun i H1 _ h => SqL.of (h.1 _ _ hx)) ?_ ?_
  · rintro i x H1 hi ⟨s1, d1⟩
    have hil : i < xs.length := (List.getElem?_eq_some_iff.mp hi).1
    have hy : ys[i]? = some ys[i] := List.getElem?_eq_getElem (by omega)
    refine step i x _ H1 _ hi hy s1 fun H2 s2 => ?_
    refine ⟨_, s2 _ _ d1, ?_, Same.mut (s1.trans s2) hD, ?_⟩
    · rw [List.length_take]
      exact Nat.lt_of_lt_of_le (Nat.lt_of_le_of_lt (Nat.min_le_right _ _) (by omega : ys.length < 100000)) (by decide)
    · rw [take_snoc hy]; exact upd_same
  · rintro H1 ⟨s1, d1⟩
    rw [List.take_of_length_le (by omega)] at d1
    exact k H1 s1 d1
theorem lcR {lo : Int} {n : Nat} (ys : List V) (hl : ys.length = n) (hz : n < 100000) (hD : H D = none)
    (step : ∀ (j : Nat) (y : V) (H1 : Hp) (Q' : VK), ys[j]? = some y → Same H H1 → (∀ H2, Same H1 H2 → Q' y H2) → g (.int (lo + j)) (wipe σ vs) H1 fun σ2 H2 => wipe σ2 vs = wipe σ vs ∧ te σ2 H2 Q')
    (k : ∀ H1, Same H H1 → H1 D = some (.lst ys) → Qd H1) :
    ∃ W : Nat → Nat → Hp → Prop, (∃ m, W 0 m (upd H D (.lst []))) ∧ ∀ i m H, W i m H →
      ((Itr lo n).stop i H ∧ Qd H) ∨ ((Itr lo n).go i H ∧ ∃ Nx : Hp → Prop, (∀ H', Nx H' → ∃ m', m' < m ∧ W (i + 1) m' H') ∧ ∀ x H', (Itr lo n).yld i H x H' → g x (wipe σ vs) H' fun σ2 H2 => wipe σ2 vs = wipe σ vs ∧ tYes σ2 H2 fun b H3 =>
        if b = true then te σ2 H3 fun y H4 => ∃ acc, H4 D = some (.lst acc) ∧ acc.length < sizeLine ∧ Nx (upd H4 D (.lst (acc ++ [y]))) else Nx H3) := by
  refine lc_range (fun i H1 => Same H H1 ∧ H1 D = some (.lst (ys.take i))) ⟨Same.new hD, upd_same⟩ ?_ ?_
  · rintro i H1 hi ⟨s1, d1⟩
    have hy : ys[i]? = some ys[i] := List.getElem?_eq_getElem (by omega)
    refine step i _ H1 _ hy s1 fun H2 s2 => ?_
    refine ⟨_, s2 _ _ d1, ?_, Same.mut (s1.trans s2) hD, ?_⟩
    · rw [List.length_take]
      exact Nat.lt_of_lt_of_le (Nat.lt_of_le_of_lt (Nat.min_le_right _ _) (by omega : ys.length < 100000)) (by decide)
    · rw [take_snoc hy]; exact upd_same
  · rintro H1 ⟨s1, d1⟩
    rw [List.take_of_length_le (by omega)] at d1
    exact k H1 s1 d1
end
end My

namespace My
open PySem L2
/-! ### zip of a tuple and a text -/
def ItzX (K : PySem.W.Frag) (a : Addr) (x : Str) : It where
  go := fun i H => ∃ xs v c, SqT K H a xs ∧ xs[i]? = some v ∧ x.cps[i]? = some c
  yld := fun i H r H' => ∃ p v c, r = V.ref p ∧ H p = none ∧ H' = L2.upd H p (.tup [v, .str ⟨#[c]⟩]) ∧ x.cps[i]? = some c ∧ ∀ xs, SqT K H a xs → xs[i]? = some v
  stop := fun i H => ∃ xs, SqT K H a xs ∧ ((xs.length = i ∧ i ≤ x.cps.size) ∨ (x.cps.size = i ∧ i ≤ xs.length))
abbrev StX (a : Addr) (x : Str) (t : Tok) (z m n j k : Addr) (i : Nat) (h : Heap) : Prop :=
  IsZip h z m n .none ∧ IsTupOf2 h m (.ref j) (.ref k) ∧ (∃ u v, IsTupOf2 h n u v) ∧ h.IsTupleIter j a i ∧ h.IsStrIter k (strIterType x) x t i
theorem turnX {P : Program} {w : World} {K : PySem.W.Frag} {es : List Expr} {kk : Nat} {tpos : Pos} {a z m n j k : Addr} {x : Str} {t : Tok} (S : ZipSep2 z m n j k [j, a] [k]) (ha : a ≠ j) (mk : m ≠ k) (jz : j ≠ z) (kz : k ≠ z) :
    Turn P w K (.Tuple es kk tpos) (ItzX K a x) [z, m, n, j, k] z (StX a x t z m n j k) where
  mem := by simp
  obj := fun i h st b hb => by
    obtain ⟨c1, c2, ⟨u, v, c3⟩, ⟨o1, e1, _, d1⟩, ⟨o2, e2, _, d2⟩⟩ := st
    simp only [List.mem_cons, List.not_mem_nil, or_false] at hb
    rcases hb with rfl | rfl | rfl | rfl | rfl
    · exact ⟨_, c1, fun v q => nomatch q⟩
    · exact ⟨_, c2, fun v q => nomatch q⟩
    · exact ⟨_, c3, fun v q => nomatch q⟩
    · exact ⟨o1, e1, fun v q => by rw [d1] at q; cases q⟩
    · exact ⟨o2, e2, fun v q => by rw [d2] at q; cases q⟩
  keep := fun i h h' st ke => by
    obtain ⟨c1, c2, ⟨u, v, c3⟩, c4, c5⟩ := st
    refine ⟨ke z (by simp) _ c1, ke m (by simp) _ c2, ⟨u, v, ke n (by simp) _ c3⟩, c4.at fun o q => ke j (by simp) o q, ?_⟩
    obtain ⟨o, e, r⟩ := c5
    exact ⟨o, ke k (by simp) o e, r⟩
  item := by
    intro X e1 e2 e3 calm i pins s σ H E I hf st hg
    subst e1 e2 e3
    obtain ⟨c1, c2, ⟨u0, v0, c3⟩, c4, c5⟩ := st
    obtain ⟨xs, v, c, hq, hv, hc⟩ := hg
    obtain ⟨its, rv, p, _⟩ := I.tuple hq
    obtain ⟨u, hu, ru⟩ := rv.get hv
    have hd := I.ok.hd calm
    have l1 : i < its.toArray.size := by
      have := (List.getElem?_eq_some_iff.mp hu).1
      simpa using this
    have l2 : i < x.cps.size := (Array.getElem?_eq_some_iff.mp hc).1
    have hzl : z < s.heap.objs.size := Heap.lt_size c1
    refine wpAny_pyNext_zipD2_item S (Draws.tuple (A := X.A.in1) hd j a ha its.toArray) (Draws.text (A := X.A.in1) hd k x t) c1 c2 c3 ⟨c4, p⟩ c5 l1 l2 fun x1 x2 g tk q1 q2 b1 b2 b3 b4 b5 b6 b7 => ?_
    obtain ⟨c', ut, hc', rfl⟩ := q2
    have ec : c' = c := by rw [hc] at hc'; exact (Option.some.inj hc').symm
    subst ec
    have eu : x1 = u := by
      have : its.toArray[i]? = some u := by simpa using hu
      rw [this] at q1
      exact (Option.some.inj q1).symm
    subst eu
    refine ⟨_, rfl, wpAny_letOwnedTupleGo_zip (s := { s with heap := g, toks := tk }) b1 fun g2 z2 sb => ?_⟩
    have pT : g2.get? s.heap.objs.size = some { cls := .type "tuple", data := .seq #[x1, .str { cps := #[c'] } ut] } := (sb.2 _ (Nat.ne_of_gt hzl)).trans b5
    have nw : ObjOk X.prog X.w (L2.upd H s.heap.objs.size (.tup [v, .str ⟨#[c']⟩])) g2 s.heap.objs.size (.tup [v, .str ⟨#[c']⟩]) :=
      ⟨by show 2 ≤ sizeLine; decide, [x1, .str { cps := #[c'] } ut], .cons ru (.cons ⟨ut, rfl⟩ .nil), _, pT, rfl, _, rfl⟩
    have far : ∀ b o, b ∉ [z, m, n, j, k] → s.heap.get? b = some o → g2.get? b = some o := fun b o nb q => by
      simp only [List.mem_cons, List.not_mem_nil, or_false, not_or] at nb
      exact (sb.2 b nb.1).trans (b7 b o nb.1 nb.2.2.1 nb.2.2.2.1 nb.2.2.2.2 q)
    have I1 : Inv X pins σ (L2.upd H s.heap.objs.size (.tup [v, .str ⟨#[c']⟩])) { s with heap := g2, toks := tk } := I.turnedNew (t' := tk) far hf (Nat.le_refl _) nw
    have keepm : g2.get? m = some { cls := .type "tuple", data := .seq #[.ref j, .ref k] } := (sb.2 m S.TIz).trans (b7 m _ S.TIz S.TITO S.TIi1 mk c2)
    refine ⟨.ref s.heap.objs.size, _, I1, rfl, ⟨_, v, c', rfl, I.hok.fresh (Nat.le_refl _), rfl, hc, fun l hl => by rw [I.tuple_inj hl hq]; exact hv⟩, ⟨z2, keepm, ⟨_, _, (sb.2 n S.TOz).trans b2⟩, b3.1.at fun o q => (sb.2 j jz).trans q, ?_⟩, fun b hb => ?_⟩
    · obtain ⟨o, e, r⟩ := b4
      exact ⟨o, (sb.2 k kz).trans e, r⟩
    · have lt : b < s.heap.objs.size := by
        simp only [List.mem_cons, List.not_mem_nil, or_false] at hb
        obtain ⟨_, e1, _⟩ := c4
        obtain ⟨_, e2, _⟩ := c5
        rcases hb with rfl | rfl | rfl | rfl | rfl
        · exact hzl
        · exact Heap.lt_size c2
        · exact Heap.lt_size c3
        · exact Heap.lt_size e1
        · exact Heap.lt_size e2
      rw [upd_ne (Nat.ne_of_lt lt)]
      exact (hf b hb).1
  done := by
    intro X e1 e2 e3 calm i pins s σ H E I hf st hg
    subst e1 e2 e3
    obtain ⟨c1, c2, ⟨u0, v0, c3⟩, c4, c5⟩ := st
    obtain ⟨xs, hq, hend⟩ := hg
    obtain ⟨its, rv, p, _⟩ := I.tuple hq
    have hl := rv.length
    have hd := I.ok.hd calm
    refine wpAny_pyNext_zipD2_end S (Draws.tuple (A := X.A.in1) hd j a ha its.toArray) (Draws.text (A := X.A.in1) hd k x t) c1 c2 c3 ⟨c4, p⟩ c5 (by simp; omega) (by omega) (by simp; omega) fun g tk ke => ?_
    exact ⟨rfl, I.turnedL (t' := tk) (ch := [z, m, n, j, k]) (fun b o nb q => by
      simp only [List.mem_cons, List.not_mem_nil, or_false, not_or] at nb
      exact ke b o nb.1 nb.2.2.1 nb.2.2.2.1 nb.2.2.2.2 q) hf⟩
  self := fun A i s Q E st h => wpAny_pyIter_zip st.1 h
theorem zsep (N a : Nat) (h : a < N) : ZipSep2 (N + 4) (N + 2) (N + 3) N (N + 1) [N, a] [N + 1] := by
  have q : ∀ d, N + (d + 1) ∉ [N, a] := fun d z => by
    rcases List.mem_cons.mp z with e | e
    · exact absurd e (by show ¬ (N + (d + 1) : Nat) = N; omega)
    · have e' : (N + (d + 1) : Nat) = a := List.mem_singleton.mp e
      have h' : (a : Nat) < N := h
      omega
  constructor <;> first | exact q 3 | exact q 2 | exact q 0 | simp
def iZipX (K : PySem.W.Frag) (ta : TA) : L2.TI := fun σ H R => ta σ H fun vs H1 => ∃ a x xs, vs = [V.ref a, V.str x] ∧ SqT K H1 a xs ∧ R (ItzX K a x) H1
open PySem.Spec PyProof.Rows in
/-- zip(t, s) of a tuple and a text -/
theorem pi_zipX {X : Cx} {e e2 : Expr} {ta : TA} {p pos tpos : Pos} {es : List Expr} {kk : Nat} (K : PySem.W.Frag) (hg : Gl X "zip") (hm : X.mg "zip" = none) (ha : PA X [e, e2] ta)
    (hs : starEach [e, e2] X.env = (false, eval e X.env) :: starEach [e2] X.env := by rfl) (hpl : (backTo pos (starEach [e2] X.env)).any (·.1) = false := by rfl) (hK : X.K = K := by rfl) :
    PI X (.Tuple es kk tpos) (.Call (.Name "zip" p) [e, e2] [] pos) (iZipX K ta) := by
  subst hK
  refine ⟨fun pins s σ H R I w => ?_⟩
  refine Call_ (ld_blt I hg hm PyProof.Rows.boot_zip (PyProof.Rows.callWith_type1 (thn (ha.run pos pins s σ H _ I w) fun us s1 ⟨vs, H1, I1, r1, q1⟩ => ?_) hs hpl))
  obtain ⟨a, x, xs, rfl, hq, q⟩ := q1
  cases r1 with
  | cons ra rr => cases rr with
    | cons rx rr =>
      cases rr
      cases ra
      obtain ⟨t, rfl⟩ := rx
      obtain ⟨its, rv, pt, _⟩ := I1.tuple hq
      obtain ⟨o1, ho1, _⟩ := id pt
      have alt : a < s1.heap.objs.size := Heap.lt_size ho1
      refine zip_begins2 (begins_tuple a its.toArray) (begins_text x t) pt trivial fun g hz hm' hn hj hk hsz kp => wpAny_pyIter_zip hz ?_
      have I2 : Inv X pins σ H1 { s1 with heap := g } := I1.kept (t' := s1.toks) kp
      refine ⟨s1.heap.objs.size + 4, [s1.heap.objs.size + 4, s1.heap.objs.size + 2, s1.heap.objs.size + 3, s1.heap.objs.size, s1.heap.objs.size + 1], _, _, H1, rfl, I2, turnX (zsep _ _ alt) (Nat.ne_of_lt alt) (by simp) (by simp) (by simp), ⟨hz, hm', ⟨_, _, hn⟩, ⟨_, hj, rfl, rfl⟩, ⟨_, hk, rfl, rfl⟩⟩, fun b hb => ?_, q⟩
      have hle : s1.heap.objs.size ≤ b := by
        simp only [List.mem_cons, List.not_mem_nil, or_false] at hb
        rcases hb with rfl | rfl | rfl | rfl | rfl <;> omega
      exact I1.fpOk hle (I1.hok.fresh hle)
/-- a comprehension over it: ys are its elements -/
theorem lcX {K : PySem.W.Frag} {g : TG} {te : TE} {vs : List Nat} {σ : L2.St} {H : Hp} {D : Addr} {Qd : Hp → Prop} {a : Addr} {x : Str} {xs : List V} (ys : List V) (hl : ys.length = xs.length) (hx2 : x.cps.size = xs.length) (hz : xs.length < 100000) (hx : H a = some (.tup xs)) (hD : H D = none)
    (step : ∀ (j : Nat) (u y : V) (c : Nat) (p : Addr) (H1 : Hp) (Q' : VK), xs[j]? = some u → x.cps[j]? = some c → ys[j]? = some y → Same H H1 → H1 p = some (.tup [u, .str ⟨#[c]⟩]) → (∀ H2, Same H1 H2 → Q' y H2) → g (.ref p) (wipe σ vs) H1 fun σ2 H2 => wipe σ2 vs = wipe σ vs ∧ te σ2 H2 Q')
    (k : ∀ H1, Same H H1 → H1 D = some (.lst ys) → Qd H1) :
    ∃ W : Nat → Nat → Hp → Prop, (∃ m, W 0 m (L2.upd H D (.lst []))) ∧ ∀ i m H, W i m H →
      ((ItzX K a x).stop i H ∧ Qd H) ∨ ((ItzX K a x).go i H ∧ ∃ Nx : Hp → Prop, (∀ H', Nx H' → ∃ m', m' < m ∧ W (i + 1) m' H') ∧ ∀ r H', (ItzX K a x).yld i H r H' → g r (wipe σ vs) H' fun σ2 H2 => wipe σ2 vs = wipe σ vs ∧ tYes σ2 H2 fun b H3 =>
        if b = true then te σ2 H3 fun y H4 => ∃ acc, H4 D = some (.lst acc) ∧ acc.length < sizeLine ∧ Nx (L2.upd H4 D (.lst (acc ++ [y]))) else Nx H3) := by
  have start : (xs.length = xs.length - 0 ∧ 0 ≤ xs.length) ∧ Same H (L2.upd H D (.lst [])) ∧ L2.upd H D (.lst []) D = some (.lst (ys.take 0)) := ⟨⟨by omega, by omega⟩, Same.new hD, upd_same⟩
  refine ⟨fun i m H1 => (m = xs.length - i ∧ i ≤ xs.length) ∧ Same H H1 ∧ H1 D = some (.lst (ys.take i)), ⟨_, start⟩, ?_⟩
  rintro i m H1 ⟨⟨rfl, hi⟩, s1, d1⟩
  by_cases lt : i < xs.length
  · refine .inr ⟨⟨xs, xs[i], x.cps[i]'(by omega), SqT.of (s1 _ _ hx), List.getElem?_eq_getElem lt, Array.getElem?_eq_getElem (by omega)⟩, fun H' => Same H H' ∧ H' D = some (.lst (ys.take (i + 1))), fun H' h' => ⟨_, Nat.sub_lt_sub_left lt (Nat.lt_succ_self i), ⟨rfl, lt⟩, h'.1, h'.2⟩, ?_⟩
    rintro r H2 ⟨p, u, c, rfl, hp, rfl, hc, hu⟩
    have hu' := hu xs (SqT.of (s1 _ _ hx))
    have hy : ys[i]? = some ys[i] := List.getElem?_eq_getElem (by omega)
    have s2 := Same.new (o := .tup [u, .str ⟨#[c]⟩]) hp
    refine step i u ys[i] c p _ _ hu' hc hy (s1.trans s2) upd_same fun H3 s3 => ?_
    refine ⟨_, s3 _ _ (s2 _ _ d1), ?_, Same.mut ((s1.trans s2).trans s3) hD, ?_⟩
    · rw [List.length_take]
      exact Nat.lt_of_lt_of_le (Nat.lt_of_le_of_lt (Nat.min_le_right _ _) (by omega : ys.length < 100000)) (by decide)
    · rw [take_snoc hy]; exact upd_same
  · have e : i = xs.length := by omega
    subst e
    refine .inl ⟨⟨xs, SqT.of (s1 _ _ hx), .inl ⟨rfl, by omega⟩⟩, k H1 s1 ?_⟩
    rw [List.take_of_length_le (by omega)] at d1
    exact d1
/-! ### a dict of the module, read by get -/
def KGet (K : PySem.W.Frag) (w : World) (a : Addr) (z : Str) (r : Option V) : Prop :=
  ∃ es n, K.lookup a = some ⟨.type "dict", none, .dict es n, #[]⟩ ∧ PySem.W.KeysLit w.params es.toList ∧ (a == sysModules) = false ∧ ((∃ u v, PySem.W.nsIn K a z = some (some u) ∧ RelV v u ∧ r = some v) ∨ (PySem.W.nsIn K a z = some none ∧ r = none))
def tKGet (K : PySem.W.Frag) (w : World) (A : Addr) (ty : TE) : TE := fun σ H Q => ty σ H fun y H2 => ∃ z r, y = V.str z ∧ KGet K w A z r ∧ Q (r.getD .non) H2
open PySem.Spec PyProof.Rows in
theorem pe_kget {X : Cx} {e : Expr} {apos cpos : Pos} {A : Addr} {ty : TE} {x : Str} {opos : Pos} (K : PySem.W.Frag) (w : World) (hg : Gl X x) (hx : X.mg x = some (.ref A)) (hA : ∃ es n, K.lookup A = some ⟨.type "dict", none, .dict es n, #[]⟩) (he : PE X e ty) (m : M1 X (.Name x opos) "get" apos e cpos) (hd : (x == ("__debug__" : Str)) = false := by decide) (hK : X.K = K := by rfl) (hw : X.w = w := by rfl) :
    PE X (.Call (.Attribute (.Name x opos) "get" apos) [e] [] cpos) (tKGet K w A ty) := by
  subst hK hw
  refine ⟨fun pins s σ H Q I h => ?_⟩
  refine wpAny_Call_method m.base m.few m.line PySem.F.plainAttrs_dict PySem.F.slot_dict_get PySem.F.type_dict_get (thn ((pe_glob (v := .ref A) (pos := opos) hg hx rfl hd).run pins s σ H (fun y H1 => y = .ref A ∧ H1 = H) I ⟨rfl, rfl⟩) fun u s1 ⟨y, H1, I1, ry, q1⟩ => ?_)
  obtain ⟨rfl, rfl⟩ := q1
  obtain rfl : u = Value.ref A := ry
  obtain ⟨es, n, hl⟩ := hA
  have at1 := I1.kIn _ _ hl
  refine ⟨⟨_, at1, rfl⟩, fun b q => by cases q; exact ⟨_, at1, rfl⟩, ?_⟩
  rw [m.trees]
  refine Calls.callWith_builtin rfl (Calls.evalArgs_plain (Calls.spliced_cons (thn (he.run pins s1 σ H1 _ I1 h) fun iv s2 ⟨y, H2, I2, ry, q2⟩ => Calls.spliced_nil ?_)))
  obtain ⟨z, r, rfl, ⟨es', n', hl', lit, low, hr⟩, q⟩ := q2
  obtain ⟨t, rfl⟩ := ry
  have mp := PySem.W.mapOf_K (prog := X.prog) (w := X.w) I2.kIn hl' lit
  refine call_meetsIn PySem.F.slot_dict_get mp.typeIs PySem.F.entry_dict_get (PySem.F.args_dict_get_2 _ _) (meets_dict_get (strKind X.prog X.w) A (strKind_is X.prog X.w z t) low) ⟨_, mp, ?_⟩
  rcases hr with ⟨u, v, e1, rv, rfl⟩ | ⟨e1, rfl⟩
  · exact ⟨v, H2, I2.tok _, by rw [PySem.W.find_K hl' e1]; exact rv, q⟩
  · exact ⟨.non, H2, I2.tok _, by rw [PySem.W.find_K hl' e1]; rfl, q⟩
theorem pe_gref {X : Cx} {x : Str} {A : Addr} {pos : Pos} (hg : Gl X x) (hm : X.mg x = some (.ref A)) (hd : (x == ("__debug__" : Str)) = false := by decide) : PE X (.Name x pos) (tC (.ref A)) := pe_glob hg hm rfl hd
end My

namespace My
open PySem L2
def topS (i : Nat) : Stmt := PySem.Challenge.pw_steadhold_k41_instructions_that_touch_re.main.body.getD i (.Pass ⟨0, 0, 0, 0⟩)
def NAMESV : List V := [.str "fork", .str "exit", .str "wait", .str "pipe", .str "read", .str "write", .str "close", .str "move", .str "open", .str "make", .str "drop", .str "sync", .str "grow", .str "who", .str "send", .str "receive"]
def PARTSV : List (Str × Option V) := [("set", some (.str "rw")), ("copy", some (.str "rr")), ("add", some (.str "rrr")), ("sub", some (.str "rrr")), ("less", some (.str "rrr")), ("load", some (.str "rr")), ("store", some (.str "rr")), ("jump", some (.str "p")), ("if", some (.str "rp")), ("call", some (.str "n")), ("nothing", none)]
theorem parts_of {K : PySem.W.Frag} {w : World} {A : Addr} {es : Array DictEntry} {n : Nat} {t0 t1 t2 t3 t4 t5 t6 t7 t8 t9 : Tok} (h1 : K.lookup A = some ⟨.type "dict", none, .dict es n, #[]⟩) (h2 : PySem.W.KeysLit w.params es.toList) (h3 : (A == sysModules) = false)
    (q0 : PySem.W.nsIn K A "set" = some (some (.str "rw" t0))) (q1 : PySem.W.nsIn K A "copy" = some (some (.str "rr" t1))) (q2 : PySem.W.nsIn K A "add" = some (some (.str "rrr" t2))) (q3 : PySem.W.nsIn K A "sub" = some (some (.str "rrr" t3))) (q4 : PySem.W.nsIn K A "less" = some (some (.str "rrr" t4))) (q5 : PySem.W.nsIn K A "load" = some (some (.str "rr" t5))) (q6 : PySem.W.nsIn K A "store" = some (some (.str "rr" t6))) (q7 : PySem.W.nsIn K A "jump" = some (some (.str "p" t7))) (q8 : PySem.W.nsIn K A "if" = some (some (.str "rp" t8))) (q9 : PySem.W.nsIn K A "call" = some (some (.str "n" t9))) (q10 : PySem.W.nsIn K A "nothing" = some none) : ∀ z r, (z, r) ∈ PARTSV → KGet K w A z r := by
  intro z r h
  unfold PARTSV at h
  simp only [List.mem_cons, List.not_mem_nil, or_false, Prod.mk.injEq] at h
  rcases h with ⟨rfl, rfl⟩ | ⟨rfl, rfl⟩ | ⟨rfl, rfl⟩ | ⟨rfl, rfl⟩ | ⟨rfl, rfl⟩ | ⟨rfl, rfl⟩ | ⟨rfl, rfl⟩ | ⟨rfl, rfl⟩ | ⟨rfl, rfl⟩ | ⟨rfl, rfl⟩ | ⟨rfl, rfl⟩
  · exact ⟨es, n, h1, h2, h3, .inl ⟨_, .str "rw", q0, ⟨_, rfl⟩, rfl⟩⟩
  · exact ⟨es, n, h1, h2, h3, .inl ⟨_, .str "rr", q1, ⟨_, rfl⟩, rfl⟩⟩
  · exact ⟨es, n, h1, h2, h3, .inl ⟨_, .str "rrr", q2, ⟨_, rfl⟩, rfl⟩⟩
  · exact ⟨es, n, h1, h2, h3, .inl ⟨_, .str "rrr", q3, ⟨_, rfl⟩, rfl⟩⟩
  · exact ⟨es, n, h1, h2, h3, .inl ⟨_, .str "rrr", q4, ⟨_, rfl⟩, rfl⟩⟩
  · exact ⟨es, n, h1, h2, h3, .inl ⟨_, .str "rr", q5, ⟨_, rfl⟩, rfl⟩⟩
  · exact ⟨es, n, h1, h2, h3, .inl ⟨_, .str "rr", q6, ⟨_, rfl⟩, rfl⟩⟩
  · exact ⟨es, n, h1, h2, h3, .inl ⟨_, .str "p", q7, ⟨_, rfl⟩, rfl⟩⟩
  · exact ⟨es, n, h1, h2, h3, .inl ⟨_, .str "rp", q8, ⟨_, rfl⟩, rfl⟩⟩
  · exact ⟨es, n, h1, h2, h3, .inl ⟨_, .str "n", q9, ⟨_, rfl⟩, rfl⟩⟩
  · exact ⟨es, n, h1, h2, h3, .inr ⟨q10, rfl⟩⟩
theorem names_of {K : PySem.W.Frag} {A : Addr} {od : Option Addr} {n : Nat} {sl : Array (Option Value)} {t0 t1 t2 t3 t4 t5 t6 t7 t8 t9 t10 t11 t12 t13 t14 t15 : Tok} (h : K.lookup A = some ⟨.type "tuple", od, .seq #[.str "fork" t0, .str "exit" t1, .str "wait" t2, .str "pipe" t3, .str "read" t4, .str "write" t5, .str "close" t6, .str "move" t7, .str "open" t8, .str "make" t9, .str "drop" t10, .str "sync" t11, .str "grow" t12, .str "who" t13, .str "send" t14, .str "receive" t15] n, sl⟩) (H : Hp) : SqT K H A NAMESV :=
  .inr ⟨_, _, _, h, rfl, rfl, (show 16 ≤ sizeLine by decide), (.cons (show RelV (.str "fork") _ from ⟨_, rfl⟩) (.cons (show RelV (.str "exit") _ from ⟨_, rfl⟩) (.cons (show RelV (.str "wait") _ from ⟨_, rfl⟩) (.cons (show RelV (.str "pipe") _ from ⟨_, rfl⟩) (.cons (show RelV (.str "read") _ from ⟨_, rfl⟩) (.cons (show RelV (.str "write") _ from ⟨_, rfl⟩) (.cons (show RelV (.str "close") _ from ⟨_, rfl⟩) (.cons (show RelV (.str "move") _ from ⟨_, rfl⟩) (.cons (show RelV (.str "open") _ from ⟨_, rfl⟩) (.cons (show RelV (.str "make") _ from ⟨_, rfl⟩) (.cons (show RelV (.str "drop") _ from ⟨_, rfl⟩) (.cons (show RelV (.str "sync") _ from ⟨_, rfl⟩) (.cons (show RelV (.str "grow") _ from ⟨_, rfl⟩) (.cons (show RelV (.str "who") _ from ⟨_, rfl⟩) (.cons (show RelV (.str "send") _ from ⟨_, rfl⟩) (.cons (show RelV (.str "receive") _ from ⟨_, rfl⟩) .nil))))))))))))))))⟩
structure Txt (K : PySem.W.Frag) (mg : Str → Option Value) (w : World) (A_NAMES A_PARTS : Addr) : Prop where
  b_abs : mg "abs" = none
  b_all : mg "all" = none
  b_bool : mg "bool" = none
  b_int : mg "int" = none
  b_isinstance : mg "isinstance" = none
  b_len : mg "len" = none
  b_list : mg "list" = none
  b_range : mg "range" = none
  b_str : mg "str" = none
  b_tuple : mg "tuple" = none
  b_zip : mg "zip" = none
  c_REGISTERS : ∃ t, mg "REGISTERS" = some (.int 6 t)
  c_TOP : ∃ t, mg "TOP" = some (.int 4294967295 t)
  c__MOST_INSTRUCTIONS : ∃ t, mg "_MOST_INSTRUCTIONS" = some (.int 600 t)
  c_NAMES : mg "NAMES" = some (.ref A_NAMES)
  t_NAMES : ∀ H, SqT K H A_NAMES NAMESV
  c__PARTS : mg "_PARTS" = some (.ref A_PARTS)
  k__PARTS : ∃ es n, K.lookup A_PARTS = some ⟨.type "dict", none, .dict es n, #[]⟩
  g__PARTS : ∀ z r, (z, r) ∈ PARTSV → KGet K w A_PARTS z r
end My

namespace My
open PySem L2
local macro_rules | `(tactic| walk_at "ne") => `(tactic| first | assumption | exact Ne.symm (by assumption) | exact ne_of_none (by assumption) (by assumption) | exact Ne.symm (ne_of_none (by assumption) (by assumption)))
local macro_rules | `(tactic| walk_at "hp") => `(tactic| first | assumption | with_reducible exact upd_same | (with_reducible refine Eq.trans (upd_ne ?_) ?_; rotate_left; walk_at "hp"; walk_at "ne"))
local macro_rules | `(tactic| walk_at "cnd") => `(tactic| first | omega | (show (0 : Int) < _; omega) | exact ⟨by omega, by omega⟩ | exact Or.inl ⟨by omega, by omega⟩ | exact Or.inr ⟨by omega, by omega⟩ | exact ⟨by omega, by omega, by decide⟩ | exact ⟨by omega, by omega, by omega⟩)
local macro_rules | `(tactic| walk_at "at") => `(tactic| first | exact atC 0 rfl rfl | exact atC 1 rfl rfl | exact atC 2 rfl rfl | exact atC 3 rfl rfl | exact atC 4 rfl rfl | exact atC 5 rfl rfl | exact atC 6 rfl rfl | exact atC 7 rfl rfl)
local macro_rules | `(tactic| walk_at "ix") => `(tactic| first | exact ixC 0 rfl (Nat.le_of_ble_eq_true rfl) | exact ixC 1 rfl (Nat.le_of_ble_eq_true rfl) | exact ixC 2 rfl (Nat.le_of_ble_eq_true rfl) | exact ixC 3 rfl (Nat.le_of_ble_eq_true rfl) | exact ixC 4 rfl (Nat.le_of_ble_eq_true rfl) | exact ixC 5 rfl (Nat.le_of_ble_eq_true rfl))
local macro_rules | `(tactic| walk_at "st") => `(tactic| first
  | refine ⟨_, rfl, ?_⟩
  | refine ⟨_, _, rfl, rfl, (by walk_at "cnd" : (_ : Prop)), ?_⟩
  | refine ⟨_, _, rfl, rfl, ?_⟩
  | refine ⟨rfl, ?_⟩
  | refine Or.inl ⟨_, rfl, ?_⟩
  | refine ⟨_, _, _, _, rfl, rfl, by exact SqL.of (by walk_at "hp"), by walk_at "at", ?_⟩
  | refine ⟨_, _, _, _, rfl, rfl, by exact SqT.of (by walk_at "hp"), by walk_at "at", ?_⟩
  | refine ⟨_, _, _, _, rfl, rfl, by walk_at "hp", by walk_at "ix", ?_⟩
  | refine ⟨_, _, rfl, Or.inl (by exact SqL.of (by walk_at "hp")), ?_⟩
  | refine ⟨_, _, rfl, Or.inr (by exact SqT.of (by walk_at "hp")), ?_⟩)
local macro_rules | `(tactic| walk_at "so") => `(tactic| first
  | refine ⟨_, _, _, _, _, rfl, by walk_at "hp", by assumption, by assumption, rfl, ?_⟩
  | refine ⟨_, _, _, _, rfl, by walk_at "hp", by assumption, by assumption, Nat.le_of_ble_eq_true rfl, ?_⟩
  | refine ⟨_, _, _, rfl, by walk_at "hp", rfl, ?_⟩
  | walk_at "st")
local macro_rules | `(tactic| walk_at "ro") => `(tactic| repeat walk_at "so")
local macro_rules | `(tactic| walk_at "run") => `(tactic| repeat walk_at "st")

/-! the tape -/
def Tape (H : Hp) (a s : Addr) : Prop := ∃ (ns : List Int) (i r z : Int), H a = some (.lst [.ref s, .int i, .int r, .int z]) ∧ H s = some (.lst (ns.map V.int)) ∧ 0 ≤ i ∧ 0 ≤ r ∧ 0 ≤ z ∧ z < 2147483647
def spNext : Sp := fun vs H Q _ => ∃ (a t : Addr) (many : Int), vs = [.ref a, .int many] ∧ 0 < many ∧ many < 1000000 ∧ Tape H a t ∧ ∀ v H', 0 ≤ v → v < many → Tape H' a t → Chg a H H' → Q (.int v) H'
theorem Tape.lst {H : Hp} {a t : Addr} (h : Tape H a t) : ∃ xs, H a = some (.lst xs) := by
  obtain ⟨ns, i, r, z, ha, _⟩ := h
  exact ⟨_, ha⟩
theorem Tape.at {H : Hp} {a t p : Addr} (h : Tape H a t) (hp : H p = none) : p ≠ a := by
  obtain ⟨ns, i, r, z, ha, _⟩ := h
  exact (ne_of_none ha hp).symm
theorem Tape.at2 {H : Hp} {a t p : Addr} (h : Tape H a t) (hp : H p = none) : p ≠ t := by
  obtain ⟨ns, i, r, z, ha, hs, _⟩ := h
  exact (ne_of_none hs hp).symm
theorem Tape.same {H H' : Hp} {a t : Addr} (h : Tape H a t) (s : Same H H') : Tape H' a t := by
  obtain ⟨ns, i, r, z, ha, hs, q⟩ := h
  exact ⟨ns, i, r, z, s _ _ ha, s _ _ hs, q⟩
theorem Tape.upd {H : Hp} {a t W : Addr} {o : HO} (h : Tape H a t) (n1 : W ≠ a) (n2 : W ≠ t) : Tape (L2.upd H W o) a t := by
  obtain ⟨ns, i, r, z, ha, hs, q⟩ := h
  exact ⟨ns, i, r, z, by rw [upd_ne n1.symm]; exact ha, by rw [upd_ne n2.symm]; exact hs, q⟩
theorem Tape.ts {H H' : Hp} {a t : Addr} (h : Tape H a t) (c : Chg a H H') : TS H H' := by
  obtain ⟨xs, e⟩ := h.lst
  exact c.ts e
section
variable {P : Program} {w : World} {K : PySem.W.Frag} {mg : Str → Option Value} {base : Heap} {A_NAMES A_PARTS : Addr}
abbrev s_law_next : Stmt := topS 19
abbrev ns_law_next : List Str := ["tape", "many", "rest", "cell"]
theorem sc_law_next : FnScope ns_law_next ["tape", "many"] (defScope s_law_next) := ⟨rfl, rfl, rfl, by decide +kernel, rfl, by decide +kernel, by decide +kernel⟩

theorem ok_law_next {f : Addr} {fd : FuncData} (F : Fun K "_law_next" "_law_next" s_law_next f fd) (T : Txt K mg  w A_NAMES A_PARTS) : FnOk P w K mg base CX0 1 f fd ["tape", "many"] spNext := by
  refine F.ok sc_law_next (fun vs H Q E h => ?_) (fun cdv A outer s H vs Q E hr h => ?_)
  · obtain ⟨a, s, many, rfl, _⟩ := h
    rfl
  · obtain ⟨a, s, many, rfl, m0, m1, ⟨ns, i, r, z, ha, hs, i0, r0, z0, z1⟩, k⟩ := h
    have nsa : s ≠ a := ne_of hs ha (by intro q; cases ns <;> cases q)
    refine ⟨_, (pss_cons (ps_set (i := 2) sc_law_next.nd rfl (Or.inl rfl) (pe_ix (kIxL K) (pv 0) pe_int (fun _ _ => rfl)))
  (pss_cons (ps_if (pt_cmpR op_gt (pv 2) pe_int (nomark _)) (pss_cons (ps_asg (pe_op op_fdiv (pv 2) (pv 1)) (pg_sub (pv 0) pe_int set_list))
  (pss_one (ps_ret (pe_op op_mod (pe_callTy call_int1 (by rfl) T.b_int (by decide +kernel) (pa_cons (pv 2) pa_nil)) (pv 1))))) pss_nil)
  (pss_cons (ps_set (i := 3) sc_law_next.nd rfl (Or.inl rfl) pe_int)
  (C8.pss_cut (ps_if (pt_cmpR op_lt (pe_ix (kIxL K) (pv 0) pe_int (fun _ _ => rfl)) (pe_callB (kLen K) (by rfl) T.b_len (by decide +kernel) (pa_cons (pe_ix (kIxL K) (pv 0) pe_int (fun _ _ => rfl)) pa_nil)) (nomark _)) (pss_cons (ps_set (i := 3) sc_law_next.nd rfl (Or.inl rfl) (pe_callB call_abs (by rfl) T.b_abs (by decide +kernel) (pa_cons (pe_ix (kIxL K) (pe_ix (kIxL K) (pv 0) pe_int (fun _ _ => rfl)) (pe_ix (kIxL K) (pv 0) pe_int (fun _ _ => rfl)) (fun _ _ => rfl)) pa_nil)))
  (pss_one (ps_augS (pv 0) pe_int (kGetL K) pe_int ip_add set_list))) pss_nil)
  (pss_cons (ps_if (pt_cmpR op_ge (pv 3) (pe_op op_pow pe_int pe_int) (nomark _)) (pss_cons (ps_asg (pe_op op_fdiv (pv 3) (pv 1)) (pg_sub (pv 0) pe_int set_list))
  (pss_one (ps_ret (pe_op op_mod (pe_callTy call_int1 (by rfl) T.b_int (by decide +kernel) (pa_cons (pv 3) pa_nil)) (pv 1))))) pss_nil)
  (pss_cons (ps_asg (pe_op op_mod (pe_callTy call_int1 (by rfl) T.b_int (by decide +kernel) (pa_cons (pe_op op_add (pe_op op_add (pe_op op_mul (pe_ix (kIxL K) (pv 0) pe_int (fun _ _ => rfl)) pe_int) (pe_op op_mul (pv 3) pe_int)) pe_int) pa_nil)) pe_int) (pg_sub (pv 0) pe_int set_list))
  (pss_one (ps_ret (pe_op op_mod (pe_callTy call_int1 (by rfl) T.b_int (by decide +kernel) (pa_cons (pe_op op_fdiv (pe_op op_mod (pe_op op_mul (pe_ix (kIxL K) (pv 0) pe_int (fun _ _ => rfl)) pe_int) pe_int) pe_int) pa_nil)) (pv 1)))))))))), ?_⟩
    -- rest = tape[2]; if rest > 0
    walk_at "run"
    refine iteD (fun h1 => ?_) (fun h1 => ?_)
    · walk_at "run"
      exact k _ _ (Int.emod_nonneg _ (by omega)) (Int.emod_lt_of_pos _ m0) ⟨ns, i, r / many, z, upd_same, by rw [upd_ne nsa]; exact hs, i0, Int.ediv_nonneg r0 (by omega), z0, z1⟩ Chg.upd
    · -- cell = 0; if tape[1] < len(tape[0])
      refine ⟨fun σ H1 => ∃ cell i', σ = [some (.ref a), some (.int many), some (.int r), some (.int cell)] ∧ 0 ≤ cell ∧ 0 ≤ i' ∧ H1 a = some (.lst [.ref s, .int i', .int r, .int z]) ∧ H1 s = some (.lst (ns.map V.int)) ∧ Chg a H H1, ?_, ?_⟩
      · walk_at "run"
        refine iteD (fun h2 => ?_) (fun h2 => ?_)
        · have hi : i.toNat < ns.length := by simpa using (show i.toNat < (ns.map V.int).length by omega)
          walk_at "run"
          refine ⟨_, _, _, _, rfl, rfl, SqL.of hs, atC i.toNat (by omega) (by rw [List.getElem?_map, List.getElem?_eq_getElem hi]; rfl), ?_⟩
          walk_at "run"
          exact ⟨_, i + 1, rfl, by split <;> omega, by omega, upd_same, by rw [upd_ne nsa]; exact hs, Chg.upd⟩
        · exact ⟨0, i, rfl, by omega, i0, ha, hs, Chg.refl _ _⟩
      · rintro σ H1 ⟨cell, i', rfl, c0, i0', ha1, hs1, ch⟩
        walk_at "run"
        refine iteD (fun h3 => ?_) (fun h3 => ?_)
        · walk_at "run"
          exact k _ _ (Int.emod_nonneg _ (by omega)) (Int.emod_lt_of_pos _ m0) ⟨ns, i', cell / many, z, upd_same, by rw [upd_ne nsa]; exact hs1, i0', Int.ediv_nonneg c0 (by omega), z0, z1⟩ (ch.trans Chg.upd)
        · walk_at "run"
          exact k _ _ (Int.emod_nonneg _ (by omega)) (Int.emod_lt_of_pos _ m0) ⟨ns, i', r, _, upd_same, by rw [upd_ne nsa]; exact hs1, i0', r0, Int.emod_nonneg _ (by decide), Int.emod_lt_of_pos _ (by decide)⟩ (ch.trans Chg.upd)
end

section
variable {P : Program} {w : World} {K : PySem.W.Frag} {mg : Str → Option Value} {base : Heap} {A_NAMES A_PARTS : Addr}
abbrev s_is_at_least : Stmt := topS 1
abbrev ns_is_at_least : List Str := ["value", "least"]
theorem sc_is_at_least : FnScope ns_is_at_least ["value", "least"] (defScope s_is_at_least) := ⟨rfl, rfl, rfl, by decide +kernel, rfl, by decide +kernel, by decide +kernel⟩

theorem ok_is_at_least {f : Addr} {fd : FuncData} (F : Fun K "is_at_least" "is_at_least" s_is_at_least f fd) (T : Txt K mg  w A_NAMES A_PARTS) : FnOk P w K mg base CX0 1 f fd ["value", "least"] spGe := by
  refine F.ok sc_is_at_least (fun vs H Q E h => ?_) (fun cdv A outer s H vs Q E hr h => ?_)
  · obtain ⟨v, d, lo, rfl, _⟩ := h
    rfl
  · obtain ⟨v, d, lo, rfl, hd, k⟩ := h
    refine ⟨_, (pss_one (ps_ret (pe_and (pe_callB (kIsi K) (by rfl) T.b_isinstance (by decide +kernel) (pa_cons (pv 0) (pa_cons (pe_bltn (v := .ty "int") (by rfl) T.b_int (by decide +kernel) rfl) pa_nil))) (pe_and (pe_not (pe_callB (kIsi K) (by rfl) T.b_isinstance (by decide +kernel) (pa_cons (pv 0) (pa_cons (pe_bltn (v := .ty "bool") (by rfl) T.b_bool (by decide +kernel) rfl) pa_nil)))) (pe_one (pe_cmpR op_ge (pv 0) (pv 1) (nomark _))))))), ?_⟩
    refine ⟨_, rfl, _, _, _, _, _, rfl, .ty _, hd.ty, kit_ty (kitInt d), _, rfl, ?_⟩
    cases hd with
    | int i =>
      refine iteT ⟨_, rfl, _, _, _, _, _, rfl, .ty _, (Dt.int i).ty, kit_ty (kitBool (.int i)), _, rfl, _, rfl, iteT ?_⟩
      walk_at "run"
      exact k
    | bl b => exact iteT ⟨_, rfl, _, _, _, _, _, rfl, .ty _, (Dt.bl b).ty, kit_ty (kitBool (.bool b)), _, rfl, _, rfl, iteF k⟩
    | non => exact iteF k
    | str x => exact iteF k
    | lst a b => exact iteF k
    | tup a b => exact iteF k
abbrev s_is_between : Stmt := topS 2
abbrev ns_is_between : List Str := ["value", "least", "most"]
theorem sc_is_between : FnScope ns_is_between ["value", "least", "most"] (defScope s_is_between) := ⟨rfl, rfl, rfl, by decide +kernel, rfl, by decide +kernel, by decide +kernel⟩

theorem ok_is_between {f : Addr} {fd : FuncData} (F : Fun K "is_between" "is_between" s_is_between f fd) (T : Txt K mg  w A_NAMES A_PARTS) (D_is_at_least : Dfn P w K mg base CX0 1 "is_at_least" ["value", "least"] spGe) : FnOk P w K mg base CX0 2 f fd ["value", "least", "most"] spBtw := by
  refine F.ok sc_is_between (fun vs H Q E h => ?_) (fun cdv A outer s H vs Q E hr h => ?_)
  · obtain ⟨v, d, lo, hi, rfl, _⟩ := h
    rfl
  · obtain ⟨v, d, lo, hi, rfl, hd, k⟩ := h
    refine ⟨_, (pss_one (ps_ret (pe_and (pe_dcall D_is_at_least (hr.mono (by decide)) (by rfl) pass0 (pa_cons (pv 0) (pa_cons (pv 1) pa_nil))) (pe_one (pe_cmpR op_le (pv 0) (pv 2) (nomark _)))))), ?_⟩
    refine ⟨_, rfl, _, rfl, _, d, _, rfl, hd, _, rfl, iteB (fun e => ?_) (fun e => ?_)⟩
    · cases hd with
      | int i =>
        walk_at "run"
        have e' : decide (lo ≤ i) = true := e
        have k' : Q (.bl (decide (lo ≤ i) && decide (i ≤ hi))) H := k
        rw [e', Bool.true_and] at k'
        exact k'
      | bl b => cases e
      | non => cases e
      | str x => cases e
      | lst a b => cases e
      | tup a b => cases e
    · have e2 : isI d lo hi = false := by
        cases d with
        | int i =>
          have e' : decide (lo ≤ i) = false := e
          show (decide (lo ≤ i) && decide (i ≤ hi)) = false
          rw [e', Bool.false_and]
        | _ => rfl
      rw [e2] at k
      exact k
abbrev s_is_index : Stmt := topS 3
abbrev ns_is_index : List Str := ["value", "many"]
theorem sc_is_index : FnScope ns_is_index ["value", "many"] (defScope s_is_index) := ⟨rfl, rfl, rfl, by decide +kernel, rfl, by decide +kernel, by decide +kernel⟩

theorem ok_is_index {f : Addr} {fd : FuncData} (F : Fun K "is_index" "is_index" s_is_index f fd) (T : Txt K mg  w A_NAMES A_PARTS) (D_is_between : Dfn P w K mg base CX0 2 "is_between" ["value", "least", "most"] spBtw) : FnOk P w K mg base CX0 3 f fd ["value", "many"] spIdx := by
  refine F.ok sc_is_index (fun vs H Q E h => ?_) (fun cdv A outer s H vs Q E hr h => ?_)
  · obtain ⟨v, d, n, rfl, _⟩ := h
    rfl
  · obtain ⟨v, d, n, rfl, hd, k⟩ := h
    refine ⟨_, (pss_one (ps_ret (pe_dcall D_is_between (hr.mono (by decide)) (by rfl) pass0 (pa_cons (pv 0) (pa_cons pe_int (pa_cons (pe_op op_sub (pv 1) pe_int) pa_nil)))))), ?_⟩
    walk_at "run"
    exact ⟨_, d, _, _, rfl, hd, k⟩
end

section
variable {P : Program} {w : World} {K : PySem.W.Frag} {mg : Str → Option Value} {base : Heap} {A_NAMES A_PARTS : Addr}
abbrev s_is_word : Stmt := topS 6
abbrev ns_is_word : List Str := ["value"]
theorem sc_is_word : FnScope ns_is_word ["value"] (defScope s_is_word) := ⟨rfl, rfl, rfl, by decide +kernel, rfl, by decide +kernel, by decide +kernel⟩

theorem ok_is_word {f : Addr} {fd : FuncData} (F : Fun K "is_word" "is_word" s_is_word f fd) (T : Txt K mg  w A_NAMES A_PARTS) (D_is_between : Dfn P w K mg base CX0 2 "is_between" ["value", "least", "most"] spBtw) : FnOk P w K mg base CX0 3 f fd ["value"] spWord := by
  refine F.ok sc_is_word (fun vs H Q E h => ?_) (fun cdv A outer s H vs Q E hr h => ?_)
  · obtain ⟨v, d, rfl, _⟩ := h
    rfl
  · obtain ⟨v, d, rfl, hd, k⟩ := h
    refine ⟨_, (pss_one (ps_ret (pe_dcall D_is_between (hr.mono (by decide)) (by rfl) pass0 (pa_cons (pv 0) (pa_cons pe_int (pa_cons (pe_gint (by rfl) T.c_TOP) pa_nil)))))), ?_⟩
    walk_at "run"
    exact ⟨_, d, _, _, rfl, hd, k⟩
end

end My

namespace My
open PySem L2
local macro_rules | `(tactic| walk_at "ne") => `(tactic| first | assumption | exact Ne.symm (by assumption) | exact ne_of_none (by assumption) (by assumption) | exact Ne.symm (ne_of_none (by assumption) (by assumption)))
local macro_rules | `(tactic| walk_at "hp") => `(tactic| first | assumption | with_reducible exact upd_same | (with_reducible refine Eq.trans (upd_ne ?_) ?_; rotate_left; walk_at "hp"; walk_at "ne"))
local macro_rules | `(tactic| walk_at "cnd") => `(tactic| first | omega | (show (0 : Int) < _; omega) | exact ⟨by omega, by omega⟩ | exact Or.inl ⟨by omega, by omega⟩ | exact Or.inr ⟨by omega, by omega⟩ | exact ⟨by omega, by omega, by decide⟩ | exact ⟨by omega, by omega, by omega⟩)
local macro_rules | `(tactic| walk_at "at") => `(tactic| first | exact atC 0 rfl rfl | exact atC 1 rfl rfl | exact atC 2 rfl rfl | exact atC 3 rfl rfl | exact atC 4 rfl rfl | exact atC 5 rfl rfl | exact atC 6 rfl rfl | exact atC 7 rfl rfl)
local macro_rules | `(tactic| walk_at "ix") => `(tactic| first | exact ixC 0 rfl (Nat.le_of_ble_eq_true rfl) | exact ixC 1 rfl (Nat.le_of_ble_eq_true rfl) | exact ixC 2 rfl (Nat.le_of_ble_eq_true rfl) | exact ixC 3 rfl (Nat.le_of_ble_eq_true rfl) | exact ixC 4 rfl (Nat.le_of_ble_eq_true rfl) | exact ixC 5 rfl (Nat.le_of_ble_eq_true rfl))
local macro_rules | `(tactic| walk_at "st") => `(tactic| first
  | refine ⟨_, rfl, ?_⟩
  | refine ⟨_, _, rfl, rfl, (by walk_at "cnd" : (_ : Prop)), ?_⟩
  | refine ⟨_, _, rfl, rfl, ?_⟩
  | refine ⟨rfl, ?_⟩
  | refine Or.inl ⟨_, rfl, ?_⟩
  | refine ⟨_, _, _, _, rfl, rfl, by exact SqL.of (by walk_at "hp"), by walk_at "at", ?_⟩
  | refine ⟨_, _, _, _, rfl, rfl, by exact SqT.of (by walk_at "hp"), by walk_at "at", ?_⟩
  | refine ⟨_, _, _, _, rfl, rfl, by walk_at "hp", by walk_at "ix", ?_⟩
  | refine ⟨_, _, rfl, Or.inl (by exact SqL.of (by walk_at "hp")), ?_⟩
  | refine ⟨_, _, rfl, Or.inr (by exact SqT.of (by walk_at "hp")), ?_⟩)
local macro_rules | `(tactic| walk_at "so") => `(tactic| first
  | refine ⟨_, _, _, _, _, rfl, by walk_at "hp", by assumption, by assumption, rfl, ?_⟩
  | refine ⟨_, _, _, _, rfl, by walk_at "hp", by assumption, by assumption, Nat.le_of_ble_eq_true rfl, ?_⟩
  | refine ⟨_, _, _, rfl, by walk_at "hp", rfl, ?_⟩
  | walk_at "st")
local macro_rules | `(tactic| walk_at "ro") => `(tactic| repeat walk_at "so")
local macro_rules | `(tactic| walk_at "run") => `(tactic| repeat walk_at "st")

/-! ### instructions -/
theorem isI_int {d : PyData} {lo hi : Int} (h : isI d lo hi = true) : ∃ i, d = .int i ∧ lo ≤ i ∧ i ≤ hi := by
  cases d with
  | int i =>
    have h' : (decide (lo ≤ i) && decide (i ≤ hi)) = true := h
    rw [Bool.and_eq_true, decide_eq_true_eq, decide_eq_true_eq] at h'
    exact ⟨i, rfl, h'.1, h'.2⟩
  | _ => cases h
theorem isI_ok {i lo hi : Int} (h1 : lo ≤ i) (h2 : i ≤ hi) : isI (.int i) lo hi = true := by
  show (decide (lo ≤ i) && decide (i ≤ hi)) = true
  rw [decide_eq_true h1, decide_eq_true h2]; rfl
def flatD : PyData → Bool
  | .list _ => false
  | .tuple _ => false
  | .dict _ => false
  | _ => true
def isStrD : PyData → Bool
  | .str _ => true
  | _ => false
def isName : PyData → Bool
  | .str z => inV (.str z) NAMESV
  | _ => false
def isPart (d : PyData) (c : Nat) : Bool := if c = 114 then isI d 0 5 else if c = 119 then isI d 0 4294967295 else if c = 112 then isI d 0 600 else isName d
def partsOk (ds : List PyData) (ks : Str) : Bool := (ds.zip ks.cps.toList).all fun p => isPart p.1 p.2
def TBL : List (Str × Option Str) := [("set", some "rw"), ("copy", some "rr"), ("add", some "rrr"), ("sub", some "rrr"), ("less", some "rrr"), ("load", some "rr"), ("store", some "rr"), ("jump", some "p"), ("if", some "rp"), ("call", some "n"), ("nothing", none)]
theorem tbl_parts {z : Str} {o : Option Str} (h : (z, o) ∈ TBL) : (z, o.map V.str) ∈ PARTSV := by
  unfold TBL at h
  simp only [List.mem_cons, List.not_mem_nil, or_false, Prod.mk.injEq] at h
  rcases h with ⟨rfl, rfl⟩ | ⟨rfl, rfl⟩ | ⟨rfl, rfl⟩ | ⟨rfl, rfl⟩ | ⟨rfl, rfl⟩ | ⟨rfl, rfl⟩ | ⟨rfl, rfl⟩ | ⟨rfl, rfl⟩ | ⟨rfl, rfl⟩ | ⟨rfl, rfl⟩ | ⟨rfl, rfl⟩ <;> simp [PARTSV]
def insB (o : Option Str) (ds : List PyData) : Bool := match o with
  | none => false
  | some ks => decide (ds.length = ks.cps.size) && partsOk ds ks
theorem tbl_len {z ks : Str} (h : (z, some ks) ∈ TBL) : ks.cps.size ≤ 3 := by
  unfold TBL at h
  simp only [List.mem_cons, List.not_mem_nil, or_false, Prod.mk.injEq, Option.some.injEq] at h
  rcases h with ⟨_, rfl⟩ | ⟨_, rfl⟩ | ⟨_, rfl⟩ | ⟨_, rfl⟩ | ⟨_, rfl⟩ | ⟨_, rfl⟩ | ⟨_, rfl⟩ | ⟨_, rfl⟩ | ⟨_, rfl⟩ | ⟨_, rfl⟩ | ⟨_, h⟩
  · decide +kernel
  · decide +kernel
  · decide +kernel
  · decide +kernel
  · decide +kernel
  · decide +kernel
  · decide +kernel
  · decide +kernel
  · decide +kernel
  · decide +kernel
  · cases h
inductive InsFit : PyData → Bool → Prop
  | no {d : PyData} (h : isTupD d = false) : InsFit d false
  | nil : InsFit (.tuple []) false
  | ins {z : Str} {o : Option Str} {ds : List PyData} {b : Bool} (h : (z, o) ∈ TBL) (fl : ∀ d ∈ ds, flatD d = true) (hb : b = insB o ds) : InsFit (.tuple (.str z :: ds)) b
theorem kitStr : ∀ d : PyData, kitB (tyName d) "str" = some (isStrD d)
  | .none => (by decide +kernel : kitB "NoneType" "str" = some false)
  | .bool _ => (by decide +kernel : kitB "bool" "str" = some false)
  | .int _ => (by decide +kernel : kitB "int" "str" = some false)
  | .str _ => (by decide +kernel : kitB "str" "str" = some true)
  | .list _ => (by decide +kernel : kitB "list" "str" = some false)
  | .tuple _ => (by decide +kernel : kitB "tuple" "str" = some false)
  | .dict _ => (by decide +kernel : kitB "dict" "str" = some false)
theorem strC {c k : Nat} : (V.str ⟨#[c]⟩ = V.str ⟨#[k]⟩) ↔ c = k := by
  constructor
  · intro h
    injection h with h
    injection h with h
    have := congrArg Array.toList h
    simpa using this
  · rintro rfl; rfl
theorem strR (c : Nat) : (V.str ⟨#[c]⟩ = V.str "r") ↔ c = 114 := by
  rw [show ("r" : Str) = ⟨#[114]⟩ by decide +kernel]; exact strC
theorem strW (c : Nat) : (V.str ⟨#[c]⟩ = V.str "w") ↔ c = 119 := by
  rw [show ("w" : Str) = ⟨#[119]⟩ by decide +kernel]; exact strC
theorem strP (c : Nat) : (V.str ⟨#[c]⟩ = V.str "p") ↔ c = 112 := by
  rw [show ("p" : Str) = ⟨#[112]⟩ by decide +kernel]; exact strC
def spPart : Sp := fun vs H Q _ => ∃ v d c, vs = [v, .str ⟨#[c]⟩] ∧ Dt H v d ∧ flatD d = true ∧ Q (.bl (isPart d c)) H
def spIns : Sp := fun vs H Q _ => ∃ v d b, vs = [v] ∧ Dt H v d ∧ InsFit d b ∧ ∀ H', Same H H' → Q (.bl b) H'
section
variable {P : Program} {w : World} {K : PySem.W.Frag} {mg : Str → Option Value} {base : Heap} {A_NAMES A_PARTS : Addr}
abbrev s_is_part : Stmt := topS 14
abbrev ns_is_part : List Str := ["value", "kind"]
theorem sc_is_part : FnScope ns_is_part ["value", "kind"] (defScope s_is_part) := ⟨rfl, rfl, rfl, by decide +kernel, rfl, by decide +kernel, by decide +kernel⟩

theorem ok_is_part {f : Addr} {fd : FuncData} (F : Fun K "_is_part" "_is_part" s_is_part f fd) (T : Txt K mg  w A_NAMES A_PARTS) (D_is_index : Dfn P w K mg base CX0 3 "is_index" ["value", "many"] spIdx) (D_is_word : Dfn P w K mg base CX0 3 "is_word" ["value"] spWord) (D_is_between : Dfn P w K mg base CX0 2 "is_between" ["value", "least", "most"] spBtw) : FnOk P w K mg base CX0 4 f fd ["value", "kind"] spPart := by
  refine F.ok sc_is_part (fun vs H Q E h => ?_) (fun cdv A outer s H vs Q E hr h => ?_)
  · obtain ⟨v, d, c, rfl, _⟩ := h
    rfl
  · obtain ⟨v, d, c, rfl, hd, fl, k⟩ := h
    refine ⟨_, (pss_cons (ps_if (pt_cmpR op_eq (pv 1) pe_str (nomark _)) (pss_one (ps_ret (pe_dcall D_is_index (hr.mono (by decide)) (by rfl) pass0 (pa_cons (pv 0) (pa_cons (pe_gint (by rfl) T.c_REGISTERS) pa_nil))))) pss_nil)
  (pss_cons (ps_if (pt_cmpR op_eq (pv 1) pe_str (nomark _)) (pss_one (ps_ret (pe_dcall D_is_word (hr.mono (by decide)) (by rfl) pass0 (pa_cons (pv 0) pa_nil)))) pss_nil)
  (pss_cons (ps_if (pt_cmpR op_eq (pv 1) pe_str (nomark _)) (pss_one (ps_ret (pe_dcall D_is_between (hr.mono (by decide)) (by rfl) pass0 (pa_cons (pv 0) (pa_cons pe_int (pa_cons (pe_gint (by rfl) T.c__MOST_INSTRUCTIONS) pa_nil)))))) pss_nil)
  (pss_one (ps_ret (pe_and (pe_callB (kIsi K) (by rfl) T.b_isinstance (by decide +kernel) (pa_cons (pv 0) (pa_cons (pe_bltn (v := .ty "str") (by rfl) T.b_str (by decide +kernel) rfl) pa_nil))) (pe_one (pe_cmpR (kIn K) (pv 0) (pe_gref (by rfl) T.c_NAMES) (by rfl))))))))), ?_⟩
    unfold isPart at k
    walk_at "run"
    refine iteD (fun e => ?_) (fun e => ?_)
    · rw [if_pos ((strR c).mp e)] at k
      walk_at "run"
      exact ⟨v, d, _, rfl, hd, k⟩
    · rw [if_neg (fun q => e ((strR c).mpr q))] at k
      walk_at "run"
      refine iteD (fun e => ?_) (fun e => ?_)
      · rw [if_pos ((strW c).mp e)] at k
        walk_at "run"
        exact ⟨v, d, rfl, hd, k⟩
      · rw [if_neg (fun q => e ((strW c).mpr q))] at k
        walk_at "run"
        refine iteD (fun e => ?_) (fun e => ?_)
        · rw [if_pos ((strP c).mp e)] at k
          walk_at "run"
          exact ⟨v, d, _, _, rfl, hd, k⟩
        · rw [if_neg (fun q => e ((strP c).mpr q))] at k
          walk_at "run"
          refine ⟨_, _, _, _, _, rfl, .ty _, hd.ty, kit_ty (kitStr d), _, rfl, ?_⟩
          cases hd with
          | str x =>
            refine iteT ?_
            walk_at "run"
            exact ⟨_, _, rfl, .inr (T.t_NAMES H), rfl, by decide +kernel, k⟩
          | int i => exact iteF k
          | bl b => exact iteF k
          | non => exact iteF k
          | lst a b => cases fl
          | tup a b => cases fl
abbrev s_is_instruction : Stmt := topS 13
abbrev ns_is_instruction : List Str := ["value", "kinds", "part", "kind"]
theorem sc_is_instruction : FnScope ns_is_instruction ["value"] (defScope s_is_instruction) := ⟨rfl, rfl, rfl, by decide +kernel, rfl, by decide +kernel, by decide +kernel⟩

theorem ok_is_instruction {f : Addr} {fd : FuncData} (F : Fun K "_is_instruction" "_is_instruction" s_is_instruction f fd) (T : Txt K mg  w A_NAMES A_PARTS) (D_is_part : Dfn P w K mg base CX0 4 "_is_part" ["value", "kind"] spPart) : FnOk P w K mg base CX0 5 f fd ["value"] spIns := by
  refine F.ok sc_is_instruction (fun vs H Q E h => ?_) (fun cdv A outer s H vs Q E hr h => ?_)
  · obtain ⟨v, d, b, rfl, _⟩ := h
    rfl
  · obtain ⟨v, d, b, rfl, hd, fit, k⟩ := h
    refine ⟨_, (pss_cons (ps_if (PW.pt (pw_or (pt_not (pt_val (pe_callB (kIsi K) (by rfl) T.b_isinstance (by decide +kernel) (pa_cons (pv 0) (pa_cons (pe_bltn (v := .ty "tuple") (by rfl) T.b_tuple (by decide +kernel) rfl) pa_nil))))) (pw_or (pt_cmpR op_eq (pe_callB (kLen K) (by rfl) T.b_len (by decide +kernel) (pa_cons (pv 0) pa_nil)) pe_int (nomark _)) (pw_or1 (pt_not (pt_val (pe_callB (kIsi K) (by rfl) T.b_isinstance (by decide +kernel) (pa_cons (pe_ix (kIxT K) (pv 0) pe_int (fun _ _ => rfl)) (pa_cons (pe_bltn (v := .ty "str") (by rfl) T.b_str (by decide +kernel) rfl) pa_nil))))))))) (pss_one (ps_ret pe_bl)) pss_nil)
  (pss_cons (ps_set (i := 1) sc_is_instruction.nd rfl (Or.inl rfl) (pe_kget K w (by rfl) T.c__PARTS T.k__PARTS (pe_ix (kIxT K) (pv 0) pe_int (fun _ _ => rfl)) ⟨rfl, rfl, rfl, rfl⟩))
  (pss_cons (ps_if (PW.pt (pw_or (pt_cmpR op_isN (pv 1) pe_non (nomark _)) (pw_or1 (pt_cmpR op_ne (pe_callB (kLen K) (by rfl) T.b_len (by decide +kernel) (pa_cons (pv 0) pa_nil)) (pe_op op_add (pe_callB call_len_str (by rfl) T.b_len (by decide +kernel) (pa_cons (pv 1) pa_nil)) pe_int) (nomark _))))) (pss_one (ps_ret pe_bl)) pss_nil)
  (pss_one (ps_ret (pe_callB (kAll K rfl) (by rfl) T.b_all (by decide +kernel) (pa_cons (pe_lc (own := [("part", 2), ("kind", 3)]) (by rfl) sc_is_instruction.nd (pi_zipX K (by rfl) T.b_zip (pa_cons (pe_slice (kSlT K) (pv 0) (po_some pe_int) po_none) (pa_cons (pv 1) pa_nil))) (blkOk_by (N := ns_is_instruction) (sc := defScope s_is_instruction) (by decide +kernel)) (fun _ _ _ _ _ => (kpgT K (n := 2) (by rfl) (pgs_cons (pg_name (i := 2) sc_is_instruction.nd rfl (Or.inl rfl)) (pgs_cons (pg_name (i := 3) sc_is_instruction.nd rfl (Or.inl rfl)) pgs_nil)))) (fun _ _ _ _ _ => pts_nil) (fun _ _ _ _ _ => (pe_dcall D_is_part (hr.mono (by decide)) (by rfl) pass0 (pa_cons (pv 2) (pa_cons (pv 3) pa_nil))))) pa_nil))))))), ?_⟩
    refine ⟨_, rfl, _, _, _, _, _, rfl, .ty _, hd.ty, kit_ty (kitTup d), _, rfl, ?_⟩
    cases fit with
    | no h => rw [h]; exact iteT (k H (Same.refl H))
    | nil =>
      cases hd with
      | tup ha hs =>
        cases hs
        refine iteF ?_
        walk_at "run"
        exact k H (Same.refl H)
    | @ins z o ds _ hz fl hb =>
      cases hd with
      | @tup a _ _ ha hs =>
        cases hs with
        | @cons v0 xs _ _ h0 hs =>
          cases h0
          refine iteF ?_
          walk_at "run"
          refine ⟨_, _, _, _, _, rfl, .ty _, (Dt.str z).ty, kit_ty (kitStr (.str z)), _, rfl, iteF ?_⟩
          walk_at "run"
          refine ⟨z, _, rfl, T.g__PARTS z _ (tbl_parts hz), ?_⟩
          have hl := hs.len
          cases o with
          | none =>
            rw [hb] at k
            walk_at "run"
            exact iteT (k H (Same.refl H))
          | some ks =>
            have k3 := tbl_len hz
            have kl : ks.length = ks.cps.size := rfl
            walk_at "run"
            refine ⟨szl (by rw [kl]; match ks.cps.size, k3 with | 0, _ => rfl | 1, _ => rfl | 2, _ => rfl | 3, _ => rfl), ?_⟩
            walk_at "run"
            refine iteDn (fun e => ?_) (fun e => ?_)
            · have e' : insB (some ks) ds = false := by
                show (decide (ds.length = ks.cps.size) && _) = false
                rw [decide_eq_false, Bool.false_and]
                intro q
                exact e (show V.int (((V.str z :: xs).length : Nat) : Int) = V.int ((ks.length : Int) + 1) by rw [List.length_cons, hl, q, kl]; rfl)
              rw [hb, e'] at k
              exact k H (Same.refl H)
            · have el : ds.length = ks.cps.size := by
                have q : (((V.str z :: xs).length : Nat) : Int) = (ks.length : Int) + 1 := by injection e
                rw [List.length_cons, hl, kl] at q
                omega
              have ec : cutV (V.str z :: xs) (some 1) none = xs := by
                unfold cutV
                rw [show (some (1 : Int)) = some ((1 : Nat) : Int) from rfl, HT.sIx_nat, HT.sIx_none, Nat.min_eq_left (by rw [List.length_cons]; omega)]
                show List.take _ xs = xs
                exact List.take_of_length_le (by rw [List.length_cons]; omega)
              walk_at "run"
              refine ⟨a, _, rfl, SqT.of ha, fun q => ?_, fun _ p hp => ?_⟩
              · have q1 := q.1
                rw [show (some (1 : Int)) = some ((1 : Nat) : Int) from rfl, HT.sIx_nat, Nat.min_eq_left (by rw [List.length_cons]; omega)] at q1
                cases q1
              rw [ec]
              have s0 := Same.new (o := .tup xs) hp
              walk_at "run"
              refine ⟨p, ks, xs, rfl, SqT.of upd_same, fun D hD => ?_⟩
              refine lcX (xs := xs) (((ds.zip ks.cps.toList).map fun q => isPart q.1 q.2).map V.bl) (by simp [hl, el]) (by omega) (by omega) upd_same hD ?_ ?_
              · intro j u y c q H1 Q' hu hc hy s1 hq qk
                obtain ⟨d, hd1, hd2⟩ := hs.getV hu
                have hz2 : (ds.zip ks.cps.toList)[j]? = some (d, c) := by
                  rw [List.getElem?_zip_eq_some]
                  exact ⟨hd1, by rw [Array.getElem?_toList]; exact hc⟩
                have ey : y = .bl (isPart d c) := by
                  rw [List.getElem?_map, List.getElem?_map, hz2] at hy
                  exact (Option.some.inj hy).symm
                subst ey
                refine ⟨_, _, rfl, SqT.of hq, rfl, _, _, rfl, _, _, rfl, rfl, rfl, ?_⟩
                walk_at "run"
                exact ⟨u, d, c, rfl, hd2.same (s0.trans s1), fl d (List.mem_of_getElem? hd1), qk H1 (Same.refl _)⟩
              · intro H1 s1 d1
                walk_at "run"
                refine ⟨_, _, rfl, SqL.of d1, ?_⟩
                have e' : insB (some ks) ds = ((ds.zip ks.cps.toList).map fun q => isPart q.1 q.2).all id := by
                  show (decide (ds.length = ks.cps.size) && partsOk ds ks) = _
                  rw [decide_eq_true el, Bool.true_and, List.all_map]; rfl
                rw [hb, e'] at k
                exact k H1 (s0.trans s1)
end
end My

namespace My
open PySem L2
local macro_rules | `(tactic| walk_at "ne") => `(tactic| first | assumption | exact Ne.symm (by assumption) | exact ne_of_none (by assumption) (by assumption) | exact Ne.symm (ne_of_none (by assumption) (by assumption)))
local macro_rules | `(tactic| walk_at "hp") => `(tactic| first | assumption | with_reducible exact upd_same | (with_reducible refine Eq.trans (upd_ne ?_) ?_; rotate_left; walk_at "hp"; walk_at "ne"))
local macro_rules | `(tactic| walk_at "cnd") => `(tactic| first | omega | (show (0 : Int) < _; omega) | exact ⟨by omega, by omega⟩ | exact Or.inl ⟨by omega, by omega⟩ | exact Or.inr ⟨by omega, by omega⟩ | exact ⟨by omega, by omega, by decide⟩ | exact ⟨by omega, by omega, by omega⟩)
local macro_rules | `(tactic| walk_at "at") => `(tactic| first | exact atC 0 rfl rfl | exact atC 1 rfl rfl | exact atC 2 rfl rfl | exact atC 3 rfl rfl | exact atC 4 rfl rfl | exact atC 5 rfl rfl | exact atC 6 rfl rfl | exact atC 7 rfl rfl)
local macro_rules | `(tactic| walk_at "ix") => `(tactic| first | exact ixC 0 rfl (Nat.le_of_ble_eq_true rfl) | exact ixC 1 rfl (Nat.le_of_ble_eq_true rfl) | exact ixC 2 rfl (Nat.le_of_ble_eq_true rfl) | exact ixC 3 rfl (Nat.le_of_ble_eq_true rfl) | exact ixC 4 rfl (Nat.le_of_ble_eq_true rfl) | exact ixC 5 rfl (Nat.le_of_ble_eq_true rfl))
local macro_rules | `(tactic| walk_at "st") => `(tactic| first
  | refine ⟨_, rfl, ?_⟩
  | refine ⟨_, _, rfl, rfl, (by walk_at "cnd" : (_ : Prop)), ?_⟩
  | refine ⟨_, _, rfl, rfl, ?_⟩
  | refine ⟨rfl, ?_⟩
  | refine Or.inl ⟨_, rfl, ?_⟩
  | refine ⟨_, _, _, _, rfl, rfl, by exact SqL.of (by walk_at "hp"), by walk_at "at", ?_⟩
  | refine ⟨_, _, _, _, rfl, rfl, by exact SqT.of (by walk_at "hp"), by walk_at "at", ?_⟩
  | refine ⟨_, _, _, _, rfl, rfl, by walk_at "hp", by walk_at "ix", ?_⟩
  | refine ⟨_, _, rfl, Or.inl (by exact SqL.of (by walk_at "hp")), ?_⟩
  | refine ⟨_, _, rfl, Or.inr (by exact SqT.of (by walk_at "hp")), ?_⟩)
local macro_rules | `(tactic| walk_at "so") => `(tactic| first
  | refine ⟨_, _, _, _, _, rfl, by walk_at "hp", by assumption, by assumption, rfl, ?_⟩
  | refine ⟨_, _, _, _, rfl, by walk_at "hp", by assumption, by assumption, Nat.le_of_ble_eq_true rfl, ?_⟩
  | refine ⟨_, _, _, rfl, by walk_at "hp", rfl, ?_⟩
  | walk_at "st")
local macro_rules | `(tactic| walk_at "ro") => `(tactic| repeat walk_at "so")
local macro_rules | `(tactic| walk_at "run") => `(tactic| repeat walk_at "st")

def vN (n : Nat) : V := .int (n : Int)
def nD (n : Nat) : PyData := .int (n : Int)
theorem getVN {ws : List Nat} {i : Nat} (h : i < ws.length) : (ws.map vN)[i]? = some (.int (ws.getD i 0 : Nat)) := by
  rw [List.getElem?_map, List.getElem?_eq_getElem h, List.getD_eq_getElem?_getD, List.getElem?_eq_getElem h]; rfl
theorem vns_dt {H : Hp} : ∀ ns : List Nat, DtAll H (ns.map vN) (ns.map nD)
  | [] => .nil
  | n :: ns => .cons (.int _) (vns_dt ns)
inductive Ins
  | set (r v : Nat)
  | copy (r s : Nat)
  | add (r s t : Nat)
  | sub (r s t : Nat)
  | less (r s t : Nat)
  | jump (q : Nat)
  | iff (r q : Nat)
  | load (r s : Nat)
  | store (r s : Nat)
  | call (n : Str)
def insD : Ins → PyData
  | .set r v => .tuple [.str "set", nD r, nD v]
  | .copy r s => .tuple [.str "copy", nD r, nD s]
  | .add r s t => .tuple [.str "add", nD r, nD s, nD t]
  | .sub r s t => .tuple [.str "sub", nD r, nD s, nD t]
  | .less r s t => .tuple [.str "less", nD r, nD s, nD t]
  | .jump q => .tuple [.str "jump", nD q]
  | .iff r q => .tuple [.str "if", nD r, nD q]
  | .load r s => .tuple [.str "load", nD r, nD s]
  | .store r s => .tuple [.str "store", nD r, nD s]
  | .call n => .tuple [.str "call", .str n]
def InsOk : Ins → Prop
  | .set r v => r < 6 ∧ v < 4294967296
  | .copy r s => r < 6 ∧ s < 6
  | .add r s t => r < 6 ∧ s < 6 ∧ t < 6
  | .sub r s t => r < 6 ∧ s < 6 ∧ t < 6
  | .less r s t => r < 6 ∧ s < 6 ∧ t < 6
  | .jump q => q ≤ 600
  | .iff r q => r < 6 ∧ q ≤ 600
  | .load r s => r < 6 ∧ s < 6
  | .store r s => r < 6 ∧ s < 6
  | .call n => inV (.str n) NAMESV = true ∧ SeqAt.shaped (.str n) = true
def isStep : Ins → Bool
  | .load _ _ => false
  | .store _ _ => false
  | .call _ => false
  | _ => true
def stepI : Ins → List Nat → Nat → List Nat × Nat
  | .set r v, rs, p => (rs.set r v, p + 1)
  | .copy r s, rs, p => (rs.set r (rs.getD s 0), p + 1)
  | .add r s t, rs, p => (rs.set r ((rs.getD s 0 + rs.getD t 0) % 4294967296), p + 1)
  | .sub r s t, rs, p => (rs.set r ((rs.getD s 0 + 4294967296 - rs.getD t 0) % 4294967296), p + 1)
  | .less r s t, rs, p => (rs.set r (if rs.getD s 0 < rs.getD t 0 then 1 else 0), p + 1)
  | .jump q, rs, _ => (rs, q)
  | .iff r q, rs, p => (rs, if rs.getD r 0 = 0 then p + 1 else q)
  | _, rs, p => (rs, p)
def RegOk (rs : List Nat) : Prop := rs.length = 6 ∧ ∀ v ∈ rs, v < 4294967296
def stepD (i : Ins) (rs : List Nat) (p : Nat) : PyData := .tuple [.list ((stepI i rs p).1.map nD), nD (stepI i rs p).2]
theorem reg_lt {rs : List Nat} (h : RegOk rs) (i : Nat) : rs.getD i 0 < 4294967296 := by
  rw [List.getD_eq_getElem?_getD]
  cases e : rs[i]? with
  | none => show 0 < _; omega
  | some v => exact h.2 v (List.mem_of_getElem? e)
theorem RegOk.set {rs : List Nat} (h : RegOk rs) {r v : Nat} (hv : v < 4294967296) : RegOk (rs.set r v) := by
  refine ⟨by rw [List.length_set]; exact h.1, fun u hu => ?_⟩
  rcases List.mem_or_eq_of_mem_set hu with h1 | rfl
  · exact h.2 u h1
  · exact hv
theorem step_ok {i : Ins} {rs : List Nat} {p : Nat} (h : RegOk rs) (ok : InsOk i) : RegOk (stepI i rs p).1 := by
  cases i with
  | set r v => exact h.set ok.2
  | copy r s => exact h.set (reg_lt h s)
  | add r s t => exact h.set (Nat.mod_lt _ (by decide))
  | sub r s t => exact h.set (Nat.mod_lt _ (by decide))
  | less r s t => exact h.set (by split <;> decide)
  | _ => exact h
theorem partN {n : Nat} (h : n < 6) : isPart (nD n) 114 = true := by
  show (if (114 : Nat) = 114 then isI (.int (n : Int)) 0 5 else _) = true
  rw [if_pos rfl]
  exact isI_ok (by omega) (by omega)
theorem partW {n : Nat} (h : n < 4294967296) : isPart (nD n) 119 = true := by
  show (if (119 : Nat) = 114 then _ else if (119 : Nat) = 119 then isI (.int (n : Int)) 0 4294967295 else _) = true
  rw [if_neg (by decide), if_pos rfl]
  exact isI_ok (by omega) (by omega)
theorem partP {n : Nat} (h : n ≤ 600) : isPart (nD n) 112 = true := by
  show (if (112 : Nat) = 114 then _ else if (112 : Nat) = 119 then _ else if (112 : Nat) = 112 then isI (.int (n : Int)) 0 600 else _) = true
  rw [if_neg (by decide), if_neg (by decide), if_pos rfl]
  exact isI_ok (by omega) (by omega)
theorem partS {n : Str} (h : inV (.str n) NAMESV = true) : isPart (.str n) 110 = true := by
  show (if (110 : Nat) = 114 then _ else if (110 : Nat) = 119 then _ else if (110 : Nat) = 112 then _ else inV (.str n) NAMESV) = true
  rw [if_neg (by decide), if_neg (by decide), if_neg (by decide), h]
theorem fit1 {z ks : Str} {a : PyData} {c : Nat} (hz : (z, some ks) ∈ TBL) (hk : ks = ⟨#[c]⟩) (fa : flatD a = true) (ha : isPart a c = true) : InsFit (.tuple [.str z, a]) true := by
  subst hk
  refine .ins hz (fun d hd => by rw [List.mem_singleton.mp hd]; exact fa) ?_
  show true = (decide ((1 : Nat) = 1) && (isPart a c && true))
  rw [ha]; rfl
theorem fit2 {z ks : Str} {a b : PyData} {c e : Nat} (hz : (z, some ks) ∈ TBL) (hk : ks = ⟨#[c, e]⟩) (fa : flatD a = true) (fb : flatD b = true) (ha : isPart a c = true) (hb : isPart b e = true) : InsFit (.tuple [.str z, a, b]) true := by
  subst hk
  refine .ins hz (fun d hd => ?_) ?_
  · simp only [List.mem_cons, List.not_mem_nil, or_false] at hd
    rcases hd with rfl | rfl
    · exact fa
    · exact fb
  · show true = (decide ((2 : Nat) = 2) && (isPart a c && (isPart b e && true)))
    rw [ha, hb]; rfl
theorem fit3 {z ks : Str} {a b d : PyData} {c e f : Nat} (hz : (z, some ks) ∈ TBL) (hk : ks = ⟨#[c, e, f]⟩) (fa : flatD a = true) (fb : flatD b = true) (fd : flatD d = true) (ha : isPart a c = true) (hb : isPart b e = true) (hd : isPart d f = true) : InsFit (.tuple [.str z, a, b, d]) true := by
  subst hk
  refine .ins hz (fun g hg => ?_) ?_
  · simp only [List.mem_cons, List.not_mem_nil, or_false] at hg
    rcases hg with rfl | rfl | rfl
    · exact fa
    · exact fb
    · exact fd
  · show true = (decide ((3 : Nat) = 3) && (isPart a c && (isPart b e && (isPart d f && true))))
    rw [ha, hb, hd]; rfl
theorem insD_fit {i : Ins} (ok : InsOk i) : InsFit (insD i) true := by
  cases i with
  | set r v => exact fit2 (ks := "rw") (by simp [TBL]) (by decide +kernel) rfl rfl (partN ok.1) (partW ok.2)
  | copy r s => exact fit2 (ks := "rr") (by simp [TBL]) (by decide +kernel) rfl rfl (partN ok.1) (partN ok.2)
  | add r s t => exact fit3 (ks := "rrr") (by simp [TBL]) (by decide +kernel) rfl rfl rfl (partN ok.1) (partN ok.2.1) (partN ok.2.2)
  | sub r s t => exact fit3 (ks := "rrr") (by simp [TBL]) (by decide +kernel) rfl rfl rfl (partN ok.1) (partN ok.2.1) (partN ok.2.2)
  | less r s t => exact fit3 (ks := "rrr") (by simp [TBL]) (by decide +kernel) rfl rfl rfl (partN ok.1) (partN ok.2.1) (partN ok.2.2)
  | jump q => exact fit1 (ks := "p") (by simp [TBL]) (by decide +kernel) rfl (partP ok)
  | iff r q => exact fit2 (ks := "rp") (by simp [TBL]) (by decide +kernel) rfl rfl (partN ok.1) (partP ok.2)
  | load r s => exact fit2 (ks := "rr") (by simp [TBL]) (by decide +kernel) rfl rfl (partN ok.1) (partN ok.2)
  | store r s => exact fit2 (ks := "rr") (by simp [TBL]) (by decide +kernel) rfl rfl (partN ok.1) (partN ok.2)
  | call n => exact fit1 (ks := "n") (by simp [TBL]) (by decide +kernel) rfl (partS ok.1)
theorem insD_to (i : Ins) : tonly (insD i) = true := by cases i <;> rfl
theorem sh_strz (x : Str) (h : PyData.strOk x = true := by decide +kernel) (n : Nat) : Sh n (.str x) := ⟨by rw [PyData.canLay0, h], by rw [PyData.depth]; exact Nat.zero_le _⟩
theorem shs2 {n : Nat} {a b : PyData} (h1 : Sh n a) (h2 : Sh n b) : Sh (n + 1) (.tuple [a, b]) := Sh.tup fun d hd => by
  simp only [List.mem_cons, List.not_mem_nil, or_false] at hd
  rcases hd with rfl | rfl
  · exact h1
  · exact h2
theorem shs3 {n : Nat} {a b c : PyData} (h1 : Sh n a) (h2 : Sh n b) (h3 : Sh n c) : Sh (n + 1) (.tuple [a, b, c]) := Sh.tup fun d hd => by
  simp only [List.mem_cons, List.not_mem_nil, or_false] at hd
  rcases hd with rfl | rfl | rfl
  · exact h1
  · exact h2
  · exact h3
theorem shs4 {n : Nat} {a b c e : PyData} (h1 : Sh n a) (h2 : Sh n b) (h3 : Sh n c) (h4 : Sh n e) : Sh (n + 1) (.tuple [a, b, c, e]) := Sh.tup fun d hd => by
  simp only [List.mem_cons, List.not_mem_nil, or_false] at hd
  rcases hd with rfl | rfl | rfl | rfl
  · exact h1
  · exact h2
  · exact h3
  · exact h4
theorem insD_sh {i : Ins} (ok : InsOk i) : Sh 1 (insD i) := by
  cases i with
  | set r v => exact shs3 (sh_strz _ (by decide +kernel) _) (Sh.int _ _) (Sh.int _ _)
  | copy r v => exact shs3 (sh_strz _ (by decide +kernel) _) (Sh.int _ _) (Sh.int _ _)
  | add r s t => exact shs4 (sh_strz _ (by decide +kernel) _) (Sh.int _ _) (Sh.int _ _) (Sh.int _ _)
  | sub r s t => exact shs4 (sh_strz _ (by decide +kernel) _) (Sh.int _ _) (Sh.int _ _) (Sh.int _ _)
  | less r s t => exact shs4 (sh_strz _ (by decide +kernel) _) (Sh.int _ _) (Sh.int _ _) (Sh.int _ _)
  | jump q => exact shs2 (sh_strz _ (by decide +kernel) _) (Sh.int _ _)
  | iff r q => exact shs3 (sh_strz _ (by decide +kernel) _) (Sh.int _ _) (Sh.int _ _)
  | load r q => exact shs3 (sh_strz _ (by decide +kernel) _) (Sh.int _ _) (Sh.int _ _)
  | store r q => exact shs3 (sh_strz _ (by decide +kernel) _) (Sh.int _ _) (Sh.int _ _)
  | call n =>
    refine shs2 (sh_strz _ (by decide +kernel) _) ?_
    have := ok.2
    unfold SeqAt.shaped at this
    rw [Bool.and_eq_true] at this
    exact ⟨this.1, by rw [PyData.depth]; exact Nat.zero_le _⟩
theorem stepD_sh (i : Ins) (rs : List Nat) (p : Nat) : SeqAt.shaped (stepD i rs p) = true := (shs2 (n := 1) (Sh.lst (n := 0) fun d hd => by
  obtain ⟨n, _, rfl⟩ := List.mem_map.mp hd
  exact Sh.int _ _) (Sh.int 1 _)).ok
inductive ProgFit : PyData → Bool → Prop
  | no {d : PyData} (h : isTupD d = false) : ProgFit d false
  | long {ds : List PyData} (h : 600 < ds.length) : ProgFit (.tuple ds) false
  | ok {ds : List PyData} {bs : List Bool} (h : ds.length ≤ 600) (hl : bs.length = ds.length) (hf : ∀ (i : Nat) (d : PyData) (b : Bool), ds[i]? = some d → bs[i]? = some b → InsFit d b) : ProgFit (.tuple ds) (bs.all id)
def spProg : Sp := fun vs H Q _ => ∃ v d b, vs = [v] ∧ Dt H v d ∧ ProgFit d b ∧ ∀ H', Same H H' → Q (.bl b) H'
def exitI : Ins := .call "exit"
def spAt : Sp := fun vs H Q _ => ∃ v, ∃ is : List Ins, ∃ p : Nat, vs = [v, .int (p : Int)] ∧ Dt H v (.tuple (is.map insD)) ∧ ∀ v' H', Same H H' → Dt H' v' (insD (is.getD p exitI)) → Q v' H'
def wordI : Ins → Str
  | .set _ _ => "set"
  | .copy _ _ => "copy"
  | .add _ _ _ => "add"
  | .sub _ _ _ => "sub"
  | _ => "less"
def partsI : Ins → List PyData
  | .set _ v => [nD v]
  | .copy _ s => [nD s]
  | .add _ s t => [nD s, nD t]
  | .sub _ s t => [nD s, nD t]
  | .less _ s t => [nD s, nD t]
  | _ => []
def isRes : Ins → Bool
  | .set _ _ => true
  | .copy _ _ => true
  | .add _ _ _ => true
  | .sub _ _ _ => true
  | .less _ _ _ => true
  | _ => false
def resI : Ins → List Nat → Nat
  | .set _ v, _ => v
  | .copy _ s, rs => rs.getD s 0
  | .add _ s t, rs => (rs.getD s 0 + rs.getD t 0) % 4294967296
  | .sub _ s t, rs => (rs.getD s 0 + 4294967296 - rs.getD t 0) % 4294967296
  | .less _ s t, rs => if rs.getD s 0 < rs.getD t 0 then 1 else 0
  | _, _ => 0
def spRes : Sp := fun vs H Q _ => ∃ vp r rs i, vs = [.str (wordI i), vp, .ref r] ∧ isRes i = true ∧ InsOk i ∧ RegOk rs ∧ H r = some (.lst (rs.map vN)) ∧ Dt H vp (.tuple (partsI i)) ∧ Q (.int (resI i rs : Nat)) H
def spStep : Sp := fun vs H Q _ => ∃ v r rs i, ∃ p : Nat, vs = [v, .ref r, .int (p : Int)] ∧ isStep i = true ∧ InsOk i ∧ RegOk rs ∧ H r = some (.lst (rs.map vN)) ∧ Dt H v (insD i) ∧ ∀ v' H', Same H H' → Dt H' v' (stepD i rs p) → Q v' H'
theorem tup2 {H : Hp} {v : V} {a b : PyData} (h : Dt H v (.tuple [a, b])) : ∃ x u w, v = .ref x ∧ H x = some (.tup [u, w]) ∧ Dt H u a ∧ Dt H w b := by
  cases h with
  | tup ha hs => cases hs with
    | cons h1 hs => cases hs with
      | cons h2 hs => cases hs; exact ⟨_, _, _, rfl, ha, h1, h2⟩
theorem tup1 {H : Hp} {v : V} {a : PyData} (h : Dt H v (.tuple [a])) : ∃ x u, v = .ref x ∧ H x = some (.tup [u]) ∧ Dt H u a := by
  cases h with
  | tup ha hs => cases hs with
    | cons h1 hs => cases hs; exact ⟨_, _, rfl, ha, h1⟩
theorem tup3 {H : Hp} {v : V} {a b c : PyData} (h : Dt H v (.tuple [a, b, c])) : ∃ x u w z, v = .ref x ∧ H x = some (.tup [u, w, z]) ∧ Dt H u a ∧ Dt H w b ∧ Dt H z c := by
  cases h with
  | tup ha hs => cases hs with
    | cons h1 hs => cases hs with
      | cons h2 hs => cases hs with
        | cons h3 hs => cases hs; exact ⟨_, _, _, _, rfl, ha, h1, h2, h3⟩
theorem tup4 {H : Hp} {v : V} {a b c d : PyData} (h : Dt H v (.tuple [a, b, c, d])) : ∃ x u w z y, v = .ref x ∧ H x = some (.tup [u, w, z, y]) ∧ Dt H u a ∧ Dt H w b ∧ Dt H z c ∧ Dt H y d := by
  cases h with
  | tup ha hs => cases hs with
    | cons h1 hs => cases hs with
      | cons h2 hs => cases hs with
        | cons h3 hs => cases hs with
          | cons h4 hs => cases hs; exact ⟨_, _, _, _, _, rfl, ha, h1, h2, h3, h4⟩
section
variable {P : Program} {w : World} {K : PySem.W.Frag} {mg : Str → Option Value} {base : Heap} {A_NAMES A_PARTS : Addr}
abbrev s_is_program : Stmt := topS 12
abbrev ns_is_program : List Str := ["value", "instruction"]
theorem sc_is_program : FnScope ns_is_program ["value"] (defScope s_is_program) := ⟨rfl, rfl, rfl, by decide +kernel, rfl, by decide +kernel, by decide +kernel⟩

theorem ok_is_program {f : Addr} {fd : FuncData} (F : Fun K "is_program" "is_program" s_is_program f fd) (T : Txt K mg  w A_NAMES A_PARTS) (D_is_instruction : Dfn P w K mg base CX0 5 "_is_instruction" ["value"] spIns) : FnOk P w K mg base CX0 6 f fd ["value"] spProg := by
  refine F.ok sc_is_program (fun vs H Q E h => ?_) (fun cdv A outer s H vs Q E hr h => ?_)
  · obtain ⟨v, d, b, rfl, _⟩ := h
    rfl
  · obtain ⟨v, d, b, rfl, hd, fit, k⟩ := h
    refine ⟨_, (pss_cons (ps_if (PW.pt (pw_or (pt_not (pt_val (pe_callB (kIsi K) (by rfl) T.b_isinstance (by decide +kernel) (pa_cons (pv 0) (pa_cons (pe_bltn (v := .ty "tuple") (by rfl) T.b_tuple (by decide +kernel) rfl) pa_nil))))) (pw_or1 (pt_cmpR op_gt (pe_callB (kLen K) (by rfl) T.b_len (by decide +kernel) (pa_cons (pv 0) pa_nil)) (pe_gint (by rfl) T.c__MOST_INSTRUCTIONS) (nomark _))))) (pss_one (ps_ret pe_bl)) pss_nil)
  (pss_one (ps_ret (pe_callB (kAll K rfl) (by rfl) T.b_all (by decide +kernel) (pa_cons (pe_lc (own := [("instruction", 1)]) (by rfl) sc_is_program.nd (kpiT K (pv 0)) (blkOk_by (N := ns_is_program) (sc := defScope s_is_program) (by decide +kernel)) (fun _ _ _ _ _ => (pg_name (i := 1) sc_is_program.nd rfl (Or.inl rfl))) (fun _ _ _ _ _ => pts_nil) (fun _ _ _ _ _ => (pe_dcall D_is_instruction (hr.mono (by decide)) (by rfl) pass0 (pa_cons (pv 1) pa_nil)))) pa_nil))))), ?_⟩
    refine ⟨_, rfl, _, _, _, _, _, rfl, .ty _, hd.ty, kit_ty (kitTup d), _, rfl, ?_⟩
    cases fit with
    | no h => rw [h]; exact iteT (k H (Same.refl H))
    | long h =>
      cases hd with
      | @tup a xs _ ha hs =>
        have hl := hs.len
        refine iteF ?_
        walk_at "run"
        refine iteD (fun e => k H (Same.refl H)) (fun e => absurd (show (600 : Int) < (xs.length : Int) by omega) e)
    | @ok ds bs h hbl hf =>
      cases hd with
      | @tup a xs _ ha hs =>
        have hl := hs.len
        refine iteF ?_
        walk_at "run"
        refine iteD (fun e => absurd (show (xs.length : Int) ≤ 600 by omega) (by show ¬ _; have e' : (600 : Int) < (xs.length : Int) := e; omega)) (fun e => ?_)
        walk_at "run"
        refine ⟨⟨_, SqT.of ha⟩, fun D hD => ?_⟩
        refine lcT (xs := xs) (bs.map V.bl) (by rw [List.length_map]; omega) (by omega) ha hD ?_ ?_
        · intro j x y H1 Q' hx hy s1 q
          obtain ⟨d, hd1, hd2⟩ := hs.getV hx
          rw [List.getElem?_map] at hy
          obtain ⟨bb, hb1, rfl⟩ := Option.map_eq_some_iff.mp hy
          exact ⟨rfl, _, rfl, x, d, bb, rfl, hd2.same s1, hf j d bb hd1 hb1, q⟩
        · intro H1 s1 d1
          exact ⟨_, _, rfl, SqL.of d1, k H1 s1⟩
abbrev s_instruction_at : Stmt := topS 15
abbrev ns_instruction_at : List Str := ["program", "place"]
theorem sc_instruction_at : FnScope ns_instruction_at ["program", "place"] (defScope s_instruction_at) := ⟨rfl, rfl, rfl, by decide +kernel, rfl, by decide +kernel, by decide +kernel⟩

theorem ok_instruction_at {f : Addr} {fd : FuncData} (F : Fun K "instruction_at" "instruction_at" s_instruction_at f fd) (T : Txt K mg  w A_NAMES A_PARTS) : FnOk P w K mg base CX0 1 f fd ["program", "place"] spAt := by
  refine F.ok sc_instruction_at (fun vs H Q E h => ?_) (fun cdv A outer s H vs Q E hr h => ?_)
  · obtain ⟨v, is, p, rfl, _⟩ := h
    rfl
  · obtain ⟨v, is, p, rfl, hd, k⟩ := h
    refine ⟨_, (pss_cons (ps_if (pt_cmpR op_ge (pv 1) (pe_callB (kLen K) (by rfl) T.b_len (by decide +kernel) (pa_cons (pv 0) pa_nil)) (nomark _)) (pss_one (ps_ret (pe_tup (pa_cons pe_str (pa_cons pe_str pa_nil))))) pss_nil)
  (pss_one (ps_ret (pe_ix (kIxT K) (pv 0) (pv 1) (fun _ _ => rfl))))), ?_⟩
    cases hd with
    | @tup a xs _ ha hs =>
      have hl := hs.len
      rw [List.length_map] at hl
      walk_at "run"
      refine iteD (fun e => ?_) (fun e => ?_)
      · walk_at "run"
        refine ⟨szl rfl, fun q hq => k _ _ (Same.new hq) ?_⟩
        have e0 : is.getD p exitI = exitI := by
          have : is.length ≤ p := by have e' : (xs.length : Int) ≤ (p : Int) := e; omega
          rw [List.getD_eq_getElem?_getD, List.getElem?_eq_none this]; rfl
        rw [e0]
        exact Dt.new (.cons (.str _) (.cons (.str _) .nil)) hq
      · have hp : p < is.length := by
          have e' : ¬ (xs.length : Int) ≤ (p : Int) := e
          omega
        have e0 : (is.map insD)[p]? = some (insD (is.getD p exitI)) := by
          rw [List.getElem?_map, List.getD_eq_getElem?_getD, List.getElem?_eq_getElem hp]; rfl
        obtain ⟨u, hu, hud⟩ := hs.get e0
        walk_at "run"
        exact ⟨_, _, _, _, rfl, rfl, SqT.of ha, atC p rfl hu, k u H (Same.refl H) hud⟩
abbrev s_result : Stmt := topS 17
abbrev ns_result : List Str := ["word", "parts", "registers", "one", "other"]
theorem sc_result : FnScope ns_result ["word", "parts", "registers"] (defScope s_result) := ⟨rfl, rfl, rfl, by decide +kernel, rfl, by decide +kernel, by decide +kernel⟩

theorem ok_result {f : Addr} {fd : FuncData} (F : Fun K "_result" "_result" s_result f fd) (T : Txt K mg  w A_NAMES A_PARTS) : FnOk P w K mg base CX0 1 f fd ["word", "parts", "registers"] spRes := by
  refine F.ok sc_result (fun vs H Q E h => ?_) (fun cdv A outer s H vs Q E hr h => ?_)
  · obtain ⟨vp, r, rs, i, rfl, _⟩ := h
    rfl
  · obtain ⟨vp, r, rs, i, rfl, hi, ok, ro, hr', hp, k⟩ := h
    refine ⟨_, (pss_cons (ps_if (pt_cmpR op_eq (pv 0) pe_str (nomark _)) (pss_one (ps_ret (pe_ix (kIxT K) (pv 1) pe_int (fun _ _ => rfl)))) pss_nil)
  (pss_cons (ps_if (pt_cmpR op_eq (pv 0) pe_str (nomark _)) (pss_one (ps_ret (pe_ix (kIxL K) (pv 2) (pe_ix (kIxT K) (pv 1) pe_int (fun _ _ => rfl)) (fun _ _ => rfl)))) pss_nil)
  (pss_cons (ps_par (i := 3) (j := 4) (by rfl) sc_result.nd rfl rfl (by decide) rfl rfl (pa_cons (pe_ix (kIxL K) (pv 2) (pe_ix (kIxT K) (pv 1) pe_int (fun _ _ => rfl)) (fun _ _ => rfl)) (pa_cons (pe_ix (kIxL K) (pv 2) (pe_ix (kIxT K) (pv 1) pe_int (fun _ _ => rfl)) (fun _ _ => rfl)) pa_nil)) (by rfl))
  (pss_cons (ps_if (pt_cmpR op_eq (pv 0) pe_str (nomark _)) (pss_one (ps_ret (pe_op op_andM (pe_op op_add (pv 3) (pv 4)) (pe_gint (by rfl) T.c_TOP)))) pss_nil)
  (pss_cons (ps_if (pt_cmpR op_eq (pv 0) pe_str (nomark _)) (pss_one (ps_ret (pe_op op_andM (pe_op op_sub (pv 3) (pv 4)) (pe_gint (by rfl) T.c_TOP)))) pss_nil)
  (pss_one (ps_ret (pe_ifExp (pt_cmpR op_lt (pv 3) (pv 4) (nomark _)) pe_int pe_int)))))))), ?_⟩
    cases i with
    | set r' v =>
      obtain ⟨x, u, rfl, hx, hu⟩ := tup1 hp
      cases hu
      walk_at "run"
      exact k
    | copy r' s =>
      obtain ⟨x, u, rfl, hx, hu⟩ := tup1 hp
      cases hu
      walk_at "run"
      exact ⟨_, _, _, _, rfl, rfl, SqL.of hr', atC s rfl (getVN (by rw [ro.1]; exact ok.2)), k⟩
    | add r' s t =>
      obtain ⟨x, u, z, rfl, hx, hu, hz⟩ := tup2 hp
      cases hu
      cases hz
      walk_at "run"
      refine ⟨_, _, _, _, rfl, rfl, SqL.of hr', atC s rfl (getVN (by rw [ro.1]; exact ok.2.1)), ?_⟩
      walk_at "run"
      refine ⟨_, _, _, _, rfl, rfl, SqL.of hr', atC t rfl (getVN (by rw [ro.1]; exact ok.2.2)), ?_⟩
      refine ⟨_, _, rfl, ?_⟩
      walk_at "run"
      refine ⟨_, 32, rfl, rfl, ?_⟩
      have e : ((rs.getD s 0 : Nat) : Int) + ((rs.getD t 0 : Nat) : Int) = ((rs.getD s 0 + rs.getD t 0 : Nat) : Int) := by omega
      show Q (.int ((((rs.getD s 0 : Nat) : Int) + ((rs.getD t 0 : Nat) : Int)) % 2 ^ 32)) H
      rw [e]
      exact k
    | sub r' s t =>
      obtain ⟨x, u, z, rfl, hx, hu, hz⟩ := tup2 hp
      cases hu
      cases hz
      walk_at "run"
      refine ⟨_, _, _, _, rfl, rfl, SqL.of hr', atC s rfl (getVN (by rw [ro.1]; exact ok.2.1)), ?_⟩
      walk_at "run"
      refine ⟨_, _, _, _, rfl, rfl, SqL.of hr', atC t rfl (getVN (by rw [ro.1]; exact ok.2.2)), ?_⟩
      refine ⟨_, _, rfl, ?_⟩
      walk_at "run"
      refine ⟨_, 32, rfl, rfl, ?_⟩
      have l2 := reg_lt ro t
      have e : (((rs.getD s 0 : Nat) : Int) - ((rs.getD t 0 : Nat) : Int)) % 4294967296 = (((rs.getD s 0 + 4294967296 - rs.getD t 0) % 4294967296 : Nat) : Int) := by omega
      show Q (.int ((((rs.getD s 0 : Nat) : Int) - ((rs.getD t 0 : Nat) : Int)) % 4294967296)) H
      rw [e]
      exact k
    | less r' s t =>
      obtain ⟨x, u, z, rfl, hx, hu, hz⟩ := tup2 hp
      cases hu
      cases hz
      walk_at "run"
      refine ⟨_, _, _, _, rfl, rfl, SqL.of hr', atC s rfl (getVN (by rw [ro.1]; exact ok.2.1)), ?_⟩
      walk_at "run"
      refine ⟨_, _, _, _, rfl, rfl, SqL.of hr', atC t rfl (getVN (by rw [ro.1]; exact ok.2.2)), ?_⟩
      refine ⟨_, _, rfl, ?_⟩
      walk_at "run"
      refine iteD (fun e => ?_) (fun e => ?_)
      · have e' : rs.getD s 0 < rs.getD t 0 := by
          have : ((rs.getD s 0 : Nat) : Int) < ((rs.getD t 0 : Nat) : Int) := e
          omega
        have k' : Q (.int ((if rs.getD s 0 < rs.getD t 0 then 1 else 0 : Nat) : Int)) H := k
        rw [if_pos e'] at k'
        exact k'
      · have e' : ¬ rs.getD s 0 < rs.getD t 0 := by
          intro q
          exact e (show ((rs.getD s 0 : Nat) : Int) < ((rs.getD t 0 : Nat) : Int) by omega)
        have k' : Q (.int ((if rs.getD s 0 < rs.getD t 0 then 1 else 0 : Nat) : Int)) H := k
        rw [if_neg e'] at k'
        exact k'
    | jump q => cases hi
    | iff r q => cases hi
    | load r q => cases hi
    | store r q => cases hi
    | call n => cases hi
theorem cut2 {a b : V} {xs : List V} : cutV (a :: b :: xs) (some 2) none = xs := by
  unfold cutV
  rw [show (some (2 : Int)) = some ((2 : Nat) : Int) from rfl, HT.sIx_nat, HT.sIx_none, Nat.min_eq_left (by rw [List.length_cons, List.length_cons]; omega)]
  show List.take _ xs = xs
  exact List.take_of_length_le (by rw [List.length_cons, List.length_cons]; omega)
theorem nocut2 {a b : V} {xs : List V} (q : HT.sIx (a :: b :: xs).length 0 (some (2 : Int)) = 0) : False := by
  rw [show (some (2 : Int)) = some ((2 : Nat) : Int) from rfl, HT.sIx_nat, Nat.min_eq_left (by rw [List.length_cons, List.length_cons]; omega)] at q
  cases q
abbrev s_plain_step : Stmt := topS 16
abbrev ns_plain_step : List Str := ["instruction", "registers", "place", "word", "behind"]
theorem sc_plain_step : FnScope ns_plain_step ["instruction", "registers", "place"] (defScope s_plain_step) := ⟨rfl, rfl, rfl, by decide +kernel, rfl, by decide +kernel, by decide +kernel⟩

theorem ok_plain_step {f : Addr} {fd : FuncData} (F : Fun K "plain_step" "plain_step" s_plain_step f fd) (T : Txt K mg  w A_NAMES A_PARTS) (D_result : Dfn P w K mg base CX0 1 "_result" ["word", "parts", "registers"] spRes) : FnOk P w K mg base CX0 2 f fd ["instruction", "registers", "place"] spStep := by
  refine F.ok sc_plain_step (fun vs H Q E h => ?_) (fun cdv A outer s H vs Q E hr h => ?_)
  · obtain ⟨v, r, rs, i, p, rfl, _⟩ := h
    rfl
  · obtain ⟨v, r, rs, i, p, rfl, hi, ok, ro, hrg, hd, k⟩ := h
    refine ⟨_, (pss_cons (ps_set (i := 3) sc_plain_step.nd rfl (Or.inl rfl) (pe_ix (kIxT K) (pv 0) pe_int (fun _ _ => rfl)))
  (pss_cons (ps_if (pt_cmpR op_eq (pv 3) pe_str (nomark _)) (pss_one (ps_ret (pe_tup (pa_cons (pe_callTy (kListOf K) (by rfl) T.b_list (by decide +kernel) (pa_cons (pv 1) pa_nil)) (pa_cons (pe_ix (kIxT K) (pv 0) pe_int (fun _ _ => rfl)) pa_nil))))) pss_nil)
  (pss_cons (ps_if (pt_cmpR op_eq (pv 3) pe_str (nomark _)) (pss_one (ps_ret (pe_tup (pa_cons (pe_callTy (kListOf K) (by rfl) T.b_list (by decide +kernel) (pa_cons (pv 1) pa_nil)) (pa_cons (pe_ifExp (pt_cmpR op_eq (pe_ix (kIxL K) (pv 1) (pe_ix (kIxT K) (pv 0) pe_int (fun _ _ => rfl)) (fun _ _ => rfl)) pe_int (nomark _)) (pe_op op_add (pv 2) pe_int) (pe_ix (kIxT K) (pv 0) pe_int (fun _ _ => rfl))) pa_nil))))) pss_nil)
  (pss_cons (ps_set (i := 4) sc_plain_step.nd rfl (Or.inl rfl) (pe_callTy (kListOf K) (by rfl) T.b_list (by decide +kernel) (pa_cons (pv 1) pa_nil)))
  (pss_cons (ps_asg (pe_dcall D_result (hr.mono (by decide)) (by rfl) pass0 (pa_cons (pv 3) (pa_cons (pe_slice (kSlT K) (pv 0) (po_some pe_int) po_none) (pa_cons (pv 1) pa_nil)))) (pg_sub (pv 4) (pe_ix (kIxT K) (pv 0) pe_int (fun _ _ => rfl)) set_list))
  (pss_one (ps_ret (pe_tup (pa_cons (pv 4) (pa_cons (pe_op op_add (pv 2) pe_int) pa_nil)))))))))), ?_⟩
    have jmp : ∀ (x : Addr) (n : Nat) (H1 : Hp), Same H H1 → H1 x = some (.lst (rs.map vN)) → stepD i rs p = .tuple [.list (rs.map nD), nD n] → ∀ q, H1 q = none → Q (.ref q) (upd H1 q (.tup [.ref x, .int (n : Int)])) := fun x n H1 s1 hx e q hq => k _ _ (s1.trans (Same.new hq)) (by
      rw [e]
      exact Dt.new (.cons (.lst hx (vns_dt rs)) (.cons (.int _) .nil)) hq)
    have fin : ∀ (l : Addr) (H1 H2 : Hp) (n m : Nat), Same H H1 → H l = none → stepD i rs p = .tuple [.list ((rs.set n m).map nD), nD (p + 1)] → H2 = upd H1 l (.lst ((rs.map vN).set n (.int (m : Int)))) → ∀ q, H2 q = none → Q (.ref q) (upd H2 q (.tup [.ref l, .int ((p : Int) + 1)])) := fun l H1 H2 n m s1 hl e e2 q hq => by
      subst e2
      refine k _ _ ((Same.mut s1 hl).trans (Same.new hq)) ?_
      rw [e, show (p : Int) + 1 = ((p + 1 : Nat) : Int) by omega]
      refine Dt.new (.cons (.lst upd_same ?_) (.cons (.int _) .nil)) hq
      have em : (rs.map vN).set n (.int (m : Int)) = (rs.set n m).map vN := by rw [List.map_set]; rfl
      rw [em]
      exact vns_dt _
    cases i with
    | jump q =>
      obtain ⟨a, u, w', rfl, ha, hu, hw⟩ := tup2 hd
      cases hu
      cases hw
      walk_at "run"
      refine fun l hl => ?_
      have s1 := Same.new (o := .lst (rs.map vN)) hl
      have ha1 := s1 _ _ ha
      have hl1 : upd H l (.lst (rs.map vN)) l = some (.lst (rs.map vN)) := upd_same
      generalize upd H l (.lst (rs.map vN)) = H1 at s1 ha1 hl1
      walk_at "run"
      exact ⟨szl rfl, fun q' hq => jmp l q H1 s1 hl1 rfl q' hq⟩
    | iff r' q =>
      obtain ⟨a, u, w', z, rfl, ha, hu, hw, hz⟩ := tup3 hd
      cases hu
      cases hw
      cases hz
      walk_at "run"
      refine fun l hl => ?_
      have s1 := Same.new (o := .lst (rs.map vN)) hl
      have ha1 := s1 _ _ ha
      have hr1 := s1 _ _ hrg
      have hl1 : upd H l (.lst (rs.map vN)) l = some (.lst (rs.map vN)) := upd_same
      generalize upd H l (.lst (rs.map vN)) = H1 at s1 ha1 hl1 hr1
      walk_at "run"
      refine ⟨_, _, _, _, rfl, rfl, SqL.of hr1, atC r' rfl (getVN (by rw [ro.1]; exact ok.1)), ?_⟩
      walk_at "run"
      refine iteD (fun e => ?_) (fun e => ?_)
      · have z : rs.getD r' 0 = 0 := by
          have q : ((rs.getD r' 0 : Nat) : Int) = 0 := by injection e
          omega
        walk_at "run"
        refine ⟨szl rfl, fun q' hq => ?_⟩
        refine jmp l (p + 1) H1 s1 hl1 ?_ q' hq
        show PyData.tuple [.list (rs.map nD), nD (if rs.getD r' 0 = 0 then p + 1 else q)] = _
        rw [if_pos z]
      · have z : ¬ rs.getD r' 0 = 0 := fun q => e (by rw [q]; rfl)
        walk_at "run"
        refine ⟨szl rfl, fun q' hq => ?_⟩
        refine jmp l q H1 s1 hl1 ?_ q' hq
        show PyData.tuple [.list (rs.map nD), nD (if rs.getD r' 0 = 0 then p + 1 else q)] = _
        rw [if_neg z]
    | set n x =>
      obtain ⟨a, u, w', z, rfl, ha, hu, hw, hz⟩ := tup3 hd
      cases hu
      cases hw
      walk_at "run"
      refine fun l hl => ?_
      have s1 := Same.new (o := .lst (rs.map vN)) hl
      have ha1 := s1 _ _ ha
      have hr1 := s1 _ _ hrg
      have hz1 := hz.same s1
      have hl1 : upd H l (.lst (rs.map vN)) l = some (.lst (rs.map vN)) := upd_same
      generalize upd H l (.lst (rs.map vN)) = H1 at s1 ha1 hl1 hr1 hz1
      walk_at "run"
      refine ⟨a, _, rfl, SqT.of ha1, fun q => (nocut2 q.1).elim, fun _ b hb => ?_⟩
      rw [cut2]
      have s2 := Same.new (o := .tup [z]) hb
      have hp : Dt (upd H1 b (.tup [z])) (.ref b) (.tuple (partsI (.set n x))) := Dt.new (.cons hz1 .nil) hb
      have ha2 := s2 _ _ ha1
      have hr2 := s2 _ _ hr1
      have hl2 := s2 _ _ hl1
      have s12 := s1.trans s2
      generalize upd H1 b (.tup [z]) = H2 at hp ha2 hr2 hl2 s12
      walk_at "run"
      refine ⟨_, r, rs, (.set n x), rfl, rfl, ok, ro, hr2, hp, ?_⟩
      walk_at "run"
      refine ⟨l, _, _, n, rfl, rfl, hl2, ixC n rfl (by rw [List.length_map, ro.1]; exact ok.1), ?_⟩
      walk_at "run"
      exact ⟨szl rfl, fun q' hq => fin l H2 _ n _ s12 hl rfl rfl q' hq⟩
    | copy n x =>
      obtain ⟨a, u, w', z, rfl, ha, hu, hw, hz⟩ := tup3 hd
      cases hu
      cases hw
      walk_at "run"
      refine fun l hl => ?_
      have s1 := Same.new (o := .lst (rs.map vN)) hl
      have ha1 := s1 _ _ ha
      have hr1 := s1 _ _ hrg
      have hz1 := hz.same s1
      have hl1 : upd H l (.lst (rs.map vN)) l = some (.lst (rs.map vN)) := upd_same
      generalize upd H l (.lst (rs.map vN)) = H1 at s1 ha1 hl1 hr1 hz1
      walk_at "run"
      refine ⟨a, _, rfl, SqT.of ha1, fun q => (nocut2 q.1).elim, fun _ b hb => ?_⟩
      rw [cut2]
      have s2 := Same.new (o := .tup [z]) hb
      have hp : Dt (upd H1 b (.tup [z])) (.ref b) (.tuple (partsI (.copy n x))) := Dt.new (.cons hz1 .nil) hb
      have ha2 := s2 _ _ ha1
      have hr2 := s2 _ _ hr1
      have hl2 := s2 _ _ hl1
      have s12 := s1.trans s2
      generalize upd H1 b (.tup [z]) = H2 at hp ha2 hr2 hl2 s12
      walk_at "run"
      refine ⟨_, r, rs, (.copy n x), rfl, rfl, ok, ro, hr2, hp, ?_⟩
      walk_at "run"
      refine ⟨l, _, _, n, rfl, rfl, hl2, ixC n rfl (by rw [List.length_map, ro.1]; exact ok.1), ?_⟩
      walk_at "run"
      exact ⟨szl rfl, fun q' hq => fin l H2 _ n _ s12 hl rfl rfl q' hq⟩
    | add n x y =>
      obtain ⟨a, u, w', z, y', rfl, ha, hu, hw, hz, hy⟩ := tup4 hd
      cases hu
      cases hw
      walk_at "run"
      refine fun l hl => ?_
      have s1 := Same.new (o := .lst (rs.map vN)) hl
      have ha1 := s1 _ _ ha
      have hr1 := s1 _ _ hrg
      have hz1 := hz.same s1
      have hy1 := hy.same s1
      have hl1 : upd H l (.lst (rs.map vN)) l = some (.lst (rs.map vN)) := upd_same
      generalize upd H l (.lst (rs.map vN)) = H1 at s1 ha1 hl1 hr1 hz1 hy1
      walk_at "run"
      refine ⟨a, _, rfl, SqT.of ha1, fun q => (nocut2 q.1).elim, fun _ b hb => ?_⟩
      rw [cut2]
      have s2 := Same.new (o := .tup [z, y']) hb
      have hp : Dt (upd H1 b (.tup [z, y'])) (.ref b) (.tuple (partsI (.add n x y))) := Dt.new (.cons hz1 (.cons hy1 .nil)) hb
      have ha2 := s2 _ _ ha1
      have hr2 := s2 _ _ hr1
      have hl2 := s2 _ _ hl1
      have s12 := s1.trans s2
      generalize upd H1 b (.tup [z, y']) = H2 at hp ha2 hr2 hl2 s12
      walk_at "run"
      refine ⟨_, r, rs, (.add n x y), rfl, rfl, ok, ro, hr2, hp, ?_⟩
      walk_at "run"
      refine ⟨l, _, _, n, rfl, rfl, hl2, ixC n rfl (by rw [List.length_map, ro.1]; exact ok.1), ?_⟩
      walk_at "run"
      exact ⟨szl rfl, fun q' hq => fin l H2 _ n _ s12 hl rfl rfl q' hq⟩
    | sub n x y =>
      obtain ⟨a, u, w', z, y', rfl, ha, hu, hw, hz, hy⟩ := tup4 hd
      cases hu
      cases hw
      walk_at "run"
      refine fun l hl => ?_
      have s1 := Same.new (o := .lst (rs.map vN)) hl
      have ha1 := s1 _ _ ha
      have hr1 := s1 _ _ hrg
      have hz1 := hz.same s1
      have hy1 := hy.same s1
      have hl1 : upd H l (.lst (rs.map vN)) l = some (.lst (rs.map vN)) := upd_same
      generalize upd H l (.lst (rs.map vN)) = H1 at s1 ha1 hl1 hr1 hz1 hy1
      walk_at "run"
      refine ⟨a, _, rfl, SqT.of ha1, fun q => (nocut2 q.1).elim, fun _ b hb => ?_⟩
      rw [cut2]
      have s2 := Same.new (o := .tup [z, y']) hb
      have hp : Dt (upd H1 b (.tup [z, y'])) (.ref b) (.tuple (partsI (.sub n x y))) := Dt.new (.cons hz1 (.cons hy1 .nil)) hb
      have ha2 := s2 _ _ ha1
      have hr2 := s2 _ _ hr1
      have hl2 := s2 _ _ hl1
      have s12 := s1.trans s2
      generalize upd H1 b (.tup [z, y']) = H2 at hp ha2 hr2 hl2 s12
      walk_at "run"
      refine ⟨_, r, rs, (.sub n x y), rfl, rfl, ok, ro, hr2, hp, ?_⟩
      walk_at "run"
      refine ⟨l, _, _, n, rfl, rfl, hl2, ixC n rfl (by rw [List.length_map, ro.1]; exact ok.1), ?_⟩
      walk_at "run"
      exact ⟨szl rfl, fun q' hq => fin l H2 _ n _ s12 hl rfl rfl q' hq⟩
    | less n x y =>
      obtain ⟨a, u, w', z, y', rfl, ha, hu, hw, hz, hy⟩ := tup4 hd
      cases hu
      cases hw
      walk_at "run"
      refine fun l hl => ?_
      have s1 := Same.new (o := .lst (rs.map vN)) hl
      have ha1 := s1 _ _ ha
      have hr1 := s1 _ _ hrg
      have hz1 := hz.same s1
      have hy1 := hy.same s1
      have hl1 : upd H l (.lst (rs.map vN)) l = some (.lst (rs.map vN)) := upd_same
      generalize upd H l (.lst (rs.map vN)) = H1 at s1 ha1 hl1 hr1 hz1 hy1
      walk_at "run"
      refine ⟨a, _, rfl, SqT.of ha1, fun q => (nocut2 q.1).elim, fun _ b hb => ?_⟩
      rw [cut2]
      have s2 := Same.new (o := .tup [z, y']) hb
      have hp : Dt (upd H1 b (.tup [z, y'])) (.ref b) (.tuple (partsI (.less n x y))) := Dt.new (.cons hz1 (.cons hy1 .nil)) hb
      have ha2 := s2 _ _ ha1
      have hr2 := s2 _ _ hr1
      have hl2 := s2 _ _ hl1
      have s12 := s1.trans s2
      generalize upd H1 b (.tup [z, y']) = H2 at hp ha2 hr2 hl2 s12
      walk_at "run"
      refine ⟨_, r, rs, (.less n x y), rfl, rfl, ok, ro, hr2, hp, ?_⟩
      walk_at "run"
      refine ⟨l, _, _, n, rfl, rfl, hl2, ixC n rfl (by rw [List.length_map, ro.1]; exact ok.1), ?_⟩
      walk_at "run"
      exact ⟨szl rfl, fun q' hq => fin l H2 _ n _ s12 hl rfl rfl q' hq⟩
    | load r q => cases hi
    | store r q => cases hi
    | call n => cases hi
end
end My

namespace My
open PySem L2
local macro_rules | `(tactic| walk_at "ne") => `(tactic| first | assumption | exact Ne.symm (by assumption) | exact ne_of_none (by assumption) (by assumption) | exact Ne.symm (ne_of_none (by assumption) (by assumption)))
local macro_rules | `(tactic| walk_at "hp") => `(tactic| first | assumption | with_reducible exact upd_same | (with_reducible refine Eq.trans (upd_ne ?_) ?_; rotate_left; walk_at "hp"; walk_at "ne"))
local macro_rules | `(tactic| walk_at "cnd") => `(tactic| first | omega | (show (0 : Int) < _; omega) | exact ⟨by omega, by omega⟩ | exact Or.inl ⟨by omega, by omega⟩ | exact Or.inr ⟨by omega, by omega⟩ | exact ⟨by omega, by omega, by decide⟩ | exact ⟨by omega, by omega, by omega⟩)
local macro_rules | `(tactic| walk_at "at") => `(tactic| first | exact atC 0 rfl rfl | exact atC 1 rfl rfl | exact atC 2 rfl rfl | exact atC 3 rfl rfl | exact atC 4 rfl rfl | exact atC 5 rfl rfl | exact atC 6 rfl rfl | exact atC 7 rfl rfl)
local macro_rules | `(tactic| walk_at "ix") => `(tactic| first | exact ixC 0 rfl (Nat.le_of_ble_eq_true rfl) | exact ixC 1 rfl (Nat.le_of_ble_eq_true rfl) | exact ixC 2 rfl (Nat.le_of_ble_eq_true rfl) | exact ixC 3 rfl (Nat.le_of_ble_eq_true rfl) | exact ixC 4 rfl (Nat.le_of_ble_eq_true rfl) | exact ixC 5 rfl (Nat.le_of_ble_eq_true rfl))
local macro_rules | `(tactic| walk_at "st") => `(tactic| first
  | refine ⟨_, rfl, ?_⟩
  | refine ⟨_, _, rfl, rfl, (by walk_at "cnd" : (_ : Prop)), ?_⟩
  | refine ⟨_, _, rfl, rfl, ?_⟩
  | refine ⟨rfl, ?_⟩
  | refine Or.inl ⟨_, rfl, ?_⟩
  | refine ⟨_, _, _, _, rfl, rfl, by exact SqL.of (by walk_at "hp"), by walk_at "at", ?_⟩
  | refine ⟨_, _, _, _, rfl, rfl, by exact SqT.of (by walk_at "hp"), by walk_at "at", ?_⟩
  | refine ⟨_, _, _, _, rfl, rfl, by walk_at "hp", by walk_at "ix", ?_⟩
  | refine ⟨_, _, rfl, Or.inl (by exact SqL.of (by walk_at "hp")), ?_⟩
  | refine ⟨_, _, rfl, Or.inr (by exact SqT.of (by walk_at "hp")), ?_⟩)
local macro_rules | `(tactic| walk_at "so") => `(tactic| first
  | refine ⟨_, _, _, _, _, rfl, by walk_at "hp", by assumption, by assumption, rfl, ?_⟩
  | refine ⟨_, _, _, _, rfl, by walk_at "hp", by assumption, by assumption, Nat.le_of_ble_eq_true rfl, ?_⟩
  | refine ⟨_, _, _, rfl, by walk_at "hp", rfl, ?_⟩
  | walk_at "st")
local macro_rules | `(tactic| walk_at "ro") => `(tactic| repeat walk_at "so")
local macro_rules | `(tactic| walk_at "run") => `(tactic| repeat walk_at "st")

/-! data of which no list is the tape -/
mutual
def noTp : PyData → Bool
  | .list ds => (match ds with | .list _ :: _ => false | _ => true) && noTpAll ds
  | .tuple ds => noTpAll ds
  | .dict _ => false
  | _ => true
def noTpAll : List PyData → Bool
  | [] => true
  | x :: xs => noTp x && noTpAll xs
end
mutual
theorem Dt.tp {H H' : Hp} {a t : Addr} (T : Tape H a t) (c : Chg a H H') : ∀ {d : PyData} {v : V}, noTp d = true → Dt H v d → Dt H' v d
  | .none, _, _, h => by cases h; exact .non
  | .bool b, _, _, h => by cases h; exact .bl b
  | .int i, _, _, h => by cases h; exact .int i
  | .str x, _, _, h => by cases h; exact .str x
  | .list ds, _, n, h => by
    unfold noTp at n
    rw [Bool.and_eq_true] at n
    cases h with
    | lst hx hs =>
      refine .lst (c _ _ ?_ hx) (DtAll.tp T c n.2 hs)
      rintro rfl
      obtain ⟨ns, i, r, z, ha, hs', _⟩ := T
      rw [ha] at hx
      cases hx
      cases hs with
      | cons d1 _ =>
        cases d1 with
        | lst _ _ => exact absurd n.1 Bool.false_ne_true
        | tup h' _ => rw [hs'] at h'; cases h'
  | .tuple ds, _, n, h => by
    unfold noTp at n
    cases h with
    | tup hx hs =>
      refine .tup (c _ _ ?_ hx) (DtAll.tp T c n hs)
      rintro rfl
      obtain ⟨ns, i, r, z, ha, hs', _⟩ := T
      rw [ha] at hx
      cases hx
  | .dict _, _, _, h => by cases h
theorem DtAll.tp {H H' : Hp} {a t : Addr} (T : Tape H a t) (c : Chg a H H') : ∀ {ds : List PyData} {vs : List V}, noTpAll ds = true → DtAll H vs ds → DtAll H' vs ds
  | [], _, _, h => by cases h; exact .nil
  | d :: ds, _, n, h => by
    unfold noTpAll at n
    rw [Bool.and_eq_true] at n
    cases h with
    | cons h1 h2 => exact .cons (Dt.tp T c n.1 h1) (DtAll.tp T c n.2 h2)
end
mutual
theorem noTp_of : ∀ {d : PyData}, tonly d = true → noTp d = true
  | .none, _ => rfl
  | .bool _, _ => rfl
  | .int _, _ => rfl
  | .str _, _ => rfl
  | .list _, h => by unfold tonly at h; cases h
  | .tuple ds, h => by
    unfold tonly at h
    unfold noTp
    exact noTpAll_of h
  | .dict _, h => by unfold tonly at h; cases h
theorem noTpAll_of : ∀ {ds : List PyData}, tonlyAll ds = true → noTpAll ds = true
  | [], _ => rfl
  | d :: ds, h => by
    unfold tonlyAll at h
    rw [Bool.and_eq_true] at h
    unfold noTpAll
    rw [noTp_of h.1, noTpAll_of h.2]; rfl
end

/-! ### literals -/
def Lit (te : TE) (d : PyData) : Prop := ∀ σ H Q, (∀ v H', Same H H' → Dt H' v d → Q v H') → te σ H Q
def LitAll (ta : TA) (ds : List PyData) : Prop := ∀ σ H Q, (∀ vs H', Same H H' → DtAll H' vs ds → Q vs H') → ta σ H Q
theorem lit_int (i : Int) : Lit (tC (.int i)) (.int i) := fun _ H _ k => k _ H (Same.refl H) (.int i)
theorem lit_bl (i : Bool) : Lit (tC (.bl i)) (.bool i) := fun _ H _ k => k _ H (Same.refl H) (.bl i)
theorem lit_str (i : Str) : Lit (tC (.str i)) (.str i) := fun _ H _ k => k _ H (Same.refl H) (.str i)
theorem lit_non : Lit (tC .non) .none := fun _ H _ k => k _ H (Same.refl H) .non
theorem lit_nil : LitAll tNil [] := fun _ H _ k => k _ H (Same.refl H) .nil
theorem lit_cons {te : TE} {ta : TA} {d : PyData} {ds : List PyData} (h : Lit te d) (hs : LitAll ta ds) : LitAll (tCons te ta) (d :: ds) := fun σ H _ k =>
  h σ H _ fun v H1 s1 d1 => hs σ H1 _ fun vs H2 s2 d2 => k _ H2 (s1.trans s2) (.cons (d1.same s2) d2)
theorem lit_tup {ta : TA} {ds : List PyData} (hs : LitAll ta ds) (hz : Nat.ble ds.length 100 = true := by rfl) : Lit (tTup ta) (.tuple ds) := fun σ H _ k =>
  hs σ H _ fun vs H1 s1 d1 => ⟨szl (by rw [d1.len]; exact hz), fun p hp => k _ _ (s1.trans (Same.new hp)) (Dt.new d1 hp)⟩
theorem lit_lst {ta : TA} {ds : List PyData} (hs : LitAll ta ds) (hz : Nat.ble ds.length 100 = true := by rfl) : Lit (tLst ta) (.list ds) := fun σ H _ k =>
  hs σ H _ fun vs H1 s1 d1 => ⟨szl (by rw [d1.len]; exact hz), fun p hp => k _ _ (s1.trans (Same.new hp)) (.lst upd_same (d1.same (Same.new hp)))⟩
theorem go_lit {te : TE} {d : PyData} {σ : L2.St} {H : Hp} {Q : VK} (h : Lit te d) (k : ∀ v H', Same H H' → Dt H' v d → Q v H') : te σ H Q := h σ H Q k
theorem go_set {te : TE} {i : Nat} {s : L2.TS} {D : Ends} {d : PyData} {σ : L2.St} {H : Hp} (h : Lit te d) (k : ∀ v H', Same H H' → Dt H' v d → s D (σ.set i (some v)) H') : tSeq (tAsg te (gName i)) s D σ H := h σ H _ k
theorem go_tup {ta : TA} {ds : List PyData} {σ : L2.St} {H : Hp} {Q : VK} (h : Lit (tTup ta) (.tuple ds)) (k : ∀ v H', Same H H' → Dt H' v (.tuple ds) → Q v H') : tTup ta σ H Q := h σ H Q k
theorem go_lst {ta : TA} {ds : List PyData} {σ : L2.St} {H : Hp} {Q : VK} (h : Lit (tLst ta) (.list ds)) (k : ∀ v H', Same H H' → Dt H' v (.list ds) → Q v H') : tLst ta σ H Q := h σ H Q k

def spLWord : Sp := fun vs H Q _ => ∃ a t, vs = [.ref a] ∧ Tape H a t ∧ ∀ (n : Nat) H', n < 4294967296 → Tape H' a t → Chg a H H' → Q (.int (n : Int)) H'
def spLRow : Sp := fun vs H Q _ => ∃ a t, vs = [.ref a] ∧ Tape H a t ∧ ∀ v i H', Dt H' v (insD i) → InsOk i → Tape H' a t → Chg a H H' → Q v H'
def spBad : Sp := fun vs H Q _ => ∃ a t, vs = [.ref a] ∧ Tape H a t ∧ ∀ v d H', Dt H' v d → InsFit d false → noTp d = true → Tape H' a t → Chg a H H' → Q v H'
theorem lit_pow : Lit (tOp (rI CPow fun i j => V.int (i ^ j.toNat)) (tC (.int 2)) (tC (.int 32))) (.int ((2 : Int) ^ (32 : Int).toNat)) := fun σ H Q k =>
  ⟨2, 32, rfl, rfl, by unfold CPow; decide, k _ H (Same.refl H) (.int _)⟩
theorem lit_neg (i : Int) : Lit (tUn (rU fun i => V.int (-i)) (tC (.int i))) (.int (-i)) := fun σ H Q k => ⟨i, rfl, k _ H (Same.refl H) (.int _)⟩
def badI : List PyData := [.tuple [.str "set", .int 6, .int 1], .tuple [.str "set", .int 0, .int (-1)], .tuple [.str "set", .int 0, .int ((2 : Int) ^ (32 : Int).toNat)], .tuple [.str "copy", .int 1], .tuple [.str "add", .int 1, .int 2, .bool true], .tuple [.str "jump", .int 601], .tuple [.str "if", .int 0, .int (-1)],
  .tuple [.str "call", .str "jump"], .tuple [.str "call", .none], .list [.str "set", .int 0, .int 1], .tuple [], .tuple [.str "nothing"], .int 5, .tuple [.str "load", .int 1, .int 2, .int 3]]
theorem flat_all {ds : List PyData} (h : ds.all flatD = true) : ∀ d ∈ ds, flatD d = true := List.all_eq_true.mp h
theorem bad_fit : ∀ d ∈ badI, InsFit d false ∧ noTp d = true := by
  intro d hd
  unfold badI at hd
  simp only [List.mem_cons, List.not_mem_nil, or_false] at hd
  rcases hd with rfl | rfl | rfl | rfl | rfl | rfl | rfl | rfl | rfl | rfl | rfl | rfl | rfl | rfl
  · exact ⟨.ins (o := some "rw") (by simp [TBL]) (flat_all rfl) (by decide +kernel), by decide +kernel⟩
  · exact ⟨.ins (o := some "rw") (by simp [TBL]) (flat_all rfl) (by decide +kernel), by decide +kernel⟩
  · exact ⟨.ins (o := some "rw") (by simp [TBL]) (flat_all rfl) (by decide +kernel), by decide +kernel⟩
  · exact ⟨.ins (o := some "rr") (by simp [TBL]) (flat_all rfl) (by decide +kernel), by decide +kernel⟩
  · exact ⟨.ins (o := some "rrr") (by simp [TBL]) (flat_all rfl) (by decide +kernel), by decide +kernel⟩
  · exact ⟨.ins (o := some "p") (by simp [TBL]) (flat_all rfl) (by decide +kernel), by decide +kernel⟩
  · exact ⟨.ins (o := some "rp") (by simp [TBL]) (flat_all rfl) (by decide +kernel), by decide +kernel⟩
  · exact ⟨.ins (o := some "n") (by simp [TBL]) (flat_all rfl) (by decide +kernel), by decide +kernel⟩
  · exact ⟨.ins (o := some "n") (by simp [TBL]) (flat_all rfl) (by decide +kernel), by decide +kernel⟩
  · exact ⟨.no rfl, by decide +kernel⟩
  · exact ⟨.nil, by decide +kernel⟩
  · exact ⟨.ins (o := none) (by simp [TBL]) (flat_all rfl) rfl, by decide +kernel⟩
  · exact ⟨.no rfl, by decide +kernel⟩
  · exact ⟨.ins (o := some "rr") (by simp [TBL]) (flat_all rfl) (by decide +kernel), by decide +kernel⟩
def LitS (σ : L2.St) (te : TE) (d : PyData) : Prop := ∀ H Q, (∀ v H', Same H H' → Dt H' v d → Q v H') → te σ H Q
def LitSA (σ : L2.St) (ta : TA) (ds : List PyData) : Prop := ∀ H Q, (∀ vs H', Same H H' → DtAll H' vs ds → Q vs H') → ta σ H Q
theorem ls_var {σ : L2.St} {i : Nat} {n : Int} (h : σ[i]? = some (some (V.int n))) : LitS σ (tVar i) (.int n) := fun H Q k => ⟨_, h, k _ H (Same.refl H) (.int n)⟩
theorem ls_str {σ : L2.St} (x : Str) : LitS σ (tC (.str x)) (.str x) := fun H Q k => k _ H (Same.refl H) (.str x)
theorem ls_nil {σ : L2.St} : LitSA σ tNil [] := fun H Q k => k _ H (Same.refl H) .nil
theorem ls_cons {σ : L2.St} {te : TE} {ta : TA} {d : PyData} {ds : List PyData} (h : LitS σ te d) (hs : LitSA σ ta ds) : LitSA σ (tCons te ta) (d :: ds) := fun H _ k =>
  h H _ fun v H1 s1 d1 => hs H1 _ fun vs H2 s2 d2 => k _ H2 (s1.trans s2) (.cons (d1.same s2) d2)
theorem ls_tup {σ : L2.St} {ta : TA} {ds : List PyData} (hs : LitSA σ ta ds) (hz : Nat.ble ds.length 100 = true := by rfl) : LitS σ (tTup ta) (.tuple ds) := fun H _ k =>
  hs H _ fun vs H1 s1 d1 => ⟨szl (by rw [d1.len]; exact hz), fun p hp => k _ _ (s1.trans (Same.new hp)) (Dt.new d1 hp)⟩
/-- the next of a row of arguments -/
theorem ls_next {σ : L2.St} {te : TE} {ta : TA} {d : PyData} {H : Hp} {Q : List V → Hp → Prop} (h : LitS σ te d) (k : ∀ v H', Same H H' → Dt H' v d → ta σ H' fun vs H2 => Q (v :: vs) H2) : tCons te ta σ H Q := h H _ k
theorem names_all : ∀ y, y < 16 → ∃ z : Str, NAMESV[y]? = some (.str z) ∧ inV (.str z) NAMESV = true ∧ SeqAt.shaped (.str z) = true := by
  intro y hy
  match y, hy with
  | 0, _ => exact ⟨_, rfl, by decide +kernel, by decide +kernel⟩
  | 1, _ => exact ⟨_, rfl, by decide +kernel, by decide +kernel⟩
  | 2, _ => exact ⟨_, rfl, by decide +kernel, by decide +kernel⟩
  | 3, _ => exact ⟨_, rfl, by decide +kernel, by decide +kernel⟩
  | 4, _ => exact ⟨_, rfl, by decide +kernel, by decide +kernel⟩
  | 5, _ => exact ⟨_, rfl, by decide +kernel, by decide +kernel⟩
  | 6, _ => exact ⟨_, rfl, by decide +kernel, by decide +kernel⟩
  | 7, _ => exact ⟨_, rfl, by decide +kernel, by decide +kernel⟩
  | 8, _ => exact ⟨_, rfl, by decide +kernel, by decide +kernel⟩
  | 9, _ => exact ⟨_, rfl, by decide +kernel, by decide +kernel⟩
  | 10, _ => exact ⟨_, rfl, by decide +kernel, by decide +kernel⟩
  | 11, _ => exact ⟨_, rfl, by decide +kernel, by decide +kernel⟩
  | 12, _ => exact ⟨_, rfl, by decide +kernel, by decide +kernel⟩
  | 13, _ => exact ⟨_, rfl, by decide +kernel, by decide +kernel⟩
  | 14, _ => exact ⟨_, rfl, by decide +kernel, by decide +kernel⟩
  | 15, _ => exact ⟨_, rfl, by decide +kernel, by decide +kernel⟩
  | n + 16, h => exact absurd h (by omega)
section
variable {P : Program} {w : World} {K : PySem.W.Frag} {mg : Str → Option Value} {base : Heap} {A_NAMES A_PARTS : Addr}
abbrev s_law_word : Stmt := topS 20
abbrev ns_law_word : List Str := ["tape"]
theorem sc_law_word : FnScope ns_law_word ["tape"] (defScope s_law_word) := ⟨rfl, rfl, rfl, by decide +kernel, rfl, by decide +kernel, by decide +kernel⟩

theorem ok_law_word {f : Addr} {fd : FuncData} (F : Fun K "_law_word" "_law_word" s_law_word f fd) (T : Txt K mg  w A_NAMES A_PARTS) (D_law_next : Dfn P w K mg base CX0 1 "_law_next" ["tape", "many"] spNext) : FnOk P w K mg base CX0 2 f fd ["tape"] spLWord := by
  refine F.ok sc_law_word (fun vs H Q E h => ?_) (fun cdv A outer s H vs Q E hr h => ?_)
  · obtain ⟨a, t, rfl, _⟩ := h
    rfl
  · obtain ⟨a, t, rfl, tp, k⟩ := h
    refine ⟨_, (pss_one (ps_ret (pe_ix (kIxL K) (pe_lst (pa_cons (pe_dcall D_law_next (hr.mono (by decide)) (by rfl) pass0 (pa_cons (pv 0) (pa_cons pe_int pa_nil))) (pa_cons (pe_op op_sub (pe_op op_sub (pe_op op_pow pe_int pe_int) pe_int) (pe_dcall D_law_next (hr.mono (by decide)) (by rfl) pass0 (pa_cons (pv 0) (pa_cons pe_int pa_nil)))) (pa_cons (pe_op op_mul (pe_dcall D_law_next (hr.mono (by decide)) (by rfl) pass0 (pa_cons (pv 0) (pa_cons pe_int pa_nil))) pe_int) pa_nil)))) (pe_dcall D_law_next (hr.mono (by decide)) (by rfl) pass0 (pa_cons (pv 0) (pa_cons pe_int pa_nil))) (fun _ _ => rfl)))), ?_⟩
    walk_at "run"
    refine ⟨a, t, 9, rfl, by decide, by decide, tp, fun y H1 y0 y1 t1 c1 => ?_⟩
    walk_at "run"
    refine ⟨a, t, 3, rfl, by decide, by decide, t1, fun z H2 z0 z1 t2 c2 => ?_⟩
    walk_at "run"
    refine ⟨a, t, 65536, rfl, by decide, by decide, t2, fun x H3 x0 x1 t3 c3 => ?_⟩
    walk_at "run"
    refine ⟨szl rfl, fun u hu => ?_⟩
    have su := Same.new (o := .lst [.int y, .int (2 ^ 32 - 1 - z), .int (x * 65537)]) hu
    have nu := t3.at hu
    walk_at "run"
    refine ⟨a, t, 3, rfl, by decide, by decide, t3.same su, fun g H4 g0 g1 t4 c4 => ?_⟩
    have hu4 := c4 _ _ nu upd_same
    have pick : ∃ n : Nat, n < 4294967296 ∧ atI [V.int y, V.int (2 ^ 32 - 1 - z), V.int (x * 65537)] g = some (V.int (n : Int)) := by
      have hg : g = 0 ∨ g = 1 ∨ g = 2 := by omega
      rcases hg with rfl | rfl | rfl
      · exact ⟨y.toNat, by omega, atC 0 rfl (by rw [Int.toNat_of_nonneg y0]; rfl)⟩
      · exact ⟨(2 ^ 32 - 1 - z).toNat, by omega, atC 1 rfl (by rw [Int.toNat_of_nonneg (by omega)]; rfl)⟩
      · exact ⟨(x * 65537).toNat, by omega, atC 2 rfl (by rw [Int.toNat_of_nonneg (by omega)]; rfl)⟩
    obtain ⟨n, nb, hn⟩ := pick
    refine ⟨_, _, _, _, rfl, rfl, SqL.of hu4, hn, k n H4 nb t4 ((((c1.trans c2).trans c3).trans (Same.chg su)).trans c4)⟩
abbrev s_law_row : Stmt := topS 21
abbrev ns_law_row : List Str := ["tape", "kind", "r", "s", "t", "place", "rows"]
theorem sc_law_row : FnScope ns_law_row ["tape"] (defScope s_law_row) := ⟨rfl, rfl, rfl, by decide +kernel, rfl, by decide +kernel, by decide +kernel⟩

theorem ok_law_row {f : Addr} {fd : FuncData} (F : Fun K "_law_row" "_law_row" s_law_row f fd) (T : Txt K mg  w A_NAMES A_PARTS) (D_law_next : Dfn P w K mg base CX0 1 "_law_next" ["tape", "many"] spNext) (D_law_word : Dfn P w K mg base CX0 2 "_law_word" ["tape"] spLWord) : FnOk P w K mg base CX0 3 f fd ["tape"] spLRow := by
  refine F.ok sc_law_row (fun vs H Q E h => ?_) (fun cdv A outer s H vs Q E hr h => ?_)
  · obtain ⟨a, t, rfl, _⟩ := h
    rfl
  · obtain ⟨a, t, rfl, tp, k⟩ := h
    refine ⟨_, (pss_cons (ps_set (i := 1) sc_law_row.nd rfl (Or.inl rfl) (pe_dcall D_law_next (hr.mono (by decide)) (by rfl) pass0 (pa_cons (pv 0) (pa_cons pe_int pa_nil))))
  (pss_cons (ps_par3 (i := 2) (j := 3) (l := 4) (by rfl) sc_law_row.nd rfl rfl rfl (by decide) (by decide) (by decide) rfl rfl rfl (pa_cons (pe_dcall D_law_next (hr.mono (by decide)) (by rfl) pass0 (pa_cons (pv 0) (pa_cons pe_int pa_nil))) (pa_cons (pe_dcall D_law_next (hr.mono (by decide)) (by rfl) pass0 (pa_cons (pv 0) (pa_cons pe_int pa_nil))) (pa_cons (pe_dcall D_law_next (hr.mono (by decide)) (by rfl) pass0 (pa_cons (pv 0) (pa_cons pe_int pa_nil))) pa_nil))) (by rfl))
  (pss_cons (ps_set (i := 5) sc_law_row.nd rfl (Or.inl rfl) (pe_dcall D_law_next (hr.mono (by decide)) (by rfl) pass0 (pa_cons (pv 0) (pa_cons pe_int pa_nil))))
  (pss_cons (ps_set (i := 6) sc_law_row.nd rfl (Or.inl rfl) (pe_lst (pa_cons (pe_tup (pa_cons pe_str (pa_cons (pv 2) (pa_cons (pe_dcall D_law_word (hr.mono (by decide)) (by rfl) pass0 (pa_cons (pv 0) pa_nil)) pa_nil)))) (pa_cons (pe_tup (pa_cons pe_str (pa_cons (pv 2) (pa_cons (pv 3) pa_nil)))) (pa_cons (pe_tup (pa_cons pe_str (pa_cons (pv 2) (pa_cons (pv 3) (pa_cons (pv 4) pa_nil))))) (pa_cons (pe_tup (pa_cons pe_str (pa_cons (pv 2) (pa_cons (pv 3) (pa_cons (pv 4) pa_nil))))) (pa_cons (pe_tup (pa_cons pe_str (pa_cons (pv 2) (pa_cons (pv 3) (pa_cons (pv 4) pa_nil))))) (pa_cons (pe_tup (pa_cons pe_str (pa_cons (pv 5) pa_nil))) (pa_cons (pe_tup (pa_cons pe_str (pa_cons (pv 2) (pa_cons (pv 5) pa_nil)))) (pa_cons (pe_tup (pa_cons pe_str (pa_cons (pv 2) (pa_cons (pv 3) pa_nil)))) (pa_cons (pe_tup (pa_cons pe_str (pa_cons (pv 2) (pa_cons (pv 3) pa_nil)))) (pa_cons (pe_tup (pa_cons pe_str (pa_cons (pe_ix (kIxT K) (pe_gref (by rfl) T.c_NAMES) (pe_dcall D_law_next (hr.mono (by decide)) (by rfl) pass0 (pa_cons (pv 0) (pa_cons (pe_callB (kLen K) (by rfl) T.b_len (by decide +kernel) (pa_cons (pe_gref (by rfl) T.c_NAMES) pa_nil)) pa_nil))) (fun _ _ => rfl)) pa_nil))) pa_nil))))))))))))
  (pss_one (ps_ret (pe_ix (kIxL K) (pv 6) (pv 1) (fun _ _ => rfl)))))))), ?_⟩
    walk_at "run"
    refine ⟨a, t, 10, rfl, by decide, by decide, tp, fun g H1 g0 g1 t1 c1 => ?_⟩
    walk_at "run"
    refine ⟨a, t, 6, rfl, by decide, by decide, t1, fun r H2 r0 r1 t2 c2 => ?_⟩
    walk_at "run"
    refine ⟨a, t, 6, rfl, by decide, by decide, t2, fun s' H3 s0 s1 t3 c3 => ?_⟩
    walk_at "run"
    refine ⟨a, t, 6, rfl, by decide, by decide, t3, fun x H4 x0 x1 t4 c4 => ?_⟩
    walk_at "run"
    refine ⟨_, _, _, rfl, ?_⟩
    walk_at "run"
    refine ⟨a, t, 601, rfl, by decide, by decide, t4, fun q H5 q0 q1 t5 c5 => ?_⟩
    obtain ⟨r, rfl⟩ := Int.eq_ofNat_of_zero_le r0
    obtain ⟨s', rfl⟩ := Int.eq_ofNat_of_zero_le s0
    obtain ⟨x, rfl⟩ := Int.eq_ofNat_of_zero_le x0
    obtain ⟨q, rfl⟩ := Int.eq_ofNat_of_zero_le q0
    walk_at "run"
    refine ⟨a, t, rfl, t5, fun n H6 nb t6 c6 => ?_⟩
    walk_at "run"
    refine ⟨szl rfl, fun p1 hp1 => ?_⟩
    have d1 : Dt (upd H6 p1 (.tup [.str "set", .int (r : Int), .int (n : Int)])) (.ref p1) (insD (.set r n)) := Dt.new (.cons (.str _) (.cons (.int _) (.cons (.int _) .nil))) hp1
    have t7 := t6.same (Same.new (o := .tup [.str "set", .int (r : Int), .int (n : Int)]) hp1)
    have c7 := c6.trans (Same.chg (Same.new (o := .tup [.str "set", .int (r : Int), .int (n : Int)]) hp1))
    generalize upd H6 p1 (.tup [.str "set", .int (r : Int), .int (n : Int)]) = H7 at d1 t7 c7
    have nx : ∀ {te : TE} {ta : TA} {σ : L2.St} {H : Hp} {Q : List V → Hp → Prop} (d : PyData), LitS σ te d → (∀ v H', Same H H' → Dt H' v d → ta σ H' fun vs H2 => Q (v :: vs) H2) → tCons te ta σ H Q := fun d h k => h _ _ k
    have all : DtAll H7 [V.ref p1] [insD (.set r n)] := .cons d1 .nil
    clear d1
    refine nx (insD (.copy r s')) (ls_tup (ls_cons (ls_str "copy") (ls_cons (ls_var rfl) (ls_cons (ls_var rfl) ls_nil)))) fun v8 H8 s8 d8 => ?_
    have all := (all.same s8).append (.cons d8 .nil)
    have t8 := t7.same s8
    have c8 := c7.trans (Same.chg s8)
    clear d8 s8 t7 c7
    refine nx (insD (.add r s' x)) (ls_tup (ls_cons (ls_str "add") (ls_cons (ls_var rfl) (ls_cons (ls_var rfl) (ls_cons (ls_var rfl) ls_nil))))) fun v9 H9 s9 d9 => ?_
    have all := (all.same s9).append (.cons d9 .nil)
    have t9 := t8.same s9
    have c9 := c8.trans (Same.chg s9)
    clear d9 s9 t8 c8
    refine nx (insD (.sub r s' x)) (ls_tup (ls_cons (ls_str "sub") (ls_cons (ls_var rfl) (ls_cons (ls_var rfl) (ls_cons (ls_var rfl) ls_nil))))) fun v10 H10 s10 d10 => ?_
    have all := (all.same s10).append (.cons d10 .nil)
    have t10 := t9.same s10
    have c10 := c9.trans (Same.chg s10)
    clear d10 s10 t9 c9
    refine nx (insD (.less r s' x)) (ls_tup (ls_cons (ls_str "less") (ls_cons (ls_var rfl) (ls_cons (ls_var rfl) (ls_cons (ls_var rfl) ls_nil))))) fun v11 H11 s11 d11 => ?_
    have all := (all.same s11).append (.cons d11 .nil)
    have t11 := t10.same s11
    have c11 := c10.trans (Same.chg s11)
    clear d11 s11 t10 c10
    refine nx (insD (.jump q)) (ls_tup (ls_cons (ls_str "jump") (ls_cons (ls_var rfl) ls_nil))) fun v12 H12 s12 d12 => ?_
    have all := (all.same s12).append (.cons d12 .nil)
    have t12 := t11.same s12
    have c12 := c11.trans (Same.chg s12)
    clear d12 s12 t11 c11
    refine nx (insD (.iff r q)) (ls_tup (ls_cons (ls_str "if") (ls_cons (ls_var rfl) (ls_cons (ls_var rfl) ls_nil)))) fun v13 H13 s13 d13 => ?_
    have all := (all.same s13).append (.cons d13 .nil)
    have t13 := t12.same s13
    have c13 := c12.trans (Same.chg s13)
    clear d13 s13 t12 c12
    refine nx (insD (.load r s')) (ls_tup (ls_cons (ls_str "load") (ls_cons (ls_var rfl) (ls_cons (ls_var rfl) ls_nil)))) fun v14 H14 s14 d14 => ?_
    have all := (all.same s14).append (.cons d14 .nil)
    have t14 := t13.same s14
    have c14 := c13.trans (Same.chg s14)
    clear d14 s14 t13 c13
    refine nx (insD (.store r s')) (ls_tup (ls_cons (ls_str "store") (ls_cons (ls_var rfl) (ls_cons (ls_var rfl) ls_nil)))) fun v15 H15 s15 d15 => ?_
    have all := (all.same s15).append (.cons d15 .nil)
    have t15 := t14.same s15
    have c15 := c14.trans (Same.chg s15)
    clear d15 s15 t14 c14
    walk_at "run"
    refine ⟨_, _, rfl, .inr (T.t_NAMES _), ?_⟩
    refine ⟨a, t, 16, rfl, by decide, by decide, t15, fun y H16 y0 y1 t16 c16 => ?_⟩
    obtain ⟨y, rfl⟩ := Int.eq_ofNat_of_zero_le y0
    have nm : ∃ z : Str, NAMESV[y]? = some (.str z) ∧ inV (.str z) NAMESV = true ∧ SeqAt.shaped (.str z) = true := by
      have hy : y < 16 := by omega
      have := names_all y hy
      exact this
    obtain ⟨z, hz1, hz2, hz3⟩ := nm
    refine ⟨_, _, _, _, rfl, rfl, T.t_NAMES _, atC y rfl hz1, ?_⟩
    refine ⟨szl rfl, fun p2 hp2 => ?_⟩
    have d2 : Dt (upd H16 p2 (.tup [.str "call", .str z])) (.ref p2) (insD (.call z)) := Dt.new (.cons (.str _) (.cons (.str _) .nil)) hp2
    have all := ((all.ts (t15.ts c16) rfl).same (Same.new (o := .tup [.str "call", .str z]) hp2)).append (.cons d2 .nil)
    have t17 := t16.same (Same.new (o := .tup [.str "call", .str z]) hp2)
    have c17 := (c15.trans c16).trans (Same.chg (Same.new (o := .tup [.str "call", .str z]) hp2))
    generalize upd H16 p2 (.tup [.str "call", .str z]) = H17 at all t17 c17
    have all : DtAll H17 [V.ref p1, v8, v9, v10, v11, v12, v13, v14, v15, V.ref p2] (List.map insD [.set r n, .copy r s', .add r s' x, .sub r s' x, .less r s' x, .jump q, .iff r q, .load r s', .store r s', .call z]) := all
    have oks : ∀ i ∈ ([.set r n, .copy r s', .add r s' x, .sub r s' x, .less r s' x, .jump q, .iff r q, .load r s', .store r s', .call z] : List Ins), InsOk i := by
      intro i hi
      have r6 : r < 6 := by omega
      have s6 : s' < 6 := by omega
      have x6 : x < 6 := by omega
      have q6 : q ≤ 600 := by omega
      simp only [List.mem_cons, List.not_mem_nil, or_false] at hi
      rcases hi with rfl | rfl | rfl | rfl | rfl | rfl | rfl | rfl | rfl | rfl
      · exact ⟨r6, nb⟩
      · exact ⟨r6, s6⟩
      · exact ⟨r6, s6, x6⟩
      · exact ⟨r6, s6, x6⟩
      · exact ⟨r6, s6, x6⟩
      · exact q6
      · exact ⟨r6, q6⟩
      · exact ⟨r6, s6⟩
      · exact ⟨r6, s6⟩
      · exact ⟨hz2, hz3⟩
    generalize ([.set r n, .copy r s', .add r s' x, .sub r s' x, .less r s' x, .jump q, .iff r q, .load r s', .store r s', .call z] : List Ins) = is at all oks
    have len : is.length = 10 := by have := all.len; rw [List.length_map] at this; exact this.symm
    refine ⟨szl rfl, fun l hl => ?_⟩
    have sl := Same.new (o := .lst [V.ref p1, v8, v9, v10, v11, v12, v13, v14, v15, V.ref p2]) hl
    obtain ⟨g', rfl⟩ := Int.eq_ofNat_of_zero_le g0
    have hg : g' < is.length := by omega
    obtain ⟨v, hv, hvd⟩ := all.get (show (is.map insD)[g']? = some (insD is[g']) by rw [List.getElem?_map, List.getElem?_eq_getElem hg]; rfl)
    walk_at "run"
    refine ⟨_, _, _, _, rfl, rfl, SqL.of upd_same, atC g' rfl hv, k v _ _ (hvd.same sl) (oks _ (List.getElem_mem hg)) (t17.same sl) (((((c1.trans c2).trans c3).trans c4).trans c5).trans (c17.trans (Same.chg sl)))⟩
abbrev s_law_spoilt : Stmt := topS 22
abbrev ns_law_spoilt : List Str := ["tape", "bad"]
theorem sc_law_spoilt : FnScope ns_law_spoilt ["tape"] (defScope s_law_spoilt) := ⟨rfl, rfl, rfl, by decide +kernel, rfl, by decide +kernel, by decide +kernel⟩

theorem ok_law_spoilt {f : Addr} {fd : FuncData} (F : Fun K "_law_spoilt" "_law_spoilt" s_law_spoilt f fd) (T : Txt K mg  w A_NAMES A_PARTS) (D_law_next : Dfn P w K mg base CX0 1 "_law_next" ["tape", "many"] spNext) : FnOk P w K mg base CX0 2 f fd ["tape"] spBad := by
  refine F.ok sc_law_spoilt (fun vs H Q E h => ?_) (fun cdv A outer s H vs Q E hr h => ?_)
  · obtain ⟨a, t, rfl, _⟩ := h
    rfl
  · obtain ⟨a, t, rfl, tp, k⟩ := h
    refine ⟨_, (pss_cons (ps_set (i := 1) sc_law_spoilt.nd rfl (Or.inl rfl) (pe_lst (pa_cons (pe_tup (pa_cons pe_str (pa_cons pe_int (pa_cons pe_int pa_nil)))) (pa_cons (pe_tup (pa_cons pe_str (pa_cons pe_int (pa_cons (pe_un un_neg pe_int) pa_nil)))) (pa_cons (pe_tup (pa_cons pe_str (pa_cons pe_int (pa_cons (pe_op op_pow pe_int pe_int) pa_nil)))) (pa_cons (pe_tup (pa_cons pe_str (pa_cons pe_int pa_nil))) (pa_cons (pe_tup (pa_cons pe_str (pa_cons pe_int (pa_cons pe_int (pa_cons pe_bl pa_nil))))) (pa_cons (pe_tup (pa_cons pe_str (pa_cons pe_int pa_nil))) (pa_cons (pe_tup (pa_cons pe_str (pa_cons pe_int (pa_cons (pe_un un_neg pe_int) pa_nil)))) (pa_cons (pe_tup (pa_cons pe_str (pa_cons pe_str pa_nil))) (pa_cons (pe_tup (pa_cons pe_str (pa_cons pe_non pa_nil))) (pa_cons (pe_lst (pa_cons pe_str (pa_cons pe_int (pa_cons pe_int pa_nil)))) (pa_cons (pe_tup pa_nil) (pa_cons (pe_tup (pa_cons pe_str pa_nil)) (pa_cons pe_int (pa_cons (pe_tup (pa_cons pe_str (pa_cons pe_int (pa_cons pe_int (pa_cons pe_int pa_nil))))) pa_nil))))))))))))))))
  (pss_one (ps_ret (pe_ix (kIxL K) (pv 1) (pe_dcall D_law_next (hr.mono (by decide)) (by rfl) pass0 (pa_cons (pv 0) (pa_cons pe_int pa_nil))) (fun _ _ => rfl))))), ?_⟩
    refine go_set (d := .list badI) ?_ fun vb H1 s1 db => ?_
    · repeat first | exact lit_nil | exact lit_int _ | exact lit_bl _ | exact lit_str _ | exact lit_non | exact lit_neg _ | exact lit_pow | refine lit_cons ?_ ?_ | refine lit_tup ?_ rfl | refine lit_lst ?_ rfl
    · cases db with
      | @lst b bxs _ hb hbs =>
        have bl : bxs.length = 14 := hbs.len
        have t1 := tp.same s1
        have nba : b ≠ a := by
          obtain ⟨ns, i, r, z, ha, _⟩ := t1
          exact ne_of hb ha (by intro q; injection q with q; rw [q] at bl; cases bl)
        walk_at "run"
        refine ⟨a, t, 14, rfl, by decide, by decide, t1, fun g H2 g0 g1 t2 c2 => ?_⟩
        obtain ⟨g', rfl⟩ := Int.eq_ofNat_of_zero_le g0
        have hg : g' < 14 := by omega
        obtain ⟨d, hd⟩ : ∃ d, badI[g']? = some d := ⟨_, List.getElem?_eq_getElem (by show g' < 14; exact hg)⟩
        obtain ⟨v, hv, hvd⟩ := hbs.get hd
        obtain ⟨fit, nt⟩ := bad_fit d (List.mem_of_getElem? hd)
        refine ⟨_, _, _, _, rfl, rfl, SqL.of (c2 _ _ nba hb), atC g' rfl hv, k v d H2 (hvd.tp t1 c2 nt) fit nt t2 ((Same.chg s1).trans c2)⟩
def spDue : Sp := spStep
abbrev s_law_due : Stmt := topS 23
abbrev ns_law_due : List Str := ["row", "registers", "place", "after", "word", "value"]
theorem sc_law_due : FnScope ns_law_due ["row", "registers", "place"] (defScope s_law_due) := ⟨rfl, rfl, rfl, by decide +kernel, rfl, by decide +kernel, by decide +kernel⟩

theorem ok_law_due {f : Addr} {fd : FuncData} (F : Fun K "_law_due" "_law_due" s_law_due f fd) (T : Txt K mg  w A_NAMES A_PARTS) : FnOk P w K mg base CX0 1 f fd ["row", "registers", "place"] spDue := by
  refine F.ok sc_law_due (fun vs H Q E h => ?_) (fun cdv A outer s H vs Q E hr h => ?_)
  · obtain ⟨v, r, rs, i, p, rfl, _⟩ := h
    rfl
  · obtain ⟨v, r, rs, i, p, rfl, hi, ok, ro, hrg, hd, k⟩ := h
    refine ⟨_, (pss_cons (ps_set (i := 3) sc_law_due.nd rfl (Or.inl rfl) (pe_callTy (kListOf K) (by rfl) T.b_list (by decide +kernel) (pa_cons (pv 1) pa_nil)))
  (pss_cons (ps_set (i := 4) sc_law_due.nd rfl (Or.inl rfl) (pe_ix (kIxT K) (pv 0) pe_int (fun _ _ => rfl)))
  (pss_cons (ps_if (pt_cmpR op_eq (pv 4) pe_str (nomark _)) (pss_one (ps_ret (pe_tup (pa_cons (pv 3) (pa_cons (pe_ix (kIxT K) (pv 0) pe_int (fun _ _ => rfl)) pa_nil))))) pss_nil)
  (pss_cons (ps_if (pt_cmpR op_eq (pv 4) pe_str (nomark _)) (pss_one (ps_ret (pe_tup (pa_cons (pv 3) (pa_cons (pe_ifExp (pt_cmpR op_gt (pe_ix (kIxL K) (pv 1) (pe_ix (kIxT K) (pv 0) pe_int (fun _ _ => rfl)) (fun _ _ => rfl)) pe_int (nomark _)) (pe_ix (kIxT K) (pv 0) pe_int (fun _ _ => rfl)) (pe_op op_add (pv 2) pe_int)) pa_nil))))) pss_nil)
  (C8.pss_cut (ps_if (pt_cmpR op_eq (pv 4) pe_str (nomark _)) (pss_one (ps_asg (pe_ix (kIxT K) (pv 0) pe_int (fun _ _ => rfl)) (pg_sub (pv 3) (pe_ix (kIxT K) (pv 0) pe_int (fun _ _ => rfl)) set_list))) (pss_one (ps_if (pt_cmpR op_eq (pv 4) pe_str (nomark _)) (pss_one (ps_asg (pe_ix (kIxL K) (pv 1) (pe_ix (kIxT K) (pv 0) pe_int (fun _ _ => rfl)) (fun _ _ => rfl)) (pg_sub (pv 3) (pe_ix (kIxT K) (pv 0) pe_int (fun _ _ => rfl)) set_list))) (pss_one (ps_if (pt_cmpR op_eq (pv 4) pe_str (nomark _)) (pss_one (ps_asg (pe_callTy call_int1 (by rfl) T.b_int (by decide +kernel) (pa_cons (pe_cmpR op_lt (pe_ix (kIxL K) (pv 1) (pe_ix (kIxT K) (pv 0) pe_int (fun _ _ => rfl)) (fun _ _ => rfl)) (pe_ix (kIxL K) (pv 1) (pe_ix (kIxT K) (pv 0) pe_int (fun _ _ => rfl)) (fun _ _ => rfl)) (nomark _)) pa_nil)) (pg_sub (pv 3) (pe_ix (kIxT K) (pv 0) pe_int (fun _ _ => rfl)) set_list))) (pss_cons (ps_set (i := 5) sc_law_due.nd rfl (Or.inl rfl) (pe_ifExp (pt_cmpR op_eq (pv 4) pe_str (nomark _)) (pe_op op_add (pe_ix (kIxL K) (pv 1) (pe_ix (kIxT K) (pv 0) pe_int (fun _ _ => rfl)) (fun _ _ => rfl)) (pe_ix (kIxL K) (pv 1) (pe_ix (kIxT K) (pv 0) pe_int (fun _ _ => rfl)) (fun _ _ => rfl))) (pe_op op_sub (pe_ix (kIxL K) (pv 1) (pe_ix (kIxT K) (pv 0) pe_int (fun _ _ => rfl)) (fun _ _ => rfl)) (pe_ix (kIxL K) (pv 1) (pe_ix (kIxT K) (pv 0) pe_int (fun _ _ => rfl)) (fun _ _ => rfl)))))
  (pss_one (ps_asg (pe_ifExp (pt_cmpR op_ge (pv 5) (pe_op op_pow pe_int pe_int) (nomark _)) (pe_op op_sub (pv 5) (pe_op op_pow pe_int pe_int)) (pe_ifExp (pt_cmpR op_lt (pv 5) pe_int (nomark _)) (pe_op op_add (pv 5) (pe_op op_pow pe_int pe_int)) (pv 5))) (pg_sub (pv 3) (pe_ix (kIxT K) (pv 0) pe_int (fun _ _ => rfl)) set_list)))))))))
  (pss_one (ps_ret (pe_tup (pa_cons (pv 3) (pa_cons (pe_op op_add (pv 2) pe_int) pa_nil)))))))))), ?_⟩
    walk_at "run"
    refine fun l hl => ?_
    have s1 := Same.new (o := .lst (rs.map vN)) hl
    have hr1 := s1 _ _ hrg
    have hd1 := hd.same s1
    have hl1 : upd H l (.lst (rs.map vN)) l = some (.lst (rs.map vN)) := upd_same
    generalize upd H l (.lst (rs.map vN)) = H1 at s1 hl1 hr1 hd1
    have jmp : ∀ (n : Nat), stepD i rs p = .tuple [.list (rs.map nD), nD n] → ∀ q, H1 q = none → Q (.ref q) (upd H1 q (.tup [.ref l, .int (n : Int)])) := fun n e q hq => k _ _ (s1.trans (Same.new hq)) (by
      rw [e]
      exact Dt.new (.cons (.lst hl1 (vns_dt rs)) (.cons (.int _) .nil)) hq)
    have fin : ∀ (H2 : Hp) (n m : Nat), stepD i rs p = .tuple [.list ((rs.set n m).map nD), nD (p + 1)] → H2 = upd H1 l (.lst ((rs.map vN).set n (.int (m : Int)))) → ∀ q, H2 q = none → Q (.ref q) (upd H2 q (.tup [.ref l, .int ((p : Int) + 1)])) := fun H2 n m e e2 q hq => by
      subst e2
      refine k _ _ ((Same.mut s1 hl).trans (Same.new hq)) ?_
      rw [e, show (p : Int) + 1 = ((p + 1 : Nat) : Int) by omega]
      refine Dt.new (.cons (.lst upd_same ?_) (.cons (.int _) .nil)) hq
      have em : (rs.map vN).set n (.int (m : Int)) = (rs.set n m).map vN := by rw [List.map_set]; rfl
      rw [em]
      exact vns_dt _
    cases i with
    | jump q =>
      obtain ⟨a, u, w', rfl, ha, hu, hw⟩ := tup2 hd1
      cases hu
      cases hw
      walk_at "run"
      exact ⟨szl rfl, fun q' hq => jmp q rfl q' hq⟩
    | iff r' q =>
      obtain ⟨a, u, w', z, rfl, ha, hu, hw, hz⟩ := tup3 hd1
      cases hu
      cases hw
      cases hz
      walk_at "run"
      refine ⟨_, _, _, _, rfl, rfl, SqL.of hr1, atC r' rfl (getVN (by rw [ro.1]; exact ok.1)), ?_⟩
      walk_at "run"
      refine iteD (fun e => ?_) (fun e => ?_)
      · have z : ¬ rs.getD r' 0 = 0 := by
          have e' : (0 : Int) < ((rs.getD r' 0 : Nat) : Int) := e
          omega
        walk_at "run"
        refine ⟨szl rfl, fun q' hq => jmp q ?_ q' hq⟩
        show PyData.tuple [.list (rs.map nD), nD (if rs.getD r' 0 = 0 then p + 1 else q)] = _
        rw [if_neg z]
      · have z : rs.getD r' 0 = 0 := by
          have e' : ¬ (0 : Int) < ((rs.getD r' 0 : Nat) : Int) := e
          omega
        walk_at "run"
        refine ⟨szl rfl, fun q' hq => jmp (p + 1) ?_ q' hq⟩
        show PyData.tuple [.list (rs.map nD), nD (if rs.getD r' 0 = 0 then p + 1 else q)] = _
        rw [if_pos z]
    | set n x =>
      obtain ⟨a, u, w', z, rfl, ha, hu, hw, hz⟩ := tup3 hd1
      cases hu
      cases hw
      cases hz
      walk_at "run"
      refine ⟨fun σ H' => ∃ v5 : Option V, σ = [some (.ref a), some (.ref r), some (.int (p : Int)), some (.ref l), some (.str "set"), v5] ∧ H' = upd H1 l (.lst ((rs.map vN).set n (.int (x : Int)))), ?_, ?_⟩
      · walk_at "run"
        refine ⟨l, _, _, n, rfl, rfl, hl1, ixC n rfl (by rw [List.length_map, ro.1]; exact ok.1), ?_⟩
        exact ⟨_, rfl, rfl⟩
      · rintro σ H2 ⟨v5, rfl, e2⟩
        walk_at "run"
        exact ⟨szl rfl, fun q' hq => fin H2 n x rfl e2 q' hq⟩
    | copy n x =>
      obtain ⟨a, u, w', z, rfl, ha, hu, hw, hz⟩ := tup3 hd1
      cases hu
      cases hw
      cases hz
      walk_at "run"
      refine ⟨fun σ H' => ∃ v5 : Option V, σ = [some (.ref a), some (.ref r), some (.int (p : Int)), some (.ref l), some (.str "copy"), v5] ∧ H' = upd H1 l (.lst ((rs.map vN).set n (.int (rs.getD x 0 : Nat)))), ?_, ?_⟩
      · walk_at "run"
        refine ⟨_, _, _, _, rfl, rfl, SqL.of hr1, atC x rfl (getVN (by rw [ro.1]; exact ok.2)), ?_⟩
        walk_at "run"
        refine ⟨l, _, _, n, rfl, rfl, hl1, ixC n rfl (by rw [List.length_map, ro.1]; exact ok.1), ?_⟩
        exact ⟨_, rfl, rfl⟩
      · rintro σ H2 ⟨v5, rfl, e2⟩
        walk_at "run"
        exact ⟨szl rfl, fun q' hq => fin H2 n _ rfl e2 q' hq⟩
    | less n x y =>
      obtain ⟨a, u, w', z, y', rfl, ha, hu, hw, hz, hy⟩ := tup4 hd1
      cases hu
      cases hw
      cases hz
      cases hy
      walk_at "run"
      refine ⟨fun σ H' => ∃ v5 : Option V, σ = [some (.ref a), some (.ref r), some (.int (p : Int)), some (.ref l), some (.str "less"), v5] ∧ H' = upd H1 l (.lst ((rs.map vN).set n (.int (if rs.getD x 0 < rs.getD y 0 then 1 else 0 : Nat)))), ?_, ?_⟩
      · walk_at "run"
        refine ⟨_, _, _, _, rfl, rfl, SqL.of hr1, atC x rfl (getVN (by rw [ro.1]; exact ok.2.1)), ?_⟩
        walk_at "run"
        refine ⟨_, _, _, _, rfl, rfl, SqL.of hr1, atC y rfl (getVN (by rw [ro.1]; exact ok.2.2)), ?_⟩
        walk_at "run"
        refine .inr ⟨_, rfl, ?_⟩
        walk_at "run"
        refine ⟨l, _, _, n, rfl, rfl, hl1, ixC n rfl (by rw [List.length_map, ro.1]; exact ok.1), ?_⟩
        refine ⟨_, rfl, ?_⟩
        congr 4
        by_cases e : rs.getD x 0 < rs.getD y 0
        · rw [if_pos e, if_pos (by rw [decide_eq_true_eq]; show ((rs.getD x 0 : Nat) : Int) < ((rs.getD y 0 : Nat) : Int); omega)]; rfl
        · rw [if_neg e, if_neg (by rw [decide_eq_true_eq]; show ¬ ((rs.getD x 0 : Nat) : Int) < ((rs.getD y 0 : Nat) : Int); omega)]; rfl
      · rintro σ H2 ⟨v5, rfl, e2⟩
        walk_at "run"
        exact ⟨szl rfl, fun q' hq => fin H2 n _ rfl e2 q' hq⟩
    | add n x y =>
      obtain ⟨a, u, w', z, y', rfl, ha, hu, hw, hz, hy⟩ := tup4 hd1
      cases hu
      cases hw
      cases hz
      cases hy
      walk_at "run"
      refine ⟨fun σ H' => ∃ v5 : Option V, σ = [some (.ref a), some (.ref r), some (.int (p : Int)), some (.ref l), some (.str "add"), v5] ∧ H' = upd H1 l (.lst ((rs.map vN).set n (.int ((rs.getD x 0 + rs.getD y 0) % 4294967296 : Nat)))), ?_, ?_⟩
      · walk_at "run"
        refine ⟨_, _, _, _, rfl, rfl, SqL.of hr1, atC x rfl (getVN (by rw [ro.1]; exact ok.2.1)), ?_⟩
        walk_at "run"
        refine ⟨_, _, _, _, rfl, rfl, SqL.of hr1, atC y rfl (getVN (by rw [ro.1]; exact ok.2.2)), ?_⟩
        walk_at "run"
        have la := reg_lt ro x
        have lb := reg_lt ro y
        have e32 : (2 : Int) ^ (32 : Int).toNat = 4294967296 := by decide
        have fp : ∀ z : Int, z = (((rs.getD x 0 + rs.getD y 0) % 4294967296 : Nat) : Int) → upd H1 l (.lst ((rs.map vN).set n (.int z))) = upd H1 l (.lst ((rs.map vN).set n (.int ((rs.getD x 0 + rs.getD y 0) % 4294967296 : Nat)))) := fun z e => by rw [e]
        refine iteD (fun e => ?_) (fun e => ?_)
        · have e' : (4294967296 : Int) ≤ (((rs.getD x 0 : Nat) : Int) + ((rs.getD y 0 : Nat) : Int)) := by rw [← e32]; exact e
          walk_at "run"
          refine ⟨l, _, _, n, rfl, rfl, hl1, ixC n rfl (by rw [List.length_map, ro.1]; exact ok.1), ?_⟩
          refine ⟨_, rfl, fp _ ?_⟩
          show (((rs.getD x 0 : Nat) : Int) + ((rs.getD y 0 : Nat) : Int)) - (2 : Int) ^ (32 : Int).toNat = _
          rw [e32]; omega
        · have e' : ¬ (4294967296 : Int) ≤ (((rs.getD x 0 : Nat) : Int) + ((rs.getD y 0 : Nat) : Int)) := by rw [← e32]; exact e
          walk_at "run"
          refine ⟨l, _, _, n, rfl, rfl, hl1, ixC n rfl (by rw [List.length_map, ro.1]; exact ok.1), ?_⟩
          refine ⟨_, rfl, fp _ ?_⟩
          show (((rs.getD x 0 : Nat) : Int) + ((rs.getD y 0 : Nat) : Int)) = _
          omega
      · rintro σ H2 ⟨v5, rfl, e2⟩
        walk_at "run"
        exact ⟨szl rfl, fun q' hq => fin H2 n _ rfl e2 q' hq⟩
    | sub n x y =>
      obtain ⟨a, u, w', z, y', rfl, ha, hu, hw, hz, hy⟩ := tup4 hd1
      cases hu
      cases hw
      cases hz
      cases hy
      walk_at "run"
      refine ⟨fun σ H' => ∃ v5 : Option V, σ = [some (.ref a), some (.ref r), some (.int (p : Int)), some (.ref l), some (.str "sub"), v5] ∧ H' = upd H1 l (.lst ((rs.map vN).set n (.int ((rs.getD x 0 + 4294967296 - rs.getD y 0) % 4294967296 : Nat)))), ?_, ?_⟩
      · walk_at "run"
        refine ⟨_, _, _, _, rfl, rfl, SqL.of hr1, atC x rfl (getVN (by rw [ro.1]; exact ok.2.1)), ?_⟩
        walk_at "run"
        refine ⟨_, _, _, _, rfl, rfl, SqL.of hr1, atC y rfl (getVN (by rw [ro.1]; exact ok.2.2)), ?_⟩
        walk_at "run"
        have la := reg_lt ro x
        have lb := reg_lt ro y
        have e32 : (2 : Int) ^ (32 : Int).toNat = 4294967296 := by decide
        have fp : ∀ z : Int, z = (((rs.getD x 0 + 4294967296 - rs.getD y 0) % 4294967296 : Nat) : Int) → upd H1 l (.lst ((rs.map vN).set n (.int z))) = upd H1 l (.lst ((rs.map vN).set n (.int ((rs.getD x 0 + 4294967296 - rs.getD y 0) % 4294967296 : Nat)))) := fun z e => by rw [e]
        refine iteD (fun e => ?_) (fun e => ?_)
        · have e' : (4294967296 : Int) ≤ (((rs.getD x 0 : Nat) : Int) - ((rs.getD y 0 : Nat) : Int)) := by rw [← e32]; exact e
          walk_at "run"
          refine ⟨l, _, _, n, rfl, rfl, hl1, ixC n rfl (by rw [List.length_map, ro.1]; exact ok.1), ?_⟩
          refine ⟨_, rfl, fp _ ?_⟩
          show (((rs.getD x 0 : Nat) : Int) - ((rs.getD y 0 : Nat) : Int)) - (2 : Int) ^ (32 : Int).toNat = _
          rw [e32]; omega
        · have e' : ¬ (4294967296 : Int) ≤ (((rs.getD x 0 : Nat) : Int) - ((rs.getD y 0 : Nat) : Int)) := by rw [← e32]; exact e
          walk_at "run"
          refine iteD (fun e2 => ?_) (fun e2 => ?_)
          · have e2' : (((rs.getD x 0 : Nat) : Int) - ((rs.getD y 0 : Nat) : Int)) < 0 := e2
            walk_at "run"
            refine ⟨l, _, _, n, rfl, rfl, hl1, ixC n rfl (by rw [List.length_map, ro.1]; exact ok.1), ?_⟩
            refine ⟨_, rfl, fp _ ?_⟩
            show (((rs.getD x 0 : Nat) : Int) - ((rs.getD y 0 : Nat) : Int)) + (2 : Int) ^ (32 : Int).toNat = _
            rw [e32]; omega
          · have e2' : ¬ (((rs.getD x 0 : Nat) : Int) - ((rs.getD y 0 : Nat) : Int)) < 0 := e2
            walk_at "run"
            refine ⟨l, _, _, n, rfl, rfl, hl1, ixC n rfl (by rw [List.length_map, ro.1]; exact ok.1), ?_⟩
            refine ⟨_, rfl, fp _ ?_⟩
            show (((rs.getD x 0 : Nat) : Int) - ((rs.getD y 0 : Nat) : Int)) = _
            omega
      · rintro σ H2 ⟨v5, rfl, e2⟩
        walk_at "run"
        exact ⟨szl rfl, fun q' hq => fin H2 n _ rfl e2 q' hq⟩
    | load r q => cases hi
    | store r q => cases hi
    | call n => cases hi
end
end My

namespace My
open PySem L2
local macro_rules | `(tactic| walk_at "ne") => `(tactic| first | assumption | exact Ne.symm (by assumption) | exact ne_of_none (by assumption) (by assumption) | exact Ne.symm (ne_of_none (by assumption) (by assumption)))
local macro_rules | `(tactic| walk_at "hp") => `(tactic| first | assumption | with_reducible exact upd_same | (with_reducible refine Eq.trans (upd_ne ?_) ?_; rotate_left; walk_at "hp"; walk_at "ne"))
local macro_rules | `(tactic| walk_at "cnd") => `(tactic| first | omega | (show (0 : Int) < _; omega) | exact ⟨by omega, by omega⟩ | exact Or.inl ⟨by omega, by omega⟩ | exact Or.inr ⟨by omega, by omega⟩ | exact ⟨by omega, by omega, by decide⟩ | exact ⟨by omega, by omega, by omega⟩)
local macro_rules | `(tactic| walk_at "at") => `(tactic| first | exact atC 0 rfl rfl | exact atC 1 rfl rfl | exact atC 2 rfl rfl | exact atC 3 rfl rfl | exact atC 4 rfl rfl | exact atC 5 rfl rfl | exact atC 6 rfl rfl | exact atC 7 rfl rfl)
local macro_rules | `(tactic| walk_at "ix") => `(tactic| first | exact ixC 0 rfl (Nat.le_of_ble_eq_true rfl) | exact ixC 1 rfl (Nat.le_of_ble_eq_true rfl) | exact ixC 2 rfl (Nat.le_of_ble_eq_true rfl) | exact ixC 3 rfl (Nat.le_of_ble_eq_true rfl) | exact ixC 4 rfl (Nat.le_of_ble_eq_true rfl) | exact ixC 5 rfl (Nat.le_of_ble_eq_true rfl))
local macro_rules | `(tactic| walk_at "st") => `(tactic| first
  | refine ⟨_, rfl, ?_⟩
  | refine ⟨_, _, rfl, rfl, (by walk_at "cnd" : (_ : Prop)), ?_⟩
  | refine ⟨_, _, rfl, rfl, ?_⟩
  | refine ⟨rfl, ?_⟩
  | refine Or.inl ⟨_, rfl, ?_⟩
  | refine ⟨_, _, _, _, rfl, rfl, by exact SqL.of (by walk_at "hp"), by walk_at "at", ?_⟩
  | refine ⟨_, _, _, _, rfl, rfl, by exact SqT.of (by walk_at "hp"), by walk_at "at", ?_⟩
  | refine ⟨_, _, _, _, rfl, rfl, by walk_at "hp", by walk_at "ix", ?_⟩
  | refine ⟨_, _, rfl, Or.inl (by exact SqL.of (by walk_at "hp")), ?_⟩
  | refine ⟨_, _, rfl, Or.inr (by exact SqT.of (by walk_at "hp")), ?_⟩)
local macro_rules | `(tactic| walk_at "so") => `(tactic| first
  | refine ⟨_, _, _, _, _, rfl, by walk_at "hp", by assumption, by assumption, rfl, ?_⟩
  | refine ⟨_, _, _, _, rfl, by walk_at "hp", by assumption, by assumption, Nat.le_of_ble_eq_true rfl, ?_⟩
  | refine ⟨_, _, _, rfl, by walk_at "hp", rfl, ?_⟩
  | walk_at "st")
local macro_rules | `(tactic| walk_at "ro") => `(tactic| repeat walk_at "so")
local macro_rules | `(tactic| walk_at "run") => `(tactic| repeat walk_at "st")

structure J4 (tp p D rg : Addr) (vp : V) (is : List Ins) (rs : List Nat) (H : Hp) : Prop where
  tape : Tape H tp p
  hD : ∃ vs, H D = some (.lst vs) ∧ DtAll H vs (is.map insD)
  hv : Dt H vp (.tuple (is.map insD))
  hr : H rg = some (.lst (rs.map vN))
  ro : RegOk rs
  ok : ∀ i ∈ is, InsOk i
  nD : D ≠ tp
  nr : rg ≠ tp
theorem is_to : ∀ is : List Ins, tonlyAll (is.map insD) = true
  | [] => rfl
  | i :: is => by
    show (tonly (insD i) && tonlyAll (is.map insD)) = true
    rw [insD_to, is_to is]; rfl
theorem J4.same {tp p D rg : Addr} {vp : V} {is : List Ins} {rs : List Nat} {H H' : Hp} (j : J4 tp p D rg vp is rs H) (s : Same H H') : J4 tp p D rg vp is rs H' := by
  obtain ⟨a, ⟨vs, b1, b2⟩, c, d, e, f, g, h⟩ := j
  exact ⟨a.same s, ⟨vs, s _ _ b1, b2.same s⟩, c.same s, s _ _ d, e, f, g, h⟩
theorem J4.next {tp p D rg : Addr} {vp : V} {is : List Ins} {rs : List Nat} {H H' : Hp} (j : J4 tp p D rg vp is rs H) (t : Tape H' tp p) (ch : Chg tp H H') : J4 tp p D rg vp is rs H' := by
  obtain ⟨a, ⟨vs, b1, b2⟩, c, d, e, f, g, h⟩ := j
  have ts := a.ts ch
  exact ⟨t, ⟨vs, ch _ _ g b1, b2.ts ts (is_to is)⟩, c.ts ts (is_to is), ch _ _ h d, e, f, g, h⟩
theorem vals_n {H : Hp} : ∀ {ns : List Nat} {xs : List V}, DtAll H xs (ns.map nD) → xs = ns.map vN
  | [], _, h => by cases h; rfl
  | n :: ns, _, h => by
    cases h with
    | cons h1 h2 =>
      rw [vals_n h2]
      unfold nD at h1
      cases h1; rfl
def nameI : Ins → Str
  | .set _ _ => "set"
  | .copy _ _ => "copy"
  | .add _ _ _ => "add"
  | .sub _ _ _ => "sub"
  | .less _ _ _ => "less"
  | .jump _ => "jump"
  | .iff _ _ => "if"
  | .load _ _ => "load"
  | .store _ _ => "store"
  | .call _ => "call"
theorem ins_at {H : Hp} {v : V} {i : Ins} (h : Dt H v (insD i)) : ∃ a xs, v = .ref a ∧ H a = some (.tup xs) ∧ xs[0]? = some (.str (nameI i)) := by
  cases i with
  | jump q => obtain ⟨a, u, w, rfl, ha, hu, _⟩ := tup2 h; cases hu; exact ⟨a, _, rfl, ha, rfl⟩
  | call q => obtain ⟨a, u, w, rfl, ha, hu, _⟩ := tup2 h; cases hu; exact ⟨a, _, rfl, ha, rfl⟩
  | set q r => obtain ⟨a, u, w, z, rfl, ha, hu, _⟩ := tup3 h; cases hu; exact ⟨a, _, rfl, ha, rfl⟩
  | copy q r => obtain ⟨a, u, w, z, rfl, ha, hu, _⟩ := tup3 h; cases hu; exact ⟨a, _, rfl, ha, rfl⟩
  | iff q r => obtain ⟨a, u, w, z, rfl, ha, hu, _⟩ := tup3 h; cases hu; exact ⟨a, _, rfl, ha, rfl⟩
  | load q r => obtain ⟨a, u, w, z, rfl, ha, hu, _⟩ := tup3 h; cases hu; exact ⟨a, _, rfl, ha, rfl⟩
  | store q r => obtain ⟨a, u, w, z, rfl, ha, hu, _⟩ := tup3 h; cases hu; exact ⟨a, _, rfl, ha, rfl⟩
  | add q r s => obtain ⟨a, u, w, z, y, rfl, ha, hu, _⟩ := tup4 h; cases hu; exact ⟨a, _, rfl, ha, rfl⟩
  | sub q r s => obtain ⟨a, u, w, z, y, rfl, ha, hu, _⟩ := tup4 h; cases hu; exact ⟨a, _, rfl, ha, rfl⟩
  | less q r s => obtain ⟨a, u, w, z, y, rfl, ha, hu, _⟩ := tup4 h; cases hu; exact ⟨a, _, rfl, ha, rfl⟩
theorem in_step (i : Ins) : inV (.str (nameI i)) [.str "load", .str "store", .str "call"] = !isStep i := by
  cases i <;> rfl
theorem exit_ok : InsOk exitI := ⟨by decide +kernel, by decide +kernel⟩
theorem at_ok {is : List Ins} (h : ∀ i ∈ is, InsOk i) (p : Nat) : InsOk (is.getD p exitI) := by
  rw [List.getD_eq_getElem?_getD]
  cases e : is[p]? with
  | none => exact exit_ok
  | some i => exact h i (List.mem_of_getElem? e)
theorem ns_sh (rs : List Nat) : SeqAt.shaped (.list (rs.map nD)) = true := (Sh.lst (n := 0) fun d hd => by
  obtain ⟨n, _, rfl⟩ := List.mem_map.mp hd
  exact Sh.int _ _).ok
theorem fits_true {is : List Ins} (h : ∀ i ∈ is, InsOk i) (hl : is.length ≤ 600) : ProgFit (.tuple (is.map insD)) true := by
  have := ProgFit.ok (ds := is.map insD) (bs := is.map fun _ => true) (by rw [List.length_map]; exact hl) (by rw [List.length_map, List.length_map]) fun j d b hd hb => by
    rw [List.getElem?_map] at hd hb
    obtain ⟨i, hi, rfl⟩ := Option.map_eq_some_iff.mp hd
    rw [hi] at hb
    cases hb
    exact insD_fit (h i (List.mem_of_getElem? hi))
  have e : (is.map fun _ => true).all id = true := by rw [List.all_map]; exact List.all_eq_true.mpr fun _ _ => rfl
  rw [e] at this
  exact this
theorem fits_bad {is : List Ins} {d : PyData} (h : ∀ i ∈ is, InsOk i) (hl : is.length < 600) (hb : InsFit d false) : ProgFit (.tuple (is.map insD ++ [d])) false := by
  have := ProgFit.ok (ds := is.map insD ++ [d]) (bs := (is.map fun _ => true) ++ [false]) (by rw [List.length_append, List.length_map]; exact hl) (by rw [List.length_append, List.length_append, List.length_map, List.length_map]; rfl) fun j d' b hd hb' => by
    by_cases hj : j < is.length
    · rw [List.getElem?_append_left (by rw [List.length_map]; exact hj), List.getElem?_map] at hd hb'
      obtain ⟨i, hi, rfl⟩ := Option.map_eq_some_iff.mp hd
      rw [hi] at hb'
      cases hb'
      exact insD_fit (h i (List.mem_of_getElem? hi))
    · rw [List.getElem?_append_right (by rw [List.length_map]; omega)] at hd hb'
      rw [List.length_map] at hd hb'
      have e0 : j - is.length = 0 := by
        cases e : j - is.length with
        | zero => rfl
        | succ n => rw [e] at hd; cases hd
      rw [e0] at hd hb'
      cases hd
      cases hb'
      exact hb
  have e : ((is.map fun _ => true) ++ [false]).all id = false := by rw [List.all_append]; simp
  rw [e] at this
  exact this
theorem kRepT {X : Cx} (K : PySem.W.Frag) (h : X.K = K := by rfl) : OpR X (binaryOp .Mult) (rRepT K) := by subst h; exact op_repT
def setI : Ins := .set 0 1
theorem rep_flat {α : Type} (x : α) : ∀ n, (List.replicate n [x]).flatten = List.replicate n x
  | 0 => rfl
  | n + 1 => by
    show x :: (List.replicate n [x]).flatten = x :: List.replicate n x
    rw [rep_flat x n]
theorem DtAll.rep {H : Hp} {v : V} {d : PyData} (h : Dt H v d) : ∀ n, DtAll H (List.replicate n v) (List.replicate n d)
  | 0 => .nil
  | n + 1 => .cons h (DtAll.rep h n)
theorem lit_many {K : PySem.W.Frag} {te : TE} {d : PyData} (h : Lit te d) (n : Nat) (h1 : 2 ≤ n) (h2 : n ≤ 1000) : Lit (tOp (rRepT K) (tTup (tCons te tNil)) (tC (.int (n : Int)))) (.tuple (List.replicate n d)) := fun σ H Q k =>
  h σ H _ fun v H1 s1 d1 => ⟨szl rfl, fun p hp => ⟨p, n, _, rfl, rfl, SqT.of upd_same, by simp, by omega, by omega, (show 1 ≤ 1000 by decide), fun q hq => k _ _ ((s1.trans (Same.new hp)).trans (Same.new hq)) (.tup upd_same (by
    rw [Int.toNat_natCast, rep_flat]
    exact DtAll.rep ((d1.same (Same.new hp)).same (Same.new hq)) n))⟩⟩
theorem many {H : Hp} {p1 p2 p3 : Addr} (n : Nat) (h1 : H p1 = none) (h2 : upd H p1 (.tup [.str "set", .int 0, .int 1]) p2 = none) (h3 : upd (upd H p1 (.tup [.str "set", .int 0, .int 1])) p2 (.tup [.ref p1]) p3 = none) :
    Same H (upd (upd (upd H p1 (.tup [.str "set", .int 0, .int 1])) p2 (.tup [.ref p1])) p3 (.tup (List.replicate (Int.toNat (n : Int)) [V.ref p1]).flatten)) ∧
    Dt (upd (upd (upd H p1 (.tup [.str "set", .int 0, .int 1])) p2 (.tup [.ref p1])) p3 (.tup (List.replicate (Int.toNat (n : Int)) [V.ref p1]).flatten)) (.ref p3) (.tuple (List.replicate n (insD setI))) := by
  have a : Same H (upd H p1 (.tup [.str "set", .int 0, .int 1])) := Same.new h1
  have b := a.trans (Same.new (o := .tup [.ref p1]) h2)
  refine ⟨b.trans (Same.new h3), .tup upd_same ?_⟩
  rw [Int.toNat_natCast, rep_flat]
  refine DtAll.rep (((Dt.new (ds := [.str "set", .int 0, .int 1]) (.cons (.str _) (.cons (.int _) (.cons (.int _) .nil))) h1).same (Same.new h2)).same (Same.new h3)) n
def spLaw (K : PySem.W.Frag) : Sp := fun vs H Q _ => ∃ (a : Addr) (ns : List Int), vs = [.ref a] ∧ SqL K H a (ns.map V.int) ∧ ∀ H', Q (.bl true) H'
section
variable {P : Program} {w : World} {K : PySem.W.Frag} {mg : Str → Option Value} {base : Heap} {A_NAMES A_PARTS : Addr}
abbrev s_law : Stmt := topS 24
abbrev ns_law : List Str := ["script", "tape", "rows", "k", "program", "spoilt", "registers", "place", "turn", "row", "kept", "told"]
theorem sc_law : FnScope ns_law ["script"] (defScope s_law) := ⟨rfl, rfl, rfl, by decide +kernel, rfl, by decide +kernel, by decide +kernel⟩

theorem ok_law {f : Addr} {fd : FuncData} (F : Fun K "law" "law" s_law f fd) (T : Txt K mg  w A_NAMES A_PARTS) (D_law_next : Dfn P w K mg base CX0 1 "_law_next" ["tape", "many"] spNext) (D_law_row : Dfn P w K mg base CX0 3 "_law_row" ["tape"] spLRow) (D_law_spoilt : Dfn P w K mg base CX0 2 "_law_spoilt" ["tape"] spBad)
    (D_law_word : Dfn P w K mg base CX0 2 "_law_word" ["tape"] spLWord) (D_law_due : Dfn P w K mg base CX0 1 "_law_due" ["row", "registers", "place"] spDue) (D_is_program : Dfn P w K mg base CX0 6 "is_program" ["value"] spProg)
    (D_instruction_at : Dfn P w K mg base CX0 1 "instruction_at" ["program", "place"] spAt) (D_plain_step : Dfn P w K mg base CX0 2 "plain_step" ["instruction", "registers", "place"] spStep) : FnOk P w K mg base CX0 7 f fd ["script"] (spLaw K) := by
  refine F.ok sc_law (fun vs H Q E h => ?_) (fun cdv A outer s H vs Q E hr h => ?_)
  · obtain ⟨a, ns, rfl, _⟩ := h
    rfl
  · obtain ⟨a, ns, rfl, hS, k⟩ := h
    refine ⟨_, (pss_cons (ps_set (i := 1) sc_law.nd rfl (Or.inr rfl) (pe_lst (pa_cons (pe_callTy (kListOf K) (by rfl) T.b_list (by decide +kernel) (pa_cons (pv 0) pa_nil)) (pa_cons pe_int (pa_cons pe_int (pa_cons pe_int pa_nil))))))
  (pss_cons (ps_setLc (i := 2) (own := [("k", 3)]) (by rfl) sc_law.nd rfl rfl (sw_true rfl rfl rfl (by decide +kernel)) (pi_range1 (by rfl) T.b_range (pa_cons (pe_dcall D_law_next (hr.mono (by decide)) (by rfl) pass0 (pa_cons (pv 1) (pa_cons pe_int pa_nil))) pa_nil)) (blkOk_by (N := ns_law) (sc := defScope s_law) (by decide +kernel)) (fun _ _ _ _ _ => (pg_name (i := 3) sc_law.nd rfl (Or.inl rfl))) (fun _ _ _ _ _ => pts_nil) (fun _ _ _ _ _ => (pe_dcall D_law_row (hr.mono (by decide)) (by rfl) pass0 (pa_cons (pv 1) pa_nil))))
  (pss_cons (ps_set (i := 4) sc_law.nd rfl (Or.inl rfl) (pe_callTy (kTupOf K) (by rfl) T.b_tuple (by decide +kernel) (pa_cons (pv 2) pa_nil)))
  (pss_cons (ps_set (i := 5) sc_law.nd rfl (Or.inl rfl) (pe_op op_cat (pv 2) (pe_lst (pa_cons (pe_dcall D_law_spoilt (hr.mono (by decide)) (by rfl) pass0 (pa_cons (pv 1) pa_nil)) pa_nil))))
  (pss_cons (ps_if (PW.pt (pw_or (pt_not (pt_val (pe_dcall D_is_program (hr.mono (by decide)) (by rfl) pass0 (pa_cons (pv 4) pa_nil)))) (pw_or (pt_val (pe_dcall D_is_program (hr.mono (by decide)) (by rfl) pass0 (pa_cons (pv 2) pa_nil))) (pw_or (pt_val (pe_dcall D_is_program (hr.mono (by decide)) (by rfl) pass0 (pa_cons (pe_callTy (kTupOf K) (by rfl) T.b_tuple (by decide +kernel) (pa_cons (pv 5) pa_nil)) pa_nil))) (pw_or1 (pt_val (pe_dcall D_is_program (hr.mono (by decide)) (by rfl) pass0 (pa_cons (pe_op (kRepT K) (pe_tup (pa_cons (pe_tup (pa_cons pe_str (pa_cons pe_int (pa_cons pe_int pa_nil)))) pa_nil)) pe_int) pa_nil)))))))) (pss_one (ps_ret pe_bl)) pss_nil)
  (pss_cons (ps_if (pt_not (pt_val (pe_dcall D_is_program (hr.mono (by decide)) (by rfl) pass0 (pa_cons (pe_op (kRepT K) (pe_tup (pa_cons (pe_tup (pa_cons pe_str (pa_cons pe_int (pa_cons pe_int pa_nil)))) pa_nil)) pe_int) pa_nil)))) (pss_one (ps_ret pe_bl)) pss_nil)
  (pss_cons (ps_setLc (i := 6) (own := [("k", 3)]) (by rfl) sc_law.nd rfl rfl (sw_true rfl rfl rfl (by decide +kernel)) (pi_range1 (by rfl) T.b_range (pa_cons pe_int pa_nil)) (blkOk_by (N := ns_law) (sc := defScope s_law) (by decide +kernel)) (fun _ _ _ _ _ => (pg_name (i := 3) sc_law.nd rfl (Or.inl rfl))) (fun _ _ _ _ _ => pts_nil) (fun _ _ _ _ _ => (pe_dcall D_law_word (hr.mono (by decide)) (by rfl) pass0 (pa_cons (pv 1) pa_nil))))
  (pss_cons (ps_set (i := 7) sc_law.nd rfl (Or.inl rfl) pe_int)
  (pss_cons (ps_for PassesOwn.never (by rfl) (pi_range1 (by rfl) T.b_range (pa_cons pe_int pa_nil)) (pg_name (i := 8) sc_law.nd rfl (Or.inl rfl)) (pss_cons (ps_set (i := 9) sc_law.nd rfl (Or.inl rfl) (pe_dcall D_instruction_at (hr.mono (by decide)) (by rfl) pass0 (pa_cons (pv 4) (pa_cons (pv 7) pa_nil))))
  (pss_cons (ps_if (pt_cmpR (kNeD K hr.units) (pv 9) (pe_ifExp (pt_cmpR op_lt (pv 7) (pe_callB (kLen K) (by rfl) T.b_len (by decide +kernel) (pa_cons (pv 2) pa_nil)) (nomark _)) (pe_ix (kIxL K) (pv 2) (pv 7) (fun _ _ => rfl)) (pe_tup (pa_cons pe_str (pa_cons pe_str pa_nil)))) (nomark _)) (pss_one (ps_ret pe_bl)) pss_nil)
  (pss_cons (ps_if (pt_cmpR (kIn K) (pe_ix (kIxT K) (pv 9) pe_int (fun _ _ => rfl)) (pe_tup (pa_cons pe_str (pa_cons pe_str (pa_cons pe_str pa_nil)))) (by rfl)) (pss_cons (ps_set (i := 7) sc_law.nd rfl (Or.inl rfl) (pe_dcall D_law_next (hr.mono (by decide)) (by rfl) pass0 (pa_cons (pv 1) (pa_cons (pe_op op_add pe_int (pe_callB (kLen K) (by rfl) T.b_len (by decide +kernel) (pa_cons (pv 2) pa_nil))) pa_nil))))
  (pss_one ps_continue)) pss_nil)
  (pss_cons (ps_set (i := 10) sc_law.nd rfl (Or.inl rfl) (pe_callTy (kListOf K) (by rfl) T.b_list (by decide +kernel) (pa_cons (pv 6) pa_nil)))
  (pss_cons (ps_set (i := 11) sc_law.nd rfl (Or.inl rfl) (pe_dcall D_plain_step (hr.mono (by decide)) (by rfl) pass0 (pa_cons (pv 9) (pa_cons (pv 6) (pa_cons (pv 7) pa_nil)))))
  (pss_cons (ps_if (PW.pt (pw_or (pt_cmpR (kNeD K hr.units) (pv 6) (pv 10) (nomark _)) (pw_or1 (pt_cmpR (kNeD K hr.units) (pv 11) (pe_dcall D_law_due (hr.mono (by decide)) (by rfl) pass0 (pa_cons (pv 9) (pa_cons (pv 6) (pa_cons (pv 7) pa_nil)))) (nomark _))))) (pss_one (ps_ret pe_bl)) pss_nil)
  (pss_one (ps_asg (pv 11) (kpgT K (n := 2) (by rfl) (pgs_cons (pg_name (i := 6) sc_law.nd rfl (Or.inl rfl)) (pgs_cons (pg_name (i := 7) sc_law.nd rfl (Or.inl rfl)) pgs_nil))))))))))))
  (pss_one (ps_ret pe_bl))))))))))), ?_⟩
    refine ⟨_, rfl, _, _, rfl, .inl hS, fun p hp => ⟨szl rfl, fun tp htp => ?_⟩⟩
    have T0 : Tape (upd (upd H p (.lst (ns.map V.int))) tp (.lst [.ref p, .int 0, .int 0, .int 37])) tp p :=
      ⟨ns, 0, 0, 37, upd_same, Same.new htp _ _ upd_same, by decide, by decide, by decide, by decide⟩
    generalize upd (upd H p (.lst (ns.map V.int))) tp (.lst [.ref p, .int 0, .int 0, .int 37]) = G0 at T0
    walk_at "run"
    refine ⟨tp, p, 12, rfl, by decide, by decide, T0, fun m H1 m0 m1 t1 c1 => ?_⟩
    walk_at "run"
    refine ⟨by omega, by omega, fun D hD => ?_⟩
    have nDt := t1.at hD
    have nDp := t1.at2 hD
    refine lc_range (fun i H' => ∃ (is : List Ins) (vs : List V), is.length = i ∧ H' D = some (.lst vs) ∧ DtAll H' vs (is.map insD) ∧ (∀ i ∈ is, InsOk i) ∧ Tape H' tp p) ?_ ?_ ?_
    · exact ⟨[], [], rfl, upd_same, .nil, fun _ h => (by cases h), t1.same (Same.new hD)⟩
    · rintro i H2 hi ⟨is, vs, il, hv1, hv2, ok, t2⟩
      refine ⟨rfl, ?_⟩
      walk_at "run"
      refine ⟨tp, p, rfl, t2, fun v i2 H3 hvd ok2 t3 c3 => ?_⟩
      have h3 := c3 _ _ nDt hv1
      have hl := hv2.len
      rw [List.length_map] at hl
      have em : (is ++ [i2]).map insD = is.map insD ++ [insD i2] := List.map_append
      refine ⟨vs, h3, szt (by omega), is ++ [i2], vs ++ [v], by rw [List.length_append, il]; rfl, upd_same, ?_, fun j hj => ?_, t3.upd nDt nDp⟩
      · rw [em]
        refine ((hv2.ts (t2.ts c3) (is_to is)).append (.cons hvd .nil)).ts (Chg.upd.ts h3) ?_
        rw [← em]
        exact is_to _
      · rcases List.mem_append.mp hj with h | h
        · exact ok j h
        · rw [List.mem_singleton.mp h]; exact ok2
    · rintro H2 ⟨is, vs, il, hv1, hv2, ok, t2⟩
      have isl : is.length < 12 := by omega
      clear t1 c1 hD T0
      walk_at "run"
      refine ⟨_, _, rfl, .inl ⟨SqL.of hv1, fun q hq => ?_⟩⟩
      have s3 := Same.new (o := .tup vs) hq
      have hp3 : Dt (upd H2 q (.tup vs)) (.ref q) (.tuple (is.map insD)) := Dt.new hv2 hq
      have hv1 := s3 _ _ hv1
      have hv2 := hv2.same s3
      have t3 := t2.same s3
      generalize upd H2 q (.tup vs) = H3 at hp3 hv1 hv2 t3
      clear t2 s3 hq
      walk_at "run"
      refine ⟨tp, p, rfl, t3, fun vb db H4 hb fit nt t4 c4 => ?_⟩
      have ts4 := t3.ts c4
      have hp4 := hp3.ts ts4 (show tonly (.tuple (is.map insD)) = true from is_to is)
      have hv1 := c4 _ _ nDt hv1
      have hv2 := hv2.ts ts4 (is_to is)
      clear t3 c4 hp3 ts4
      walk_at "run"
      refine ⟨szl rfl, fun u hu => ?_⟩
      have s5 := Same.new (o := .lst [vb]) hu
      have hv5 := s5 _ _ hv1
      have hlv := hv2.len
      rw [List.length_map] at hlv
      refine ⟨D, u, vs, [vb], rfl, rfl, hv5, upd_same, szn (by show _ + 1 ≤ _; omega), fun sp hsp => ?_⟩
      have s6 := s5.trans (Same.new (o := .lst (vs ++ [vb])) hsp)
      have hsp6 : upd (upd H4 u (.lst [vb])) sp (.lst (vs ++ [vb])) sp = some (.lst (vs ++ [vb])) := upd_same
      generalize upd (upd H4 u (.lst [vb])) sp (.lst (vs ++ [vb])) = H6 at s6 hsp6
      have t6 := t4.same s6
      have hp6 := hp4.same s6
      have hv1 := s6 _ _ hv1
      have hv2 := hv2.same s6
      have hb := hb.same s6
      clear s5 hu hsp hv5 t4 s6 hp4
      walk_at "run"
      refine ⟨_, _, true, rfl, hp6, fits_true ok (by omega), fun H7 s7 => ?_⟩
      have hv1 := s7 _ _ hv1
      have hv2 := hv2.same s7
      have hb := hb.same s7
      have hsp7 := s7 _ _ hsp6
      walk_at "run"
      refine ⟨_, .list (is.map insD), false, rfl, .lst hv1 hv2, .no rfl, fun H8 s8 => ?_⟩
      have hv1 := s8 _ _ hv1
      have hv2 := hv2.same s8
      have hb := hb.same s8
      have hsp8 := s8 _ _ hsp7
      walk_at "run"
      refine ⟨_, _, rfl, .inl ⟨SqL.of hsp8, fun q2 hq2 => ?_⟩⟩
      have s9 := Same.new (o := .tup (vs ++ [vb])) hq2
      refine ⟨_, _, false, rfl, Dt.new (hv2.append (.cons hb .nil)) hq2, fits_bad ok (by omega) fit, fun H10 s10 => ?_⟩
      have s4 := ((s7.trans s8).trans s9).trans s10
      have t10 := t6.same s4
      have hp10 := hp6.same s4
      have hv1 := s10 _ _ (s9 _ _ hv1)
      have hv2 := (hv2.same s9).same s10
      clear s4 s10 s9 s8 s7 hq2 hsp8 hsp7 hb hsp6 t6 hp6
      refine ⟨_, rfl, iteF ?_⟩
      walk_at "ro"
      refine ⟨szl rfl, fun p1 h1 => ⟨szl rfl, fun p2 h2 => ⟨_, 601, _, rfl, rfl, SqT.of upd_same, by simp, by decide, by decide, (show 1 ≤ 1000 by decide), fun p3 h3 => ?_⟩⟩⟩
      obtain ⟨s11, d11⟩ := many 601 h1 h2 h3
      refine ⟨_, _, false, rfl, d11, .long (by rw [List.length_replicate]; decide), fun H12 s12 => ?_⟩
      have s4 := s11.trans s12
      have t10 := t10.same s4
      have hp10 := hp10.same s4
      have hv1 := s4 _ _ hv1
      have hv2 := hv2.same s4
      clear s4 s12 s11 d11 h1 h2 h3
      refine ⟨_, rfl, iteF ?_⟩
      walk_at "ro"
      refine ⟨szl rfl, fun p1 h1 => ⟨szl rfl, fun p2 h2 => ⟨_, 600, _, rfl, rfl, SqT.of upd_same, by simp, by decide, by decide, (show 1 ≤ 1000 by decide), fun p3 h3 => ?_⟩⟩⟩
      obtain ⟨s11, d11⟩ := many 600 h1 h2 h3
      have f600 : ProgFit (.tuple (List.replicate 600 (insD setI))) true := by
        have := fits_true (is := List.replicate 600 setI) (fun i hi => by rw [(List.mem_replicate.mp hi).2]; exact ⟨by decide, by decide⟩) (by rw [List.length_replicate]; decide)
        rw [List.map_replicate] at this
        exact this
      refine ⟨_, _, true, rfl, d11, f600, fun H13 s12 => ?_⟩
      have s4 := s11.trans s12
      have t10 := t10.same s4
      have hp10 := hp10.same s4
      have hv1 := s4 _ _ hv1
      have hv2 := hv2.same s4
      clear s4 s12 s11 d11 h1 h2 h3 f600
      refine ⟨_, rfl, iteF ?_⟩
      walk_at "ro"
      refine ⟨by decide, by decide, fun rg hrg => ?_⟩
      have nrt := t10.at hrg
      have nrp := t10.at2 hrg
      have nDr : D ≠ rg := ne_of_none hv1 hrg
      refine lc_range (fun i H' => ∃ rs : List Nat, rs.length = i ∧ (∀ v ∈ rs, v < 4294967296) ∧ H' rg = some (.lst (rs.map vN)) ∧ Tape H' tp p ∧ H' D = some (.lst vs) ∧ DtAll H' vs (is.map insD) ∧ Dt H' (.ref q) (.tuple (is.map insD))) ?_ ?_ ?_
      · have s1 := Same.new (o := .lst []) hrg
        exact ⟨[], rfl, fun _ h => (by cases h), upd_same, t10.same s1, s1 _ _ hv1, hv2.same s1, hp10.same s1⟩
      · rintro i H14 hi ⟨rs, rl, rb, hr1, t14, hv1, hv2, hp14⟩
        have hi6 : i < 6 := hi
        refine ⟨rfl, ?_⟩
        walk_at "ro"
        refine ⟨tp, p, rfl, t14, fun n H15 nb t15 c15 => ?_⟩
        have hr5 := c15 _ _ nrt hr1
        have ts := (t14.ts c15).trans (show TS H15 (upd H15 rg (.lst (rs.map vN ++ [.int (n : Int)]))) from Chg.upd.ts hr5)
        refine ⟨_, hr5, szt (by rw [List.length_map]; omega), rs ++ [n], by rw [List.length_append, rl]; rfl, fun v hv => ?_, by rw [upd_same, List.map_append]; rfl, t15.upd nrt nrp, by rw [upd_ne nDr]; exact c15 _ _ nDt hv1, hv2.ts ts (is_to is), hp14.ts ts (show tonly (.tuple (is.map insD)) = true from is_to is)⟩
        rcases List.mem_append.mp hv with h | h
        · exact rb v h
        · rw [List.mem_singleton.mp h]; exact nb
      · rintro H14 ⟨rs, rl, rb, hr1, t14, hv1, hv2, hp14⟩
        have j0 : J4 tp p D rg (.ref q) is rs H14 := ⟨t14, ⟨vs, hv1, hv2⟩, hp14, hr1, ⟨rl, rb⟩, ok, nDt, nrt⟩
        clear t14 hv1 hv2 hp14 hr1 hp10 t10 hrg nrp nDr rl rb
        walk_at "ro"
        refine ⟨by decide, by decide, for_range (fun i σ H' => ∃ (rg : Addr) (rs : List Nat) (pl : Nat) (v8 v9 v10 v11 : Option V), σ = [some (.ref a), some (.ref tp), some (.ref D), none, some (.ref q), some (.ref sp), some (.ref rg), some (.int (pl : Int)), v8, v9, v10, v11] ∧ J4 tp p D rg (.ref q) is rs H') ?_ ?_ ?_⟩
        · exact ⟨rg, rs, 0, _, _, _, _, rfl, j0⟩
        · rintro i σ H15 hi ⟨rg, rs, pl, v8, v9, v10, v11, rfl, j⟩
          walk_at "ro"
          refine ⟨_, is, pl, rfl, j.hv, fun row H16 s16 hrow => ?_⟩
          have j := j.same s16
          have oki := at_ok j.ok pl
          have shi := (insD_sh oki).ok
          obtain ⟨vs', hv1, hv2⟩ := j.hD
          have hlv := hv2.len
          rw [List.length_map] at hlv
          walk_at "ro"
          refine iteD (fun e => ?_) (fun e => ?_)
          · have hp : pl < is.length := by have e' : (pl : Int) < (vs'.length : Int) := e; omega
            have e0 : (is.map insD)[pl]? = some (insD (is.getD pl exitI)) := by
              rw [List.getElem?_map, List.getD_eq_getElem?_getD, List.getElem?_eq_getElem hp]; rfl
            obtain ⟨u, hu, hud⟩ := hv2.get e0
            walk_at "ro"
            refine ⟨_, _, _, _, rfl, rfl, SqL.of hv1, atC pl rfl hu, ?_⟩
            refine ⟨_, _, hrow.dp, hud.dp, shi, shi, ?_⟩
            refine ⟨_, rfl, ?_⟩
            rw [PySem.SeqAt.eqv_refl _ (SeqAt.canLay_of_shaped shi)]
            refine iteF ?_
            obtain ⟨ra, rxs, rfl, hra, hr0⟩ := ins_at hrow
            walk_at "ro"
            refine ⟨_, _, _, _, rfl, rfl, SqT.of hra, atC 0 rfl hr0, ?_⟩
            refine ⟨szl rfl, fun q3 hq3 => ?_⟩
            have s3 := Same.new (o := .tup [.str "load", .str "store", .str "call"]) hq3
            refine ⟨_, _, rfl, .inr (SqT.of upd_same), rfl, by decide +kernel, ?_⟩
            have j := j.same s3
            have hrow := hrow.same s3
            generalize L2.upd H16 q3 (.tup [.str "load", .str "store", .str "call"]) = H18 at j hrow
            show ∃ k, V.bl (inV (.str (nameI (is.getD pl exitI))) [.str "load", .str "store", .str "call"]) = V.bl k ∧ _
            rw [in_step]
            refine ⟨_, rfl, ?_⟩
            cases est : isStep (is.getD pl exitI) with
            | false =>
              refine iteT ?_
              obtain ⟨vs3, hw1, hw2⟩ := j.hD
              have hlw := hw2.len
              rw [List.length_map] at hlw
              walk_at "ro"
              refine ⟨tp, p, 1 + (vs3.length : Int), rfl, by omega, by omega, j.tape, fun y H19 y0 y1 t19 c19 => ?_⟩
              obtain ⟨y, rfl⟩ := Int.eq_ofNat_of_zero_le y0
              have j := j.next t19 c19
              walk_at "ro"
              exact ⟨rg, rs, y, _, _, _, _, rfl, j⟩
            | true =>
              refine iteF ?_
              have hrg := j.hr
              walk_at "ro"
              refine fun l hl => ?_
              have s4 := Same.new (o := .lst (rs.map vN)) hl
              have j := j.same s4
              have hrow := hrow.same s4
              have hl4 : L2.upd H18 l (.lst (rs.map vN)) l = some (.lst (rs.map vN)) := upd_same
              generalize L2.upd H18 l (.lst (rs.map vN)) = H19 at j hrow hl4
              walk_at "ro"
              refine ⟨_, rg, rs, is.getD pl exitI, pl, rfl, est, oki, j.ro, j.hr, hrow, fun told H20 s20 htold => ?_⟩
              have j := j.same s20
              have hrow := hrow.same s20
              have hl5 := s20 _ _ hl4
              walk_at "ro"
              refine ⟨.list (rs.map nD), .list (rs.map nD), (Dt.lst j.hr (vns_dt rs)).dp, (Dt.lst hl5 (vns_dt rs)).dp, ns_sh rs, ns_sh rs, ?_⟩
              refine ⟨_, rfl, ?_⟩
              rw [PySem.SeqAt.eqv_refl _ (SeqAt.canLay_of_shaped (ns_sh rs))]
              refine iteF ?_
              walk_at "ro"
              refine ⟨_, rg, rs, is.getD pl exitI, pl, rfl, est, oki, j.ro, j.hr, hrow, fun due H21 s21 hdue => ?_⟩
              have j := j.same s21
              have htold := htold.same s21
              refine ⟨_, _, htold.dp, hdue.dp, stepD_sh _ _ _, stepD_sh _ _ _, ?_⟩
              refine ⟨_, rfl, ?_⟩
              rw [PySem.SeqAt.eqv_refl _ (SeqAt.canLay_of_shaped (stepD_sh _ _ _))]
              refine iteF ?_
              obtain ⟨ta, tv, tn, rfl, hta, htv, htn⟩ := tup2 htold
              unfold nD at htn
              cases htn
              have ro' := step_ok (p := pl) j.ro oki
              cases htv with
              | @lst rg' xs' _ hrg' hxs' =>
                have ex := vals_n hxs'
                subst ex
                walk_at "ro"
                refine ⟨_, _, rfl, SqT.of hta, rfl, _, _, rfl, _, _, rfl, rfl, ?_⟩
                obtain ⟨a1, a2, a3, a4, a5, a6, a7, a8⟩ := j
                refine ⟨rg', _, (stepI (is.getD pl exitI) rs pl).2, _, _, _, _, rfl, ⟨a1, a2, a3, hrg', ro', a6, a7, ?_⟩⟩
                obtain ⟨ns', i', r', z', hta', _⟩ := a1
                refine ne_of hrg' hta' (fun q => ?_)
                injection q with q
                have := congrArg List.length q
                rw [List.length_map, ro'.1] at this
                exact absurd this (show ¬ (6 : Nat) = 4 by decide)
          · have hp : is.length ≤ pl := by have e' : ¬ (pl : Int) < (vs'.length : Int) := e; omega
            have e0 : is.getD pl exitI = exitI := by rw [List.getD_eq_getElem?_getD, List.getElem?_eq_none hp]; rfl
            walk_at "ro"
            refine ⟨szl rfl, fun q2 hq2 => ?_⟩
            have s2 := Same.new (o := .tup [.str "call", .str "exit"]) hq2
            have hud : Dt (L2.upd H16 q2 (.tup [.str "call", .str "exit"])) (.ref q2) (insD (is.getD pl exitI)) := by
              rw [e0]
              exact Dt.new (.cons (.str _) (.cons (.str _) .nil)) hq2
            have j := j.same s2
            have hrow := hrow.same s2
            generalize L2.upd H16 q2 (.tup [.str "call", .str "exit"]) = H17 at hud j hrow
            refine ⟨_, _, hrow.dp, hud.dp, shi, shi, ?_⟩
            refine ⟨_, rfl, ?_⟩
            rw [PySem.SeqAt.eqv_refl _ (SeqAt.canLay_of_shaped shi)]
            refine iteF ?_
            obtain ⟨ra, rxs, rfl, hra, hr0⟩ := ins_at hrow
            walk_at "ro"
            refine ⟨_, _, _, _, rfl, rfl, SqT.of hra, atC 0 rfl hr0, ?_⟩
            refine ⟨szl rfl, fun q3 hq3 => ?_⟩
            have s3 := Same.new (o := .tup [.str "load", .str "store", .str "call"]) hq3
            refine ⟨_, _, rfl, .inr (SqT.of upd_same), rfl, by decide +kernel, ?_⟩
            have j := j.same s3
            have hrow := hrow.same s3
            generalize L2.upd H17 q3 (.tup [.str "load", .str "store", .str "call"]) = H18 at j hrow
            show ∃ k, V.bl (inV (.str (nameI (is.getD pl exitI))) [.str "load", .str "store", .str "call"]) = V.bl k ∧ _
            rw [in_step]
            refine ⟨_, rfl, ?_⟩
            cases est : isStep (is.getD pl exitI) with
            | false =>
              refine iteT ?_
              obtain ⟨vs3, hw1, hw2⟩ := j.hD
              have hlw := hw2.len
              rw [List.length_map] at hlw
              walk_at "ro"
              refine ⟨tp, p, 1 + (vs3.length : Int), rfl, by omega, by omega, j.tape, fun y H19 y0 y1 t19 c19 => ?_⟩
              obtain ⟨y, rfl⟩ := Int.eq_ofNat_of_zero_le y0
              have j := j.next t19 c19
              walk_at "ro"
              exact ⟨rg, rs, y, _, _, _, _, rfl, j⟩
            | true =>
              refine iteF ?_
              have hrg := j.hr
              walk_at "ro"
              refine fun l hl => ?_
              have s4 := Same.new (o := .lst (rs.map vN)) hl
              have j := j.same s4
              have hrow := hrow.same s4
              have hl4 : L2.upd H18 l (.lst (rs.map vN)) l = some (.lst (rs.map vN)) := upd_same
              generalize L2.upd H18 l (.lst (rs.map vN)) = H19 at j hrow hl4
              walk_at "ro"
              refine ⟨_, rg, rs, is.getD pl exitI, pl, rfl, est, oki, j.ro, j.hr, hrow, fun told H20 s20 htold => ?_⟩
              have j := j.same s20
              have hrow := hrow.same s20
              have hl5 := s20 _ _ hl4
              walk_at "ro"
              refine ⟨.list (rs.map nD), .list (rs.map nD), (Dt.lst j.hr (vns_dt rs)).dp, (Dt.lst hl5 (vns_dt rs)).dp, ns_sh rs, ns_sh rs, ?_⟩
              refine ⟨_, rfl, ?_⟩
              rw [PySem.SeqAt.eqv_refl _ (SeqAt.canLay_of_shaped (ns_sh rs))]
              refine iteF ?_
              walk_at "ro"
              refine ⟨_, rg, rs, is.getD pl exitI, pl, rfl, est, oki, j.ro, j.hr, hrow, fun due H21 s21 hdue => ?_⟩
              have j := j.same s21
              have htold := htold.same s21
              refine ⟨_, _, htold.dp, hdue.dp, stepD_sh _ _ _, stepD_sh _ _ _, ?_⟩
              refine ⟨_, rfl, ?_⟩
              rw [PySem.SeqAt.eqv_refl _ (SeqAt.canLay_of_shaped (stepD_sh _ _ _))]
              refine iteF ?_
              obtain ⟨ta, tv, tn, rfl, hta, htv, htn⟩ := tup2 htold
              unfold nD at htn
              cases htn
              have ro' := step_ok (p := pl) j.ro oki
              cases htv with
              | @lst rg' xs' _ hrg' hxs' =>
                have ex := vals_n hxs'
                subst ex
                walk_at "ro"
                refine ⟨_, _, rfl, SqT.of hta, rfl, _, _, rfl, _, _, rfl, rfl, ?_⟩
                obtain ⟨a1, a2, a3, a4, a5, a6, a7, a8⟩ := j
                refine ⟨rg', _, (stepI (is.getD pl exitI) rs pl).2, _, _, _, _, rfl, ⟨a1, a2, a3, hrg', ro', a6, a7, ?_⟩⟩
                obtain ⟨ns', i', r', z', hta', _⟩ := a1
                refine ne_of hrg' hta' (fun q => ?_)
                injection q with q
                have := congrArg List.length q
                rw [List.length_map, ro'.1] at this
                exact absurd this (show ¬ (6 : Nat) = 4 by decide)
        · rintro σ H15 ⟨rg, rs, pl, v8, v9, v10, v11, rfl, j⟩
          walk_at "ro"
          exact k H15
end
end My

namespace My
open PySem L2
/-! ### what the top has written, and the end -/
/-- an error of the class at S is what an except of S names -/
theorem exm_self {K : PySem.W.Frag} {S : Addr} (h1 : PySem.W.subIn K (.ref S) (.type "BaseException") = some true) (h2 : PySem.W.isClsIn K S = true) (h3 : PySem.W.typeIn K (.ref S) = some (.type "type")) (h4 : PySem.W.subIn K (.ref S) (.ref S) = some true) : PySem.W.exmOne K (.ref S) (.ref S) = some true := by
  have e1 : (PySem.W.subIn K (.ref S) (.type "BaseException") == some true) = true := by rw [h1] <;> rfl
  have e2 : ((PySem.W.clsIn K S).isSome && PySem.W.typeIn K (.ref S) == some (.type "type")) = true := by
    have h2' : (PySem.W.clsIn K S).isSome = true := h2
    rw [h2', h3] <;> rfl
  unfold PySem.W.exmOne PySem.W.kitCls
  refine (if_pos e1).trans ((if_pos e2).trans ?_)
  exact h4
theorem all_mk {l : PySem.W.OpenLaw} {w : World} {K : PySem.W.Frag} {h : Heap} {mg : Str → Option Value} {fa : Addr} (X : K.In h) (G : h.Ns mainGlobals mg) (hfa : mg "law" = some (.ref fa))
    {f_law_next : Addr} {od_law_next an_law_next : Option Addr} {sl_law_next : Array (Option Value)} {oc_law_next kV_law_next dc_law_next pm_law_next cd_law_next ct_law_next : Value}
    {f_is_at_least : Addr} {od_is_at_least an_is_at_least : Option Addr} {sl_is_at_least : Array (Option Value)} {oc_is_at_least kV_is_at_least dc_is_at_least pm_is_at_least cd_is_at_least ct_is_at_least : Value}
    {f_is_between : Addr} {od_is_between an_is_between : Option Addr} {sl_is_between : Array (Option Value)} {oc_is_between kV_is_between dc_is_between pm_is_between cd_is_between ct_is_between : Value}
    {f_is_index : Addr} {od_is_index an_is_index : Option Addr} {sl_is_index : Array (Option Value)} {oc_is_index kV_is_index dc_is_index pm_is_index cd_is_index ct_is_index : Value}
    {f_is_word : Addr} {od_is_word an_is_word : Option Addr} {sl_is_word : Array (Option Value)} {oc_is_word kV_is_word dc_is_word pm_is_word cd_is_word ct_is_word : Value}
    {f_is_part : Addr} {od_is_part an_is_part : Option Addr} {sl_is_part : Array (Option Value)} {oc_is_part kV_is_part dc_is_part pm_is_part cd_is_part ct_is_part : Value}
    {f_is_instruction : Addr} {od_is_instruction an_is_instruction : Option Addr} {sl_is_instruction : Array (Option Value)} {oc_is_instruction kV_is_instruction dc_is_instruction pm_is_instruction cd_is_instruction ct_is_instruction : Value}
    {f_is_program : Addr} {od_is_program an_is_program : Option Addr} {sl_is_program : Array (Option Value)} {oc_is_program kV_is_program dc_is_program pm_is_program cd_is_program ct_is_program : Value}
    {f_instruction_at : Addr} {od_instruction_at an_instruction_at : Option Addr} {sl_instruction_at : Array (Option Value)} {oc_instruction_at kV_instruction_at dc_instruction_at pm_instruction_at cd_instruction_at ct_instruction_at : Value}
    {f_result : Addr} {od_result an_result : Option Addr} {sl_result : Array (Option Value)} {oc_result kV_result dc_result pm_result cd_result ct_result : Value}
    {f_plain_step : Addr} {od_plain_step an_plain_step : Option Addr} {sl_plain_step : Array (Option Value)} {oc_plain_step kV_plain_step dc_plain_step pm_plain_step cd_plain_step ct_plain_step : Value}
    {f_law_word : Addr} {od_law_word an_law_word : Option Addr} {sl_law_word : Array (Option Value)} {oc_law_word kV_law_word dc_law_word pm_law_word cd_law_word ct_law_word : Value}
    {f_law_row : Addr} {od_law_row an_law_row : Option Addr} {sl_law_row : Array (Option Value)} {oc_law_row kV_law_row dc_law_row pm_law_row cd_law_row ct_law_row : Value}
    {f_law_spoilt : Addr} {od_law_spoilt an_law_spoilt : Option Addr} {sl_law_spoilt : Array (Option Value)} {oc_law_spoilt kV_law_spoilt dc_law_spoilt pm_law_spoilt cd_law_spoilt ct_law_spoilt : Value}
    {f_law_due : Addr} {od_law_due an_law_due : Option Addr} {sl_law_due : Array (Option Value)} {oc_law_due kV_law_due dc_law_due pm_law_due cd_law_due ct_law_due : Value}
    {f_law : Addr} {od_law an_law : Option Addr} {sl_law : Array (Option Value)} {oc_law kV_law dc_law pm_law cd_law ct_law : Value}
    {A_NAMES A_PARTS : Addr} {od_NAMES : Option Addr} {n_NAMES n_PARTS : Nat} {sl_NAMES : Array (Option Value)} {es_PARTS : Array DictEntry} {tn0 tn1 tn2 tn3 tn4 tn5 tn6 tn7 tn8 tn9 tn10 tn11 tn12 tn13 tn14 tn15 tp0 tp1 tp2 tp3 tp4 tp5 tp6 tp7 tp8 tp9 : Tok}
    {t_REGISTERS : Tok}
    {t_TOP : Tok}
    {t__MOST_INSTRUCTIONS : Tok}
    (a_law_next : PySem.W.nsIn K mainGlobals "_law_next" = some (some (.ref f_law_next)))
    (l_law_next : K.lookup f_law_next = some ⟨oc_law_next, od_law_next, .func (PySem.W.fnOf "_law_next" "_law_next" (defArgs s_law_next) (defBody s_law_next) (defScope s_law_next) .none kV_law_next dc_law_next pm_law_next an_law_next cd_law_next ct_law_next), sl_law_next⟩)
    (q_law_next : PySem.W.codeIn K cd_law_next "_law_next" = true)
    (k_law_next : PySem.W.keepIn K (.ref f_law_next) = true)
    (a_is_at_least : PySem.W.nsIn K mainGlobals "is_at_least" = some (some (.ref f_is_at_least)))
    (l_is_at_least : K.lookup f_is_at_least = some ⟨oc_is_at_least, od_is_at_least, .func (PySem.W.fnOf "is_at_least" "is_at_least" (defArgs s_is_at_least) (defBody s_is_at_least) (defScope s_is_at_least) .none kV_is_at_least dc_is_at_least pm_is_at_least an_is_at_least cd_is_at_least ct_is_at_least), sl_is_at_least⟩)
    (q_is_at_least : PySem.W.codeIn K cd_is_at_least "is_at_least" = true)
    (k_is_at_least : PySem.W.keepIn K (.ref f_is_at_least) = true)
    (a_is_between : PySem.W.nsIn K mainGlobals "is_between" = some (some (.ref f_is_between)))
    (l_is_between : K.lookup f_is_between = some ⟨oc_is_between, od_is_between, .func (PySem.W.fnOf "is_between" "is_between" (defArgs s_is_between) (defBody s_is_between) (defScope s_is_between) .none kV_is_between dc_is_between pm_is_between an_is_between cd_is_between ct_is_between), sl_is_between⟩)
    (q_is_between : PySem.W.codeIn K cd_is_between "is_between" = true)
    (k_is_between : PySem.W.keepIn K (.ref f_is_between) = true)
    (a_is_index : PySem.W.nsIn K mainGlobals "is_index" = some (some (.ref f_is_index)))
    (l_is_index : K.lookup f_is_index = some ⟨oc_is_index, od_is_index, .func (PySem.W.fnOf "is_index" "is_index" (defArgs s_is_index) (defBody s_is_index) (defScope s_is_index) .none kV_is_index dc_is_index pm_is_index an_is_index cd_is_index ct_is_index), sl_is_index⟩)
    (q_is_index : PySem.W.codeIn K cd_is_index "is_index" = true)
    (k_is_index : PySem.W.keepIn K (.ref f_is_index) = true)
    (a_is_word : PySem.W.nsIn K mainGlobals "is_word" = some (some (.ref f_is_word)))
    (l_is_word : K.lookup f_is_word = some ⟨oc_is_word, od_is_word, .func (PySem.W.fnOf "is_word" "is_word" (defArgs s_is_word) (defBody s_is_word) (defScope s_is_word) .none kV_is_word dc_is_word pm_is_word an_is_word cd_is_word ct_is_word), sl_is_word⟩)
    (q_is_word : PySem.W.codeIn K cd_is_word "is_word" = true)
    (k_is_word : PySem.W.keepIn K (.ref f_is_word) = true)
    (a_is_part : PySem.W.nsIn K mainGlobals "_is_part" = some (some (.ref f_is_part)))
    (l_is_part : K.lookup f_is_part = some ⟨oc_is_part, od_is_part, .func (PySem.W.fnOf "_is_part" "_is_part" (defArgs s_is_part) (defBody s_is_part) (defScope s_is_part) .none kV_is_part dc_is_part pm_is_part an_is_part cd_is_part ct_is_part), sl_is_part⟩)
    (q_is_part : PySem.W.codeIn K cd_is_part "_is_part" = true)
    (k_is_part : PySem.W.keepIn K (.ref f_is_part) = true)
    (a_is_instruction : PySem.W.nsIn K mainGlobals "_is_instruction" = some (some (.ref f_is_instruction)))
    (l_is_instruction : K.lookup f_is_instruction = some ⟨oc_is_instruction, od_is_instruction, .func (PySem.W.fnOf "_is_instruction" "_is_instruction" (defArgs s_is_instruction) (defBody s_is_instruction) (defScope s_is_instruction) .none kV_is_instruction dc_is_instruction pm_is_instruction an_is_instruction cd_is_instruction ct_is_instruction), sl_is_instruction⟩)
    (q_is_instruction : PySem.W.codeIn K cd_is_instruction "_is_instruction" = true)
    (k_is_instruction : PySem.W.keepIn K (.ref f_is_instruction) = true)
    (a_is_program : PySem.W.nsIn K mainGlobals "is_program" = some (some (.ref f_is_program)))
    (l_is_program : K.lookup f_is_program = some ⟨oc_is_program, od_is_program, .func (PySem.W.fnOf "is_program" "is_program" (defArgs s_is_program) (defBody s_is_program) (defScope s_is_program) .none kV_is_program dc_is_program pm_is_program an_is_program cd_is_program ct_is_program), sl_is_program⟩)
    (q_is_program : PySem.W.codeIn K cd_is_program "is_program" = true)
    (k_is_program : PySem.W.keepIn K (.ref f_is_program) = true)
    (a_instruction_at : PySem.W.nsIn K mainGlobals "instruction_at" = some (some (.ref f_instruction_at)))
    (l_instruction_at : K.lookup f_instruction_at = some ⟨oc_instruction_at, od_instruction_at, .func (PySem.W.fnOf "instruction_at" "instruction_at" (defArgs s_instruction_at) (defBody s_instruction_at) (defScope s_instruction_at) .none kV_instruction_at dc_instruction_at pm_instruction_at an_instruction_at cd_instruction_at ct_instruction_at), sl_instruction_at⟩)
    (q_instruction_at : PySem.W.codeIn K cd_instruction_at "instruction_at" = true)
    (k_instruction_at : PySem.W.keepIn K (.ref f_instruction_at) = true)
    (a_result : PySem.W.nsIn K mainGlobals "_result" = some (some (.ref f_result)))
    (l_result : K.lookup f_result = some ⟨oc_result, od_result, .func (PySem.W.fnOf "_result" "_result" (defArgs s_result) (defBody s_result) (defScope s_result) .none kV_result dc_result pm_result an_result cd_result ct_result), sl_result⟩)
    (q_result : PySem.W.codeIn K cd_result "_result" = true)
    (k_result : PySem.W.keepIn K (.ref f_result) = true)
    (a_plain_step : PySem.W.nsIn K mainGlobals "plain_step" = some (some (.ref f_plain_step)))
    (l_plain_step : K.lookup f_plain_step = some ⟨oc_plain_step, od_plain_step, .func (PySem.W.fnOf "plain_step" "plain_step" (defArgs s_plain_step) (defBody s_plain_step) (defScope s_plain_step) .none kV_plain_step dc_plain_step pm_plain_step an_plain_step cd_plain_step ct_plain_step), sl_plain_step⟩)
    (q_plain_step : PySem.W.codeIn K cd_plain_step "plain_step" = true)
    (k_plain_step : PySem.W.keepIn K (.ref f_plain_step) = true)
    (a_law_word : PySem.W.nsIn K mainGlobals "_law_word" = some (some (.ref f_law_word)))
    (l_law_word : K.lookup f_law_word = some ⟨oc_law_word, od_law_word, .func (PySem.W.fnOf "_law_word" "_law_word" (defArgs s_law_word) (defBody s_law_word) (defScope s_law_word) .none kV_law_word dc_law_word pm_law_word an_law_word cd_law_word ct_law_word), sl_law_word⟩)
    (q_law_word : PySem.W.codeIn K cd_law_word "_law_word" = true)
    (k_law_word : PySem.W.keepIn K (.ref f_law_word) = true)
    (a_law_row : PySem.W.nsIn K mainGlobals "_law_row" = some (some (.ref f_law_row)))
    (l_law_row : K.lookup f_law_row = some ⟨oc_law_row, od_law_row, .func (PySem.W.fnOf "_law_row" "_law_row" (defArgs s_law_row) (defBody s_law_row) (defScope s_law_row) .none kV_law_row dc_law_row pm_law_row an_law_row cd_law_row ct_law_row), sl_law_row⟩)
    (q_law_row : PySem.W.codeIn K cd_law_row "_law_row" = true)
    (k_law_row : PySem.W.keepIn K (.ref f_law_row) = true)
    (a_law_spoilt : PySem.W.nsIn K mainGlobals "_law_spoilt" = some (some (.ref f_law_spoilt)))
    (l_law_spoilt : K.lookup f_law_spoilt = some ⟨oc_law_spoilt, od_law_spoilt, .func (PySem.W.fnOf "_law_spoilt" "_law_spoilt" (defArgs s_law_spoilt) (defBody s_law_spoilt) (defScope s_law_spoilt) .none kV_law_spoilt dc_law_spoilt pm_law_spoilt an_law_spoilt cd_law_spoilt ct_law_spoilt), sl_law_spoilt⟩)
    (q_law_spoilt : PySem.W.codeIn K cd_law_spoilt "_law_spoilt" = true)
    (k_law_spoilt : PySem.W.keepIn K (.ref f_law_spoilt) = true)
    (a_law_due : PySem.W.nsIn K mainGlobals "_law_due" = some (some (.ref f_law_due)))
    (l_law_due : K.lookup f_law_due = some ⟨oc_law_due, od_law_due, .func (PySem.W.fnOf "_law_due" "_law_due" (defArgs s_law_due) (defBody s_law_due) (defScope s_law_due) .none kV_law_due dc_law_due pm_law_due an_law_due cd_law_due ct_law_due), sl_law_due⟩)
    (q_law_due : PySem.W.codeIn K cd_law_due "_law_due" = true)
    (k_law_due : PySem.W.keepIn K (.ref f_law_due) = true)
    (a_law : PySem.W.nsIn K mainGlobals "law" = some (some (.ref f_law)))
    (l_law : K.lookup f_law = some ⟨oc_law, od_law, .func (PySem.W.fnOf "law" "law" (defArgs s_law) (defBody s_law) (defScope s_law) .none kV_law dc_law pm_law an_law cd_law ct_law), sl_law⟩)
    (q_law : PySem.W.codeIn K cd_law "law" = true)
    (k_law : PySem.W.keepIn K (.ref f_law) = true)
    (y_NAMES : PySem.W.nsIn K mainGlobals "NAMES" = some (some (.ref A_NAMES)))
    (l_NAMES : K.lookup A_NAMES = some ⟨.type "tuple", od_NAMES, .seq #[.str "fork" tn0, .str "exit" tn1, .str "wait" tn2, .str "pipe" tn3, .str "read" tn4, .str "write" tn5, .str "close" tn6, .str "move" tn7, .str "open" tn8, .str "make" tn9, .str "drop" tn10, .str "sync" tn11, .str "grow" tn12, .str "who" tn13, .str "send" tn14, .str "receive" tn15] n_NAMES, sl_NAMES⟩)
    (y__PARTS : PySem.W.nsIn K mainGlobals "_PARTS" = some (some (.ref A_PARTS)))
    (l__PARTS : K.lookup A_PARTS = some ⟨.type "dict", none, .dict es_PARTS n_PARTS, #[]⟩)
    (kl__PARTS : PySem.W.KeysLit w.params es_PARTS.toList)
    (lo__PARTS : (A_PARTS == sysModules) = false)
    (p0 : PySem.W.nsIn K A_PARTS "set" = some (some (.str "rw" tp0)))
    (p1 : PySem.W.nsIn K A_PARTS "copy" = some (some (.str "rr" tp1)))
    (p2 : PySem.W.nsIn K A_PARTS "add" = some (some (.str "rrr" tp2)))
    (p3 : PySem.W.nsIn K A_PARTS "sub" = some (some (.str "rrr" tp3)))
    (p4 : PySem.W.nsIn K A_PARTS "less" = some (some (.str "rrr" tp4)))
    (p5 : PySem.W.nsIn K A_PARTS "load" = some (some (.str "rr" tp5)))
    (p6 : PySem.W.nsIn K A_PARTS "store" = some (some (.str "rr" tp6)))
    (p7 : PySem.W.nsIn K A_PARTS "jump" = some (some (.str "p" tp7)))
    (p8 : PySem.W.nsIn K A_PARTS "if" = some (some (.str "rp" tp8)))
    (p9 : PySem.W.nsIn K A_PARTS "call" = some (some (.str "n" tp9)))
    (p10 : PySem.W.nsIn K A_PARTS "nothing" = some none)
    (z_abs : PySem.W.nsIn K mainGlobals "abs" = some none)
    (z_all : PySem.W.nsIn K mainGlobals "all" = some none)
    (z_bool : PySem.W.nsIn K mainGlobals "bool" = some none)
    (z_int : PySem.W.nsIn K mainGlobals "int" = some none)
    (z_isinstance : PySem.W.nsIn K mainGlobals "isinstance" = some none)
    (z_len : PySem.W.nsIn K mainGlobals "len" = some none)
    (z_list : PySem.W.nsIn K mainGlobals "list" = some none)
    (z_range : PySem.W.nsIn K mainGlobals "range" = some none)
    (z_str : PySem.W.nsIn K mainGlobals "str" = some none)
    (z_tuple : PySem.W.nsIn K mainGlobals "tuple" = some none)
    (z_zip : PySem.W.nsIn K mainGlobals "zip" = some none)
    (y_REGISTERS : PySem.W.nsIn K mainGlobals "REGISTERS" = some (some (.int 6 t_REGISTERS)))
    (y_TOP : PySem.W.nsIn K mainGlobals "TOP" = some (some (.int 4294967295 t_TOP)))
    (y__MOST_INSTRUCTIONS : PySem.W.nsIn K mainGlobals "_MOST_INSTRUCTIONS" = some (some (.int 600 t__MOST_INSTRUCTIONS))) :
    ∃ fd : FuncData, (∀ (s : Shared) (v : Value), BindsTo s fd ⟨[v], []⟩ [("script", v)]) ∧ ∀ base : Heap, K.In base → base.Ns mainGlobals mg → FnOk l.prog w K mg base CX0 7 fa fd ["script"] (spLaw K) := by
  have e := hfa.symm.trans (PySem.W.mg_of X G a_law)
  cases e
  have T : Txt K mg w A_NAMES A_PARTS := ⟨PySem.W.mg_none_of X G z_abs, PySem.W.mg_none_of X G z_all, PySem.W.mg_none_of X G z_bool, PySem.W.mg_none_of X G z_int, PySem.W.mg_none_of X G z_isinstance, PySem.W.mg_none_of X G z_len, PySem.W.mg_none_of X G z_list, PySem.W.mg_none_of X G z_range, PySem.W.mg_none_of X G z_str, PySem.W.mg_none_of X G z_tuple, PySem.W.mg_none_of X G z_zip, ⟨_, PySem.W.mg_of X G y_REGISTERS⟩, ⟨_, PySem.W.mg_of X G y_TOP⟩, ⟨_, PySem.W.mg_of X G y__MOST_INSTRUCTIONS⟩, PySem.W.mg_of X G y_NAMES, names_of l_NAMES, PySem.W.mg_of X G y__PARTS, ⟨_, _, l__PARTS⟩, parts_of l__PARTS kl__PARTS lo__PARTS p0 p1 p2 p3 p4 p5 p6 p7 p8 p9 p10⟩
  have F_law_next := fun_mk (st := s_law_next) l_law_next q_law_next k_law_next
  have B_law_next := F_law_next.binds (ps := ["tape", "many"]) fun _ _ _ _ _ _ us hl => match us, hl with | [_, _], _ => rfl
  have F_is_at_least := fun_mk (st := s_is_at_least) l_is_at_least q_is_at_least k_is_at_least
  have B_is_at_least := F_is_at_least.binds (ps := ["value", "least"]) fun _ _ _ _ _ _ us hl => match us, hl with | [_, _], _ => rfl
  have F_is_between := fun_mk (st := s_is_between) l_is_between q_is_between k_is_between
  have B_is_between := F_is_between.binds (ps := ["value", "least", "most"]) fun _ _ _ _ _ _ us hl => match us, hl with | [_, _, _], _ => rfl
  have F_is_index := fun_mk (st := s_is_index) l_is_index q_is_index k_is_index
  have B_is_index := F_is_index.binds (ps := ["value", "many"]) fun _ _ _ _ _ _ us hl => match us, hl with | [_, _], _ => rfl
  have F_is_word := fun_mk (st := s_is_word) l_is_word q_is_word k_is_word
  have B_is_word := F_is_word.binds (ps := ["value"]) fun _ _ _ _ _ _ us hl => match us, hl with | [_], _ => rfl
  have F_is_part := fun_mk (st := s_is_part) l_is_part q_is_part k_is_part
  have B_is_part := F_is_part.binds (ps := ["value", "kind"]) fun _ _ _ _ _ _ us hl => match us, hl with | [_, _], _ => rfl
  have F_is_instruction := fun_mk (st := s_is_instruction) l_is_instruction q_is_instruction k_is_instruction
  have B_is_instruction := F_is_instruction.binds (ps := ["value"]) fun _ _ _ _ _ _ us hl => match us, hl with | [_], _ => rfl
  have F_is_program := fun_mk (st := s_is_program) l_is_program q_is_program k_is_program
  have B_is_program := F_is_program.binds (ps := ["value"]) fun _ _ _ _ _ _ us hl => match us, hl with | [_], _ => rfl
  have F_instruction_at := fun_mk (st := s_instruction_at) l_instruction_at q_instruction_at k_instruction_at
  have B_instruction_at := F_instruction_at.binds (ps := ["program", "place"]) fun _ _ _ _ _ _ us hl => match us, hl with | [_, _], _ => rfl
  have F_result := fun_mk (st := s_result) l_result q_result k_result
  have B_result := F_result.binds (ps := ["word", "parts", "registers"]) fun _ _ _ _ _ _ us hl => match us, hl with | [_, _, _], _ => rfl
  have F_plain_step := fun_mk (st := s_plain_step) l_plain_step q_plain_step k_plain_step
  have B_plain_step := F_plain_step.binds (ps := ["instruction", "registers", "place"]) fun _ _ _ _ _ _ us hl => match us, hl with | [_, _, _], _ => rfl
  have F_law_word := fun_mk (st := s_law_word) l_law_word q_law_word k_law_word
  have B_law_word := F_law_word.binds (ps := ["tape"]) fun _ _ _ _ _ _ us hl => match us, hl with | [_], _ => rfl
  have F_law_row := fun_mk (st := s_law_row) l_law_row q_law_row k_law_row
  have B_law_row := F_law_row.binds (ps := ["tape"]) fun _ _ _ _ _ _ us hl => match us, hl with | [_], _ => rfl
  have F_law_spoilt := fun_mk (st := s_law_spoilt) l_law_spoilt q_law_spoilt k_law_spoilt
  have B_law_spoilt := F_law_spoilt.binds (ps := ["tape"]) fun _ _ _ _ _ _ us hl => match us, hl with | [_], _ => rfl
  have F_law_due := fun_mk (st := s_law_due) l_law_due q_law_due k_law_due
  have B_law_due := F_law_due.binds (ps := ["row", "registers", "place"]) fun _ _ _ _ _ _ us hl => match us, hl with | [_, _, _], _ => rfl
  have F_law := fun_mk (st := s_law) l_law q_law k_law
  refine ⟨PySem.W.fnOf "law" "law" (defArgs s_law) (defBody s_law) (defScope s_law) .none kV_law dc_law pm_law an_law cd_law ct_law, fun s v => .of_eq rfl, fun base _ _ => ?_⟩
  have D_law_next : Dfn l.prog w K mg base CX0 1 "_law_next" ["tape", "many"] spNext := ⟨f_law_next, _, ok_law_next F_law_next T , PySem.W.mg_of X G a_law_next, k_law_next, B_law_next⟩
  have D_is_at_least : Dfn l.prog w K mg base CX0 1 "is_at_least" ["value", "least"] spGe := ⟨f_is_at_least, _, ok_is_at_least F_is_at_least T , PySem.W.mg_of X G a_is_at_least, k_is_at_least, B_is_at_least⟩
  have D_is_between : Dfn l.prog w K mg base CX0 2 "is_between" ["value", "least", "most"] spBtw := ⟨f_is_between, _, ok_is_between F_is_between T D_is_at_least, PySem.W.mg_of X G a_is_between, k_is_between, B_is_between⟩
  have D_is_index : Dfn l.prog w K mg base CX0 3 "is_index" ["value", "many"] spIdx := ⟨f_is_index, _, ok_is_index F_is_index T D_is_between, PySem.W.mg_of X G a_is_index, k_is_index, B_is_index⟩
  have D_is_word : Dfn l.prog w K mg base CX0 3 "is_word" ["value"] spWord := ⟨f_is_word, _, ok_is_word F_is_word T D_is_between, PySem.W.mg_of X G a_is_word, k_is_word, B_is_word⟩
  have D_is_part : Dfn l.prog w K mg base CX0 4 "_is_part" ["value", "kind"] spPart := ⟨f_is_part, _, ok_is_part F_is_part T D_is_index D_is_word D_is_between, PySem.W.mg_of X G a_is_part, k_is_part, B_is_part⟩
  have D_is_instruction : Dfn l.prog w K mg base CX0 5 "_is_instruction" ["value"] spIns := ⟨f_is_instruction, _, ok_is_instruction F_is_instruction T D_is_part, PySem.W.mg_of X G a_is_instruction, k_is_instruction, B_is_instruction⟩
  have D_is_program : Dfn l.prog w K mg base CX0 6 "is_program" ["value"] spProg := ⟨f_is_program, _, ok_is_program F_is_program T D_is_instruction, PySem.W.mg_of X G a_is_program, k_is_program, B_is_program⟩
  have D_instruction_at : Dfn l.prog w K mg base CX0 1 "instruction_at" ["program", "place"] spAt := ⟨f_instruction_at, _, ok_instruction_at F_instruction_at T , PySem.W.mg_of X G a_instruction_at, k_instruction_at, B_instruction_at⟩
  have D_result : Dfn l.prog w K mg base CX0 1 "_result" ["word", "parts", "registers"] spRes := ⟨f_result, _, ok_result F_result T , PySem.W.mg_of X G a_result, k_result, B_result⟩
  have D_plain_step : Dfn l.prog w K mg base CX0 2 "plain_step" ["instruction", "registers", "place"] spStep := ⟨f_plain_step, _, ok_plain_step F_plain_step T D_result, PySem.W.mg_of X G a_plain_step, k_plain_step, B_plain_step⟩
  have D_law_word : Dfn l.prog w K mg base CX0 2 "_law_word" ["tape"] spLWord := ⟨f_law_word, _, ok_law_word F_law_word T D_law_next, PySem.W.mg_of X G a_law_word, k_law_word, B_law_word⟩
  have D_law_row : Dfn l.prog w K mg base CX0 3 "_law_row" ["tape"] spLRow := ⟨f_law_row, _, ok_law_row F_law_row T D_law_next D_law_word, PySem.W.mg_of X G a_law_row, k_law_row, B_law_row⟩
  have D_law_spoilt : Dfn l.prog w K mg base CX0 2 "_law_spoilt" ["tape"] spBad := ⟨f_law_spoilt, _, ok_law_spoilt F_law_spoilt T D_law_next, PySem.W.mg_of X G a_law_spoilt, k_law_spoilt, B_law_spoilt⟩
  have D_law_due : Dfn l.prog w K mg base CX0 1 "_law_due" ["row", "registers", "place"] spDue := ⟨f_law_due, _, ok_law_due F_law_due T , PySem.W.mg_of X G a_law_due, k_law_due, B_law_due⟩
  exact ok_law F_law T D_law_next D_law_row D_law_spoilt D_law_word D_law_due D_is_program D_instruction_at D_plain_step
theorem walk {l : PySem.W.OpenLaw} {q : Program} {loose : List Str} {XP : (Str → Option Value) → Heap → Prop} {YP : World → Heap → Prop} {d : DefRec} {K : Params → PySem.W.Frag} (hn : l.most = some 63) (hdf : d.params.defaults = [])
    (hY : ∀ (w : World) (h : Heap), YP w h → (K w.params).In h)
    (F : ∀ (w : World) (mg : Str → Option Value) (fa : Addr) (h : Heap), (K w.params).In h → h.Ns mainGlobals mg → mg d.name = some (.ref fa) →
      ∃ fd : FuncData, (∀ (s : Shared) (u : Value), BindsTo s fd ⟨[u], []⟩ [("script", u)]) ∧ ∀ base : Heap, (K w.params).In base → base.Ns mainGlobals mg → FnOk l.prog w (K w.params) mg base CX0 7 fa fd ["script"] (spLaw (K w.params))) :
    PySem.W.WalkO q loose XP YP l.row.toRowW d [] (fun f vs => PySem.call f vs) :=
  L2.walk_of (n := 63) (k := 7) (x := "script") (CX := fun _ => CX0) (sp := fun w => spLaw (K w.params)) hn (by decide) hdf ⟨rfl, by decide, by decide⟩ hY F (fun _ _ a ns hl _ hS => ⟨a, ns, rfl, hS, fun _ => rfl⟩) fun _ _ _ _ _ z => z
end My
open PySem PySem.W PyProof.Rows in
set_option maxRecDepth 100000 in
set_option maxHeartbeats 0 in
theorem PySem.Challenge.cw_steadhold_k41_instructions_that_touch_re_holds : PySem.Challenge.rw_steadhold_k41_instructions_that_touch_re.Holds := by
  w_on; o_law; k_head; (case hw => w_witness2)
  k_fill
  refine My.walk (l := PySem.Challenge.rw_steadhold_k41_instructions_that_touch_re) rfl rfl (fun w h Y => PySem.W.kIn_of Y) ?F
  case F =>
    intro w mg fa h KX G hmg
    refine' My.all_mk KX G hmg ?a_law_next ?l_law_next ?q_law_next ?k_law_next ?a_is_at_least ?l_is_at_least ?q_is_at_least ?k_is_at_least ?a_is_between ?l_is_between ?q_is_between ?k_is_between ?a_is_index ?l_is_index ?q_is_index ?k_is_index ?a_is_word ?l_is_word ?q_is_word ?k_is_word ?a_is_part ?l_is_part ?q_is_part ?k_is_part ?a_is_instruction ?l_is_instruction ?q_is_instruction ?k_is_instruction ?a_is_program ?l_is_program ?q_is_program ?k_is_program ?a_instruction_at ?l_instruction_at ?q_instruction_at ?k_instruction_at ?a_result ?l_result ?q_result ?k_result ?a_plain_step ?l_plain_step ?q_plain_step ?k_plain_step ?a_law_word ?l_law_word ?q_law_word ?k_law_word ?a_law_row ?l_law_row ?q_law_row ?k_law_row ?a_law_spoilt ?l_law_spoilt ?q_law_spoilt ?k_law_spoilt ?a_law_due ?l_law_due ?q_law_due ?k_law_due ?a_law ?l_law ?q_law ?k_law ?y_NAMES ?l_NAMES ?y__PARTS ?l__PARTS ?kl__PARTS ?lo__PARTS ?p0 ?p1 ?p2 ?p3 ?p4 ?p5 ?p6 ?p7 ?p8 ?p9 ?p10 ?z_abs ?z_all ?z_bool ?z_int ?z_isinstance ?z_len ?z_list ?z_range ?z_str ?z_tuple ?z_zip ?y_REGISTERS ?y_TOP ?y__MOST_INSTRUCTIONS
    (case a_law_next => k_is)
    (case l_law_next => k_is)
    (case q_law_next => k_is)
    (case k_law_next => k_is)
    (case a_is_at_least => k_is)
    (case l_is_at_least => k_is)
    (case q_is_at_least => k_is)
    (case k_is_at_least => k_is)
    (case a_is_between => k_is)
    (case l_is_between => k_is)
    (case q_is_between => k_is)
    (case k_is_between => k_is)
    (case a_is_index => k_is)
    (case l_is_index => k_is)
    (case q_is_index => k_is)
    (case k_is_index => k_is)
    (case a_is_word => k_is)
    (case l_is_word => k_is)
    (case q_is_word => k_is)
    (case k_is_word => k_is)
    (case a_is_part => k_is)
    (case l_is_part => k_is)
    (case q_is_part => k_is)
    (case k_is_part => k_is)
    (case a_is_instruction => k_is)
    (case l_is_instruction => k_is)
    (case q_is_instruction => k_is)
    (case k_is_instruction => k_is)
    (case a_is_program => k_is)
    (case l_is_program => k_is)
    (case q_is_program => k_is)
    (case k_is_program => k_is)
    (case a_instruction_at => k_is)
    (case l_instruction_at => k_is)
    (case q_instruction_at => k_is)
    (case k_instruction_at => k_is)
    (case a_result => k_is)
    (case l_result => k_is)
    (case q_result => k_is)
    (case k_result => k_is)
    (case a_plain_step => k_is)
    (case l_plain_step => k_is)
    (case q_plain_step => k_is)
    (case k_plain_step => k_is)
    (case a_law_word => k_is)
    (case l_law_word => k_is)
    (case q_law_word => k_is)
    (case k_law_word => k_is)
    (case a_law_row => k_is)
    (case l_law_row => k_is)
    (case q_law_row => k_is)
    (case k_law_row => k_is)
    (case a_law_spoilt => k_is)
    (case l_law_spoilt => k_is)
    (case q_law_spoilt => k_is)
    (case k_law_spoilt => k_is)
    (case a_law_due => k_is)
    (case l_law_due => k_is)
    (case q_law_due => k_is)
    (case k_law_due => k_is)
    (case a_law => k_is)
    (case l_law => k_is)
    (case q_law => k_is)
    (case k_law => k_is)
    (case y_NAMES => k_is)
    (case l_NAMES => k_is)
    (case y__PARTS => k_is)
    (case l__PARTS => k_is)
    (case kl__PARTS => first | k_is | (repeat (first | exact trivial | refine ⟨⟨_, _, rfl, rfl⟩, ?_⟩)))
    (case lo__PARTS => first | rfl | k_is | decide)
    (case p0 => k_is)
    (case p1 => k_is)
    (case p2 => k_is)
    (case p3 => k_is)
    (case p4 => k_is)
    (case p5 => k_is)
    (case p6 => k_is)
    (case p7 => k_is)
    (case p8 => k_is)
    (case p9 => k_is)
    (case p10 => k_is)
    (case z_abs => k_is)
    (case z_all => k_is)
    (case z_bool => k_is)
    (case z_int => k_is)
    (case z_isinstance => k_is)
    (case z_len => k_is)
    (case z_list => k_is)
    (case z_range => k_is)
    (case z_str => k_is)
    (case z_tuple => k_is)
    (case z_zip => k_is)
    (case y_REGISTERS => k_is)
    (case y_TOP => k_is)
    (case y__MOST_INSTRUCTIONS => k_is)
