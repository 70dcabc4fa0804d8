import PyProof.Rows.All
import Wide.All
import OpenK.AllK
import Wide.FinOn
import HandS.ForMost
import HandS.IsInst
import HandS.Exc
import HandS.TryOnly
import HandS.ExcOwn
import HandS.WordsExc
import HandS.RaiseMore
import HandS.Codes
import HandS.TupAny
import KE.KDictDisplayH
import HandS.IterVal
import KE.KDictCopyH
import HandS.DictEq
import HandS.DeepEq
import PySem.Challenge.RW_steadhold_k04_trees
import HandS.Style
import HandS.DictComp
import HandS.DictTup
import HandS.Walk
import HandS.Conv
import HandS.TupMul
import HandS.TupLe
set_option Elab.async false
set_option linter.all false
set_option maxRecDepth 100000
set_option maxHeartbeats 4000000
namespace My
open PySem L2
/-! ### rules that the layer lacks -/
section
variable {X : Cx}
/-- xs[i] as the read of xs[i] op= e -/
theorem get_list : PGet X (rIxL X.K) := fun pins s0 σ H o1 o2 u1 u2 Q I r1 r2 hh => by
  obtain ⟨l, xs, n, z, e1, e2, hl, hn, q⟩ := hh
  subst e1; subst e2
  cases r1
  obtain ⟨tk, e3⟩ := r2
  subst e3
  obtain ⟨us, rel, pll, _⟩ := I.list hl
  obtain ⟨j, c1, c2, _, c4, c5⟩ := atI_get hn
  obtain ⟨u, hu, ru⟩ := rel.get c2
  have len := rel.length
  have big := line63
  have goal : EP X pins σ Q u s0 := ⟨z, H, I, ru, q⟩
  rcases Int.lt_or_le n 0 with neg | pos
  · have hj : (n + (us.toArray.size : Int)).toNat = j := by
      rw [seqIndex_neg neg c4] at c1
      have c1' := Option.some.inj c1
      simpa [← len] using c1'
    exact PySem.wpAny_getItem_list_neg pll.isList neg (by simp; omega) (by omega) (by rw [hj]; simpa using hu) goal
  · have hj : n.toNat = j := by
      rw [seqIndex_of pos c5] at c1
      exact Option.some.inj c1
    exact PySem.wpAny_getItem_list pll.isList pos (by omega) (by rw [hj]; simpa using hu) goal
/-- a module's int, text -/
theorem pe_gint {x : Str} {i : Int} {pos : Pos} (hg : Gl X x) (hm : ∃ t, X.mg x = some (.int i t)) (hd : (x == ("__debug__" : Str)) = false := by decide) : PE X (.Name x pos) (tC (.int i)) := by
  obtain ⟨t, hm⟩ := hm
  exact pe_glob hg hm ⟨t, rfl⟩ hd
theorem pe_gstr {x i : Str} {pos : Pos} (hg : Gl X x) (hm : ∃ t, X.mg x = some (.str i t)) (hd : (x == ("__debug__" : Str)) = false := by decide) : PE X (.Name x pos) (tC (.str i)) := by
  obtain ⟨t, hm⟩ := hm
  exact pe_glob hg hm ⟨t, rfl⟩ hd
end
/-! ### rules with the written part named -/
def rLen (K : PySem.W.Frag) : List V → Hp → VK → Prop := fun xs H Q => ∃ p ys, xs = [.ref p] ∧ (SqL K H p ys ∨ SqT K H p ys) ∧ Q (.int ys.length) H
def rListOf (K : PySem.W.Frag) : List V → Hp → VK → Prop := fun xs H Q => ∃ p ys, xs = [.ref p] ∧ (SqL K H p ys ∨ SqT K H p ys) ∧ ∀ l, H l = none → Q (.ref l) (upd H l (.lst ys))
def rTupOf (K : PySem.W.Frag) : List V → Hp → VK → Prop := fun xs H Q => ∃ p ys, xs = [.ref p] ∧ ((SqL K H p ys ∧ ∀ l, H l = none → Q (.ref l) (upd H l (.tup ys))) ∨ (SqT K H p ys ∧ Q (.ref p) H))
section
variable {X : Cx} (K : PySem.W.Frag)
theorem kIxL (h : X.K = K := by rfl) : IxR X (rIxL K) := by subst h; exact ix_list
theorem kIxT (h : X.K = K := by rfl) : IxR X (rIxT K) := by subst h; exact ix_tup
theorem kGetL (h : X.K = K := by rfl) : PGet X (rIxL K) := by subst h; exact get_list
theorem kSlL (h : X.K = K := by rfl) : SlR X (rSlL K) := by subst h; exact sl_list
theorem kSlT (h : X.K = K := by rfl) : SlR X (rSlA K) := by subst h; exact sl_tupA
theorem kEqD (hu : X.A.units + 64 < cLine) (h : X.K = K := by rfl) : OpR X (compareOp .Eq) (rEqD K) := by subst h; exact op_eqD hu
theorem kNeD (hu : X.A.units + 64 < cLine) (h : X.K = K := by rfl) : OpR X (compareOp .NotEq) (rNeD K) := by subst h; exact op_neD hu
theorem kIn (h : X.K = K := by rfl) : OpR X (compareOp .In) (rIn K false) := by subst h; exact op_in_seq
theorem kNotIn (h : X.K = K := by rfl) : OpR X (compareOp .NotIn) (rIn K true) := by subst h; exact op_notIn_seq
theorem kCatT (h : X.K = K := by rfl) : OpR X (binaryOp .Add) (rCatA K) := by subst h; exact op_catA
theorem kLen (h : X.K = K := by rfl) : CallR X (.builtin "len") (rLen K) := by subst h; exact call_len_seq
theorem kListOf (h : X.K = K := by rfl) : CallR X (.type "list") (rListOf K) := by subst h; exact call_list_of
theorem kTupOf (h : X.K = K := by rfl) : CallR X (.type "tuple") (rTupOf K) := by subst h; exact call_tuple_of
theorem kIsi (h : X.K = K := by rfl) : CallR X (.builtin "isinstance") (rIsi K) := by subst h; exact call_isi
theorem kAll (hc : X.calm = true) (h : X.K = K := by rfl) : CallR X (.builtin "all") (rAll K) := by subst h; exact cr_all hc
theorem kAny (hc : X.calm = true) (h : X.K = K := by rfl) : CallR X (.builtin "any") (rAny K) := by subst h; exact cr_any hc
theorem kSum (hc : X.calm = true) (h : X.K = K := by rfl) : CallR X (.builtin "sum") (rSum K) := by subst h; exact cr_sum hc
theorem kSorted (h : X.K = K := by rfl) : CallR X (.builtin "sorted") (rSorted K) := by subst h; exact cr_sorted
theorem kIndex (h : X.K = K := by rfl) : MtR X "list.index" (rIndex K) := by subst h; exact mt_index
section
variable {tg l : Expr} {tl : TE} {pos : Pos}
theorem kpiL (hl : PE X l tl) (h : X.K = K := by rfl) : PI X tg l (iList K tl) := by subst h; exact pi_list hl
theorem kpiT (hl : PE X l tl) (h : X.K = K := by rfl) : PI X tg l (iTup K tl) := by subst h; exact pi_tup hl
theorem kpgT {es : List Expr} {k : Nat} {t : TGs} {n : Nat} (hc : X.calm = true) (hh : PGs X es t)
    (hn : (assignEach es X.env).length = n := by rfl) (hst : (assignEach es X.env).findIdx? (·.1) = none := by rfl) (h : X.K = K := by rfl) : PG X (.Tuple es k pos) (gTup K n t) := by subst h; exact pg_tup hc hh hn hst
theorem kBM0 {o : Expr} {to : TE} {name : Str} {apos cpos : Pos} {T id : String} {r : V → List V → Hp → VK → Prop} (pa : PlainAttrs T) (slot : Slot T name id) (hty : typeOf (.builtin id) = pure (.type "method_descriptor")) (hm : MtR X id r) (ho : PE X o to)
    (hbase : attributeBase o name X.env (eval o X.env) = eval o X.env := by rfl) (hline : (apos.endLine == cpos.line) = true := by rfl) (h : X.K = K := by rfl) : PE X (.Call (.Attribute o name apos) [] [] cpos) (tBM0 K T r to) := by
  subst h; exact pe_bm0 pa slot hty hm ho hbase hline
theorem kBM {o e : Expr} {es : List Expr} {to : TE} {t : TA} {name : Str} {apos cpos : Pos} {T id : String} {r : V → List V → Hp → VK → Prop} (pa : PlainAttrs T) (slot : Slot T name id) (hty : typeOf (.builtin id) = pure (.type "method_descriptor")) (hm : MtR X id r) (ho : PE X o to) (ha : PA X (e :: es) t)
    (hbase : attributeBase o name X.env (eval o X.env) = eval o X.env := by rfl)
    (hfew : ((backTo cpos (starEach (e :: es) X.env)).all (fun x => !x.1) && (backToKw cpos (keywordEach [] X.env)).all (fun x => x.1.isSome)
      && decide ((e :: es).length + ([] : List Keyword).length + (if ([] : List Keyword).isEmpty then 0 else 1) < 30)) = true := by rfl)
    (hline : (apos.endLine == cpos.line) = true := by rfl) (hs : starEach (e :: es) X.env = (false, eval e X.env) :: starEach es X.env := by rfl) (hplain : (backTo cpos (starEach es X.env)).any (·.1) = false := by rfl) (h : X.K = K := by rfl) :
    PE X (.Call (.Attribute o name apos) (e :: es) [] cpos) (tBM K T r to t) := by
  subst h; exact pe_bm pa slot hty hm ho ha hbase hfew hline hs hplain
theorem kSFld {o value : Expr} {f : Str} {pos' : Pos} {ta tv : TE} (ha : PE X o ta) (hv : PE X value tv) (hs : swapsWith value (some (.Attribute o f pos')) pos.line X.env = pure false) (h : X.K = K := by rfl) : PS X (.Assign [.Attribute o f pos'] value pos) (sFld K ta tv f) := by subst h; exact ps_fld ha hv hs
theorem kSFldA {o value : Expr} {f : Str} {tpos : Pos} {ta tv : TE} {op : Operator} {rd : V → V → Hp → VK → Prop} (ha : PE X o ta) (hv : PE X value tv) (hop : InOp X op rd) (h : X.K = K := by rfl) : PS X (.AugAssign (.Attribute o f tpos) op value pos) (sFldAug K ta tv rd f) := by subst h; exact ps_fldaug ha hv hop
theorem kFld {f : Str} (he : PE X l tl) (hb : attributeBase l f X.env (eval l X.env) = eval l X.env) (h : X.K = K := by rfl) : PE X (.Attribute l f pos) (tFld K tl f) := by subst h; exact pe_fld he hb
end
end
/-! ### xs.count(y), flat items -/
theorem countP_eqU {x : V} {v : Value} (rx : RelV x v) : ∀ {xs : List V} {us : List Value}, Vals xs us → xs.all flatV = true → us.countP (eqU x) = xs.countP fun y => eqV y x
  | _, _, .nil, _ => rfl
  | y :: xs, u :: us, .cons r t, f => by
    rw [List.all_cons, Bool.and_eq_true] at f
    rw [List.countP_cons, List.countP_cons, countP_eqU rx t f.2, eqU_of r f.1]
def rCount (K : PySem.W.Frag) : V → List V → Hp → VK → Prop := fun x vs H Q => ∃ (p : Addr) (xs : List V) (y : V), x = .ref p ∧ vs = [y] ∧ SqL K H p xs ∧ flatV y = true ∧ xs.all flatV = true ∧ Q (.int (xs.countP (fun z => eqV z y) : Nat)) H
theorem kCount {X : Cx} (K : PySem.W.Frag) (h : X.K = K := by rfl) : MtR X "list.count" (rCount K) := by
  subst h
  intro pins s0 σ H x vs u us Q I r1 r2 hh
  obtain ⟨p, xs, y, rfl, rfl, hl, fy, fx, q⟩ := hh
  cases r1
  cases r2 with
  | cons ry rn =>
    cases rn
    obtain ⟨ws, rel, ⟨⟨c0, d0, dat, sl0⟩, n, ho, hc, _, hd⟩, _⟩ := I.list hl
    dsimp only at hc hd
    subst hc hd
    refine call_meets PySem.F.slot_list_count ⟨_, ho, rfl⟩ PySem.F.entry_list_count (PySem.F.args_list_count_2 _ _)
      (SeqAt.list_countAt p ws.toArray n d0 sl0 _ (eqU y)) ⟨ho, fun z hz => mem_eqAt ry fy rel fx z (by simpa using hz), ?_⟩
    refine ⟨.int (xs.countP (fun z => eqV z y) : Nat), H, I.tok _, ⟨s0.toks, ?_⟩, q⟩
    rw [← countP_eqU ry rel fx]
/-! ### a def by its name -/
section
variable {P : Program} {w : World} {K : PySem.W.Frag} {mg : Str → Option Value} {base : Heap}
structure Dfn (P : Program) (w : World) (K : PySem.W.Frag) (mg : Str → Option Value) (base : Heap) (CX : CXT) (k : Nat) (x : Str) (ps : List Str) (sp : Sp) : Prop where
  ex : ∃ f fd, FnOk P w K mg base CX k f fd ps sp ∧ mg x = some (.ref f) ∧ PySem.W.keepIn K (.ref f) = true ∧ Binds K fd ps []
theorem Dfn.imp {CX : CXT} {k : Nat} {x : Str} {ps : List Str} {sp sp' : Sp} (D : Dfn P w K mg base CX k x ps sp) (h : ∀ vs H Q E, sp' vs H Q E → sp vs H Q E) : Dfn P w K mg base CX k x ps sp' := by
  obtain ⟨f, fd, F, a, b, c⟩ := D.ex
  exact ⟨f, fd, F.imp h, a, b, c⟩
end
section
variable {X : Cx} {CX : CXT} {k : Nat} {x : Str} {ps : List Str} {sp : Sp} {E : XK} {t : TA} {e : Expr} {es : List Expr} {p pos : Pos}
theorem pe_dcall (D : Dfn X.prog X.w X.K X.mg X.base CX k x ps sp) (hr : Room k X.A) (hg : Gl X x) (hx : Passes CX X E) (ha : PA X (e :: es) t) (hdb : (x == ("__debug__" : Str)) = false := by decide)
    (he : starEach (e :: es) X.env = (false, eval e X.env) :: starEach es X.env := by rfl) (hpl : (backTo pos (starEach es X.env)).any (·.1) = false := by rfl) : PE X (.Call (.Name x p) (e :: es) [] pos) (tCall sp [] E t) := by
  obtain ⟨f, fd, F, hm, hk, hb⟩ := D.ex
  exact pe_call F hr hg hm hk hb .nil hx ha hdb he hpl
theorem pe_dcall0 (D : Dfn X.prog X.w X.K X.mg X.base CX k x ps sp) (hr : Room k X.A) (hg : Gl X x) (hx : Passes CX X E) (hdb : (x == ("__debug__" : Str)) = false := by decide) : PE X (.Call (.Name x p) [] [] pos) (tCall sp [] E tNil) := by
  obtain ⟨f, fd, F, hm, hk, hb⟩ := D.ex
  exact pe_call0 F hr hg hm hk hb .nil hx hdb
end
/-! ### own errors, objects, methods by their names -/
/-- an own error class without an __init__, over ValueError -/
structure Exn (K : PySem.W.Frag) (mg : Str → Option Value) (x : Str) (C : Addr) : Prop where
  gC : mg x = some (.ref C)
  kC : PySem.W.keepIn K (.ref C) = true
  xI : PySem.W.excIn K C [.type "ValueError", .type "Exception", .type "BaseException", .type "object"] "ValueError.__new__" = true
  bE : PySem.W.subIn K (.ref C) (.type "BaseException") = some true
  tE : PySem.W.typeIn K (.ref C) = some (.type "type")
  eE : PySem.W.exmOne K (.ref C) (.ref C) = some true
section
variable {X : Cx} {C : Addr} {x : Str} {p pos : Pos}
/-- X() of such a class -/
theorem pmk_x (N : Exn X.K X.mg x C) (hg : Gl X x) (hdb : (x == ("__debug__" : Str)) = false := by decide) : PMk X (.Call (.Name x p) [] [] pos) (fun _ H Q => Q (.ref C) none H) := fun pins s σ H Q I h => by
  refine wpAny_Call_Name_kw (ld_glob I hg N.gC ?_ hdb)
  refine PySem.W.callWith_K0 (first := []) I.kIn N.kC ?_
  obtain ⟨m1, m2, m3, m4, m5, m6, m7, m8, m9, m10, m11, r0, r1, r2, r3, r4, mN, hC, hN, hi, tl⟩ := exc_obj I.kIn N.xI
  exact wpAny_call_exc_subT PySem.F.excBase_ValueError tl hC hN hi (fun _ _ made => mk_of I made (raises_own N.bE N.tE) h (I.hok.gone made.new)) (Nat.zero_le _)
end
section
variable {P : Program} {w : World} {K : PySem.W.Frag} {mg : Str → Option Value} {base : Heap}
/-- a method of the class at C -/
structure Mth (P : Program) (w : World) (K : PySem.W.Frag) (mg : Str → Option Value) (base : Heap) (CX : CXT) (k : Nat) (C : Addr) (m : Str) (ps : List Str) (sp : Sp) : Prop where
  ex : ∃ f fd, FnOk P w K mg base CX k f fd ps sp ∧ Meth K C m f ∧ Binds K fd ps [] ∧ Cls K C
/-- the making of its instances -/
structure Mkr (P : Program) (w : World) (K : PySem.W.Frag) (mg : Str → Option Value) (base : Heap) (CX : CXT) (k : Nat) (x : Str) (C : Addr) (ps : List Str) (sp : Sp) : Prop where
  ex : ∃ f fd, Mk K C f ∧ FnOk P w K mg base CX k f fd ps sp ∧ Binds K fd ps [] ∧ mg x = some (.ref C)
end
section
variable {X : Cx} {CX : CXT} {k : Nat} {C : Addr} {m x : Str} {ps : List Str} {sp : Sp} {E : XK} {t : TA} {ta : TE} {e o : Expr} {es : List Expr} {p pos apos : Pos}
theorem pe_dmeth {pl : Sem Bool} (he : PE X o ta) (D : Mth X.prog X.w X.K X.mg X.base CX k C m ps sp) (hr : Room k X.A) (hx : Passes CX X E) (ha : PA X (e :: es) t)
    (hst : starEach (e :: es) X.env = (false, eval e X.env) :: starEach es X.env := by rfl) (hpl : (backTo pos (starEach es X.env)).any (·.1) = false := by rfl)
    (ht : eval (.Call (.Attribute o m apos) (e :: es) [] pos) X.env = (do
      let ov ← eval o X.env
      standAt apos.atName
      let (f, first) ← holding [ov] (getMethod ov m pl)
      callWith pos f first (backTo pos (starEach (e :: es) X.env)) (backToKw pos (keywordEach [] X.env))) := by rfl) :
    PE X (.Call (.Attribute o m apos) (e :: es) [] pos) (tMeth C m sp [] E ta t) := by
  obtain ⟨f, fd, F, hm, hb, c⟩ := D.ex
  exact pe_meth (pl := pl) he c hm F hr hb .nil hx ha hst hpl ht
theorem pe_dmeth0 {pl : Sem Bool} (he : PE X o ta) (D : Mth X.prog X.w X.K X.mg X.base CX k C m ps sp) (hr : Room k X.A) (hx : Passes CX X E)
    (ht : eval (.Call (.Attribute o m apos) [] [] pos) X.env = (do
      let ov ← eval o X.env
      standAt apos.atName
      let (f, first) ← holding [ov] (getMethod ov m pl)
      callWith pos f first (backTo pos (starEach [] X.env)) (backToKw pos (keywordEach [] X.env))) := by rfl) :
    PE X (.Call (.Attribute o m apos) [] [] pos) (tMeth C m sp [] E ta tNil) := by
  obtain ⟨f, fd, F, hm, hb, c⟩ := D.ex
  exact pe_meth0 (pl := pl) he c hm F hr hb .nil hx ht
theorem pe_dmake (D : Mkr X.prog X.w X.K X.mg X.base CX k x C ps sp) (hr : Room (k + 1) X.A) (hg : Gl X x) (hx : Passes CX X E) (ha : PA X (e :: es) t) (hdb : (x == ("__debug__" : Str)) = false := by decide)
    (he : starEach (e :: es) X.env = (false, eval e X.env) :: starEach es X.env := by rfl) (hpl : (backTo pos (starEach es X.env)).any (·.1) = false := by rfl) : PE X (.Call (.Name x p) (e :: es) [] pos) (tMake C sp [] E t) := by
  obtain ⟨f, fd, M, F, hb, hm⟩ := D.ex
  exact pe_make M F hr hg hm hb .nil hx ha hdb he hpl
/-- out of a try's body: what is wished at all slots -/
abbrev EA (W : WX) : XK := fun cls d H => ∀ σ, W cls d σ H
theorem passT {W : WX} (tk : Takes X W) : Passes (L2.CX X.prog X.w) X (EA W) := passes_call tk fun _ _ σ _ h => h σ
end
/-! ### heaps -/
/-- all but a is kept -/
def Chg (a : Addr) (H H' : Hp) : Prop := ∀ b o, b ≠ a → H b = some o → H' b = some o
/-- tuples never change -/
def TS (H H' : Hp) : Prop := ∀ b xs, H b = some (.tup xs) → H' b = some (.tup xs)
theorem TS.refl (H : Hp) : TS H H := fun _ _ h => h
theorem TS.trans {H H1 H2 : Hp} (a : TS H H1) (b : TS H1 H2) : TS H H2 := fun c xs h => b c xs (a c xs h)
theorem Same.ts {H H' : Hp} (s : Same H H') : TS H H' := fun b xs h => s b _ h
theorem Chg.refl (a : Addr) (H : Hp) : Chg a H H := fun _ _ _ h => h
theorem Chg.trans {a : Addr} {H H1 H2 : Hp} (x : Chg a H H1) (y : Chg a H1 H2) : Chg a H H2 := fun b o n h => y b o n (x b o n h)
theorem Same.chg {a : Addr} {H H' : Hp} (s : Same H H') : Chg a H H' := fun b o _ h => s b o h
theorem Same.new {H : Hp} {p : Addr} {o : HO} (h : H p = none) : Same H (upd H p o) := fun b u e => by
  rw [upd_ne (ne_of_none e h)]
  exact e
theorem Chg.upd {a : Addr} {H : Hp} {o : HO} : Chg a H (upd H a o) := fun b u n e => by
  rw [upd_ne n]
  exact e
theorem Chg.ts {a : Addr} {H H' : Hp} {xs : List V} (c : Chg a H H') (h : H a = some (.lst xs)) : TS H H' := fun b ys e => c b _ (ne_of e h (by intro z; cases z)) e
/-- a new object may change at will -/
theorem Same.mut {H H' : Hp} {p : Addr} {o : HO} (s : Same H H') (h : H p = none) : Same H (L2.upd H' p o) := fun b u e => by
  rw [upd_ne (ne_of_none e h)]
  exact s b u e
theorem Chg.mut {a : Addr} {H H' : Hp} {p : Addr} {o : HO} (s : Chg a H H') (h : H p = none) : Chg a H (L2.upd H' p o) := fun b u n e => by
  rw [upd_ne (ne_of_none e h)]
  exact s b u n e
/-- a word that the steps do not look into -/
@[irreducible] def Hide (p : Prop) : Prop := p
theorem hide {p : Prop} (h : p) : Hide p := by unfold Hide; exact h
theorem Hide.out {p : Prop} (h : Hide p) : p := by unfold Hide at h; exact h
/-! ### small lemmas of readings -/
theorem iteD {c : Prop} [Decidable c] {A B : Prop} (h1 : c → A) (h2 : ¬ c → B) : if decide c = true then A else B := by
  by_cases h : c
  · rw [if_pos (decide_eq_true h)]; exact h1 h
  · rw [if_neg (by rw [decide_eq_false h]; decide)]; exact h2 h
theorem iteDn {c : Prop} [Decidable c] {A B : Prop} (h1 : ¬ c → A) (h2 : c → B) : if (!decide c) = true then A else B := by
  by_cases h : c
  · rw [if_neg (by rw [decide_eq_true h]; decide)]; exact h2 h
  · rw [if_pos (by rw [decide_eq_false h]; rfl)]; exact h1 h
theorem iteB {b : Bool} {A B : Prop} (h1 : b = true → A) (h2 : b = false → B) : if b = true then A else B := by
  cases b
  · rw [if_neg Bool.false_ne_true]; exact h2 rfl
  · rw [if_pos rfl]; exact h1 rfl
theorem at0 {a : V} {l : List V} : atI (a :: l) 0 = some a := by
  rw [show (0 : Int) = ((0 : Nat) : Int) from rfl]; exact atI_nat (by rfl)
theorem atC {xs : List V} {i : Int} {v : V} (j : Nat) (e : i = (j : Int)) (h : xs[j]? = some v) : atI xs i = some v := by rw [e]; exact atI_nat h
theorem ixC {n : Nat} {i : Int} (j : Nat) (e : i = (j : Int)) (h : j < n) : ixN n i = some j := by
  subst e
  unfold ixN
  rw [if_pos (by omega), if_pos (by omega)]
  simp
theorem szl {n : Nat} (h : Nat.ble n 100 = true) : n ≤ sizeLine := Nat.le_trans (Nat.le_of_ble_eq_true h) (by decide)
theorem szn {n : Nat} (h : n ≤ 100000) : n ≤ sizeLine := Nat.le_trans h (by decide)
theorem szt {n : Nat} (h : n < 100000) : n < sizeLine := Nat.lt_of_lt_of_le h (by decide)
/-! ### data over the heap -/
mutual
inductive Dt (H : Hp) : V → PyData → Prop
  | non : Dt H .non .none
  | bl (b : Bool) : Dt H (.bl b) (.bool b)
  | int (i : Int) : Dt H (.int i) (.int i)
  | str (x : Str) : Dt H (.str x) (.str x)
  | lst {a : Addr} {xs : List V} {ds : List PyData} : H a = some (.lst xs) → DtAll H xs ds → Dt H (.ref a) (.list ds)
  | tup {a : Addr} {xs : List V} {ds : List PyData} : H a = some (.tup xs) → DtAll H xs ds → Dt H (.ref a) (.tuple ds)
inductive DtAll (H : Hp) : List V → List PyData → Prop
  | nil : DtAll H [] []
  | cons {v : V} {vs : List V} {d : PyData} {ds : List PyData} : Dt H v d → DtAll H vs ds → DtAll H (v :: vs) (d :: ds)
end
mutual
def tonly : PyData → Bool
  | .list _ => false
  | .dict _ => false
  | .tuple xs => tonlyAll xs
  | _ => true
def tonlyAll : List PyData → Bool
  | [] => true
  | x :: xs => tonly x && tonlyAll xs
end
mutual
theorem Dt.same {H H' : Hp} (s : Same H H') : ∀ {d : PyData} {v : V}, Dt H v d → Dt H' v d
  | .none, _, h => by cases h; exact .non
  | .bool b, _, h => by cases h; exact .bl b
  | .int i, _, h => by cases h; exact .int i
  | .str x, _, h => by cases h; exact .str x
  | .list ds, _, h => by
    cases h with
    | lst ha hs => exact .lst (s _ _ ha) (DtAll.same s hs)
  | .tuple ds, _, h => by
    cases h with
    | tup ha hs => exact .tup (s _ _ ha) (DtAll.same s hs)
  | .dict _, _, h => by cases h
theorem DtAll.same {H H' : Hp} (s : Same H H') : ∀ {ds : List PyData} {vs : List V}, DtAll H vs ds → DtAll H' vs ds
  | [], _, h => by cases h; exact .nil
  | d :: ds, _, h => by
    cases h with
    | cons h1 h2 => exact .cons (Dt.same s h1) (DtAll.same s h2)
end
mutual
theorem Dt.ts {H H' : Hp} (s : TS H H') : ∀ {d : PyData} {v : V}, tonly d = true → Dt H v d → Dt H' v d
  | .none, _, _, h => by cases h; exact .non
  | .bool b, _, _, h => by cases h; exact .bl b
  | .int i, _, _, h => by cases h; exact .int i
  | .str x, _, _, h => by cases h; exact .str x
  | .list ds, _, t, h => by unfold tonly at t; cases t
  | .tuple ds, _, t, h => by
    unfold tonly at t
    cases h with
    | tup ha hs => exact .tup (s _ _ ha) (DtAll.ts s t hs)
  | .dict _, _, _, h => by cases h
theorem DtAll.ts {H H' : Hp} (s : TS H H') : ∀ {ds : List PyData} {vs : List V}, tonlyAll ds = true → DtAll H vs ds → DtAll H' vs ds
  | [], _, _, h => by cases h; exact .nil
  | d :: ds, _, t, h => by
    unfold tonlyAll at t
    rw [Bool.and_eq_true] at t
    cases h with
    | cons h1 h2 => exact .cons (Dt.ts s t.1 h1) (DtAll.ts s t.2 h2)
end
mutual
theorem Dt.dp {K : PySem.W.Frag} {H : Hp} : ∀ {d : PyData} {v : V}, Dt H v d → Dp K H v d
  | .none, _, h => by cases h; exact .non
  | .bool b, _, h => by cases h; exact .bl b
  | .int i, _, h => by cases h; exact .int i
  | .str x, _, h => by cases h; exact .str x
  | .list ds, _, h => by
    cases h with
    | lst ha hs => exact .lst (SqL.of ha) (DtAll.dp hs)
  | .tuple ds, _, h => by
    cases h with
    | tup ha hs => exact .tup (SqT.of ha) (DtAll.dp hs)
  | .dict _, _, h => by cases h
theorem DtAll.dp {K : PySem.W.Frag} {H : Hp} : ∀ {ds : List PyData} {vs : List V}, DtAll H vs ds → DpAll K H vs ds
  | [], _, h => by cases h; exact .nil
  | d :: ds, _, h => by
    cases h with
    | cons h1 h2 => exact .cons (Dt.dp h1) (DtAll.dp h2)
end
theorem DtAll.len {H : Hp} : ∀ {ds : List PyData} {vs : List V}, DtAll H vs ds → vs.length = ds.length
  | [], _, h => by cases h; rfl
  | d :: ds, _, h => by
    cases h with
    | cons h1 h2 => rw [List.length_cons, List.length_cons, DtAll.len h2]
theorem DtAll.get {H : Hp} : ∀ {ds : List PyData} {vs : List V} {i : Nat} {d : PyData}, DtAll H vs ds → ds[i]? = some d → ∃ v, vs[i]? = some v ∧ Dt H v d
  | [], _, i, d, h, e => by simp at e
  | d :: ds, _, 0, d', h, e => by
    cases h with
    | cons h1 h2 => simp at e; subst e; exact ⟨_, rfl, h1⟩
  | d :: ds, _, i + 1, d', h, e => by
    cases h with
    | cons h1 h2 =>
      obtain ⟨v, a, b⟩ := DtAll.get (i := i) h2 (by simpa using e)
      exact ⟨v, by simpa using a, b⟩
theorem DtAll.getV {H : Hp} : ∀ {ds : List PyData} {vs : List V} {i : Nat} {v : V}, DtAll H vs ds → vs[i]? = some v → ∃ d, ds[i]? = some d ∧ Dt H v d
  | [], _, i, d, h, e => by cases h; simp at e
  | d :: ds, _, 0, d', h, e => by
    cases h with
    | cons h1 h2 => simp at e; subst e; exact ⟨_, rfl, h1⟩
  | d :: ds, _, i + 1, d', h, e => by
    cases h with
    | cons h1 h2 =>
      obtain ⟨v, a, b⟩ := DtAll.getV (i := i) h2 (by simpa using e)
      exact ⟨v, by simpa using a, b⟩
theorem DtAll.append {H : Hp} : ∀ {ds es : List PyData} {vs us : List V}, DtAll H vs ds → DtAll H us es → DtAll H (vs ++ us) (ds ++ es)
  | [], _, _, _, h, h' => by cases h; exact h'
  | d :: ds, _, _, _, h, h' => by
    cases h with
    | cons h1 h2 => exact .cons h1 (DtAll.append h2 h')
/-! ### data that == may look at -/
theorem lay_all : ∀ {ds : List PyData}, (∀ d ∈ ds, d.canLay0 = true) → PyData.canLayAll0 ds = true
  | [], _ => by rw [PyData.canLayAll0]
  | d :: ds, h => by
    rw [PyData.canLayAll0, h d List.mem_cons_self, lay_all fun e he => h e (List.mem_cons_of_mem _ he)]; rfl
theorem dep_all {n : Nat} : ∀ {ds : List PyData}, (∀ d ∈ ds, d.depth ≤ n) → PyData.depthAll ds ≤ n
  | [], _ => by rw [PyData.depthAll]; exact Nat.zero_le _
  | d :: ds, h => by
    rw [PyData.depthAll]
    exact Nat.max_le.mpr ⟨h d List.mem_cons_self, dep_all fun e he => h e (List.mem_cons_of_mem _ he)⟩
/-- shaped, of so little depth -/
def Sh (n : Nat) (d : PyData) : Prop := d.canLay0 = true ∧ d.depth ≤ n
theorem Sh.int (n : Nat) (i : Int) : Sh n (.int i) := ⟨by rw [PyData.canLay0], by rw [PyData.depth]; exact Nat.zero_le _⟩
theorem Sh.bool (n : Nat) (i : Bool) : Sh n (.bool i) := ⟨by rw [PyData.canLay0], by rw [PyData.depth]; exact Nat.zero_le _⟩
theorem Sh.none (n : Nat) : Sh n .none := ⟨by rw [PyData.canLay0], by rw [PyData.depth]; exact Nat.zero_le _⟩
theorem Sh.tup {n : Nat} {ds : List PyData} (h : ∀ d ∈ ds, Sh n d) : Sh (n + 1) (.tuple ds) := ⟨by rw [PyData.canLay0]; exact lay_all fun d hd => (h d hd).1, by rw [PyData.depth]; exact Nat.succ_le_succ (dep_all fun d hd => (h d hd).2)⟩
theorem Sh.lst {n : Nat} {ds : List PyData} (h : ∀ d ∈ ds, Sh n d) : Sh (n + 1) (.list ds) := ⟨by rw [PyData.canLay0]; exact lay_all fun d hd => (h d hd).1, by rw [PyData.depth]; exact Nat.succ_le_succ (dep_all fun d hd => (h d hd).2)⟩
theorem Sh.ok {n : Nat} {d : PyData} (h : Sh n d) (hn : n ≤ 64 := by decide) : SeqAt.shaped d = true := by
  unfold SeqAt.shaped
  rw [h.1, decide_eq_true (Nat.le_trans h.2 hn)]; rfl
def tyName : PyData → String
  | .none => "NoneType"
  | .bool _ => "bool"
  | .int _ => "int"
  | .str _ => "str"
  | .list _ => "list"
  | .tuple _ => "tuple"
  | .dict _ => "dict"
theorem Dt.ty {K : PySem.W.Frag} {H : Hp} : ∀ {d : PyData} {v : V}, Dt H v d → TyX K H v (.type (tyName d))
  | .none, _, h => by cases h; exact .base .non
  | .bool b, _, h => by cases h; exact .base (.bl b)
  | .int i, _, h => by cases h; exact .base (.int i)
  | .str x, _, h => by cases h; exact .base (.str x)
  | .list ds, _, h => by
    cases h with
    | lst ha hs => exact .base (.lst ha)
  | .tuple ds, _, h => by
    cases h with
    | tup ha hs => exact .base (.tup ha)
  | .dict _, _, h => by cases h
def isNoneD : PyData → Bool
  | .none => true
  | _ => false
theorem Dt.isNon {H : Hp} {d : PyData} {v : V} (h : Dt H v d) : decide (v = V.non) = isNoneD d := by
  cases h <;> rfl
def isIntD : PyData → Bool
  | .int _ => true
  | .bool _ => true
  | _ => false
def isBoolD : PyData → Bool
  | .bool _ => true
  | _ => false
def isTupD : PyData → Bool
  | .tuple _ => true
  | _ => false
def isListD : PyData → Bool
  | .list _ => true
  | _ => false
theorem kitInt : ∀ d : PyData, kitB (tyName d) "int" = some (isIntD d)
  | .none => (by decide +kernel : kitB "NoneType" "int" = some false)
  | .bool _ => (by decide +kernel : kitB "bool" "int" = some true)
  | .int _ => (by decide +kernel : kitB "int" "int" = some true)
  | .str _ => (by decide +kernel : kitB "str" "int" = some false)
  | .list _ => (by decide +kernel : kitB "list" "int" = some false)
  | .tuple _ => (by decide +kernel : kitB "tuple" "int" = some false)
  | .dict _ => (by decide +kernel : kitB "dict" "int" = some false)
theorem kitBool : ∀ d : PyData, kitB (tyName d) "bool" = some (isBoolD d)
  | .none => (by decide +kernel : kitB "NoneType" "bool" = some false)
  | .bool _ => (by decide +kernel : kitB "bool" "bool" = some true)
  | .int _ => (by decide +kernel : kitB "int" "bool" = some false)
  | .str _ => (by decide +kernel : kitB "str" "bool" = some false)
  | .list _ => (by decide +kernel : kitB "list" "bool" = some false)
  | .tuple _ => (by decide +kernel : kitB "tuple" "bool" = some false)
  | .dict _ => (by decide +kernel : kitB "dict" "bool" = some false)
theorem kitTup : ∀ d : PyData, kitB (tyName d) "tuple" = some (isTupD d)
  | .none => (by decide +kernel : kitB "NoneType" "tuple" = some false)
  | .bool _ => (by decide +kernel : kitB "bool" "tuple" = some false)
  | .int _ => (by decide +kernel : kitB "int" "tuple" = some false)
  | .str _ => (by decide +kernel : kitB "str" "tuple" = some false)
  | .list _ => (by decide +kernel : kitB "list" "tuple" = some false)
  | .tuple _ => (by decide +kernel : kitB "tuple" "tuple" = some true)
  | .dict _ => (by decide +kernel : kitB "dict" "tuple" = some false)
theorem kitList : ∀ d : PyData, kitB (tyName d) "list" = some (isListD d)
  | .none => (by decide +kernel : kitB "NoneType" "list" = some false)
  | .bool _ => (by decide +kernel : kitB "bool" "list" = some false)
  | .int _ => (by decide +kernel : kitB "int" "list" = some false)
  | .str _ => (by decide +kernel : kitB "str" "list" = some false)
  | .list _ => (by decide +kernel : kitB "list" "list" = some true)
  | .tuple _ => (by decide +kernel : kitB "tuple" "list" = some false)
  | .dict _ => (by decide +kernel : kitB "dict" "list" = some false)
theorem r_isi {K : PySem.W.Frag} {H : Hp} {v : V} {d : PyData} {T : String} {b : Bool} {Q : VK} (h : Dt H v d) (e : kitB (tyName d) T = some b) (k : Q (.bl b) H) : rIsi K [v, .ty T] H Q :=
  ⟨_, _, _, _, _, rfl, .ty _, h.ty, kit_ty e, k⟩
/-- lo ≤ i ≤ hi, of a whole number -/
def isI (d : PyData) (lo hi : Int) : Bool := match d with
  | .int i => decide (lo ≤ i) && decide (i ≤ hi)
  | _ => false
def geI (d : PyData) (lo : Int) : Bool := match d with
  | .int i => decide (lo ≤ i)
  | _ => false
def spGe : Sp := fun vs H Q _ => ∃ v d lo, vs = [v, .int lo] ∧ Dt H v d ∧ Q (.bl (geI d lo)) H
def spBtw : Sp := fun vs H Q _ => ∃ v d lo hi, vs = [v, .int lo, .int hi] ∧ Dt H v d ∧ Q (.bl (isI d lo hi)) H
def spIdx : Sp := fun vs H Q _ => ∃ v d n, vs = [v, .int n] ∧ Dt H v d ∧ Q (.bl (isI d 0 (n - 1))) H
def spWord : Sp := fun vs H Q _ => ∃ v d, vs = [v] ∧ Dt H v d ∧ Q (.bl (isI d 0 4294967295)) H
theorem Dt.new {H : Hp} {p : Addr} {xs : List V} {ds : List PyData} (h : DtAll H xs ds) (hp : H p = none) : Dt (upd H p (.tup xs)) (.ref p) (.tuple ds) := .tup upd_same (h.same (Same.new hp))
/-- t + u of data -/
theorem r_catD {K : PySem.W.Frag} {H : Hp} {v u : V} {ds es : List PyData} {Q : VK} (h1 : Dt H v (.tuple ds)) (h2 : Dt H u (.tuple es)) (hz : ds.length + es.length ≤ 100000) (k : ∀ v' H', Same H H' → Dt H' v' (.tuple (ds ++ es)) → Q v' H') : rCatA K v u H Q := by
  cases h1 with
  | @tup a xs _ ha hs =>
    cases h2 with
    | @tup b ys _ hb ht =>
      refine ⟨a, b, xs, ys, rfl, rfl, SqT.of ha, SqT.of hb, szn (by rw [hs.len, ht.len]; exact hz), fun e => ?_, fun _ e => ?_, fun _ _ p hp => ?_⟩
      · subst e
        have : ds = [] := List.length_eq_zero_iff.mp (by rw [← hs.len]; rfl)
        subst this
        exact k _ _ (Same.refl H) (.tup hb ht)
      · subst e
        have : es = [] := List.length_eq_zero_iff.mp (by rw [← ht.len]; rfl)
        subst this
        rw [List.append_nil] at k
        exact k _ _ (Same.refl H) (.tup ha hs)
      · exact k _ _ (Same.new hp) (Dt.new (hs.append ht) hp)
/-! ### comprehensions whose elements change nothing that stood -/
theorem take_snoc {α : Type} {l : List α} {i : Nat} {y : α} (h : l[i]? = some y) : l.take i ++ [y] = l.take (i + 1) := by
  rw [List.take_add_one, h]; rfl
section
variable {K : PySem.W.Frag} {g : TG} {te : TE} {vs : List Nat} {σ : L2.St} {H : Hp} {D : Addr} {Qd : Hp → Prop}
/-- over a tuple: ys are the elements -/
theorem lcT {a : Addr} {xs : List V} (ys : List V) (hl : ys.length = xs.length) (hz : xs.length < 100000) (hx : H a = some (.tup xs)) (hD : H D = none)
    (step : ∀ (j : Nat) (x y : V) (H1 : Hp) (Q' : VK), xs[j]? = some x → ys[j]? = some y → Same H H1 → (∀ H2, Same H1 H2 → Q' y H2) → g x (wipe σ vs) H1 fun σ2 H2 => wipe σ2 vs = wipe σ vs ∧ te σ2 H2 Q')
    (k : ∀ H1, Same H H1 → H1 D = some (.lst ys) → Qd H1) :
    ∃ W : Nat → Nat → Hp → Prop, (∃ m, W 0 m (upd H D (.lst []))) ∧ ∀ i m H, W i m H →
      ((Itt K a).stop i H ∧ Qd H) ∨ ((Itt K a).go i H ∧ ∃ Nx : Hp → Prop, (∀ H', Nx H' → ∃ m', m' < m ∧ W (i + 1) m' H') ∧ ∀ x H', (Itt K a).yld i H x H' → g x (wipe σ vs) H' fun σ2 H2 => wipe σ2 vs = wipe σ vs ∧ tYes σ2 H2 fun b H3 =>
        if b = true then te σ2 H3 fun y H4 => ∃ acc, H4 D = some (.lst acc) ∧ acc.length < sizeLine ∧ Nx (upd H4 D (.lst (acc ++ [y]))) else Nx H3) := by
  refine lc_tup (K := K) (xs := xs) (fun i H1 => Same H H1 ∧ H1 D = some (.lst (ys.take i))) ⟨Same.new hD, upd_same⟩ (fun i H1 _ h => SqT.of (h.1 _ _ hx)) ?_ ?_
  · rintro i x H1 hi ⟨s1, d1⟩
    have hil : i < xs.length := (List.getElem?_eq_some_iff.mp hi).1
    have hy : ys[i]? = some ys[i] := List.getElem?_eq_getElem (by omega)
    refine step i x _ H1 _ hi hy s1 fun H2 s2 => ?_
    refine ⟨_, s2 _ _ d1, ?_, Same.mut (s1.trans s2) hD, ?_⟩
    · rw [List.length_take]
      exact Nat.lt_of_lt_of_le (Nat.lt_of_le_of_lt (Nat.min_le_right _ _) (by omega : ys.length < 100000)) (by decide)
    · rw [take_snoc hy]; exact upd_same
  · rintro H1 ⟨s1, d1⟩
    rw [List.take_of_length_le (by omega)] at d1
    exact k H1 s1 d1
/-- over a list: ys are the elements -/
theorem lcL {a : Addr} {xs : List V} (ys : List V) (hl : ys.length = xs.length) (hz : xs.length < 100000) (hx : H a = some (.lst xs)) (hD : H D = none)
    (step : ∀ (j : Nat) (x y : V) (H1 : Hp) (Q' : VK), xs[j]? = some x → ys[j]? = some y → Same H H1 → (∀ H2, Same H1 H2 → Q' y H2) → g x (wipe σ vs) H1 fun σ2 H2 => wipe σ2 vs = wipe σ vs ∧ te σ2 H2 Q')
    (k : ∀ H1, Same H H1 → H1 D = some (.lst ys) → Qd H1) :
    ∃ W : Nat → Nat → Hp → Prop, (∃ m, W 0 m (upd H D (.lst []))) ∧ ∀ i m H, W i m H →
      ((Itl K a).stop i H ∧ Qd H) ∨ ((Itl K a).go i H ∧ ∃ Nx : Hp → Prop, (∀ H', Nx H' → ∃ m', m' < m ∧ W (i + 1) m' H') ∧ ∀ x H', (Itl K a).yld i H x H' → g x (wipe σ vs) H' fun σ2 H2 => wipe σ2 vs = wipe σ vs ∧ tYes σ2 H2 fun b H3 =>
        if b = true then te σ2 H3 fun y H4 => ∃ acc, H4 D = some (.lst acc) ∧ acc.length < sizeLine ∧ Nx (upd H4 D (.lst (acc ++ [y]))) else Nx H3) := by
  refine lc_list (K := K) (xs := xs) (fun i H1 => Same H H1 ∧ H1 D = some (.lst (ys.take i))) ⟨Same.new hD, upd_same⟩ (fun i H1 _ h => SqL.of (h.1 _ _ hx)) ?_ ?_
  · rintro i x H1 hi ⟨s1, d1⟩
    have hil : i < xs.length := (List.getElem?_eq_some_iff.mp hi).1
    have hy : ys[i]? = some ys[i] := List.getElem?_eq_getElem (by omega)
    refine step i x _ H1 _ hi hy s1 fun H2 s2 => ?_
    refine ⟨_, s2 _ _ d1, ?_, Same.mut (s1.trans s2) hD, ?_⟩
    · rw [List.length_take]
      exact Nat.lt_of_lt_of_le (Nat.lt_of_le_of_lt (Nat.min_le_right _ _) (by omega : ys.length < 100000)) (by decide)
    · rw [take_snoc hy]; exact upd_same
  · rintro H1 ⟨s1, d1⟩
    rw [List.take_of_length_le (by omega)] at d1
    exact k H1 s1 d1
theorem lcR {lo : Int} {n : Nat} (ys : List V) (hl : ys.length = n) (hz : n < 100000) (hD : H D = none)
    (step : ∀ (j : Nat) (y : V) (H1 : Hp) (Q' : VK), ys[j]? = some y → Same H H1 → (∀ H2, Same H1 H2 → Q' y H2) → g (.int (lo + j)) (wipe σ vs) H1 fun σ2 H2 => wipe σ2 vs = wipe σ vs ∧ te σ2 H2 Q')
    (k : ∀ H1, Same H H1 → H1 D = some (.lst ys) → Qd H1) :
    ∃ W : Nat → Nat → Hp → Prop, (∃ m, W 0 m (upd H D (.lst []))) ∧ ∀ i m H, W i m H →
      ((Itr lo n).stop i H ∧ Qd H) ∨ ((Itr lo n).go i H ∧ ∃ Nx : Hp → Prop, (∀ H', Nx H' → ∃ m', m' < m ∧ W (i + 1) m' H') ∧ ∀ x H', (Itr lo n).yld i H x H' → g x (wipe σ vs) H' fun σ2 H2 => wipe σ2 vs = wipe σ vs ∧ tYes σ2 H2 fun b H3 =>
        if b = true then te σ2 H3 fun y H4 => ∃ acc, H4 D = some (.lst acc) ∧ acc.length < sizeLine ∧ Nx (upd H4 D (.lst (acc ++ [y]))) else Nx H3) := by
  refine lc_range (fun i H1 => Same H H1 ∧ H1 D = some (.lst (ys.take i))) ⟨Same.new hD, upd_same⟩ ?_ ?_
  · rintro i H1 hi ⟨s1, d1⟩
    have hy : ys[i]? = some ys[i] := List.getElem?_eq_getElem (by omega)
    refine step i _ H1 _ hy s1 fun H2 s2 => ?_
    refine ⟨_, s2 _ _ d1, ?_, Same.mut (s1.trans s2) hD, ?_⟩
    · rw [List.length_take]
      exact Nat.lt_of_lt_of_le (Nat.lt_of_le_of_lt (Nat.min_le_right _ _) (by omega : ys.length < 100000)) (by decide)
    · rw [take_snoc hy]; exact upd_same
  · rintro H1 ⟨s1, d1⟩
    rw [List.take_of_length_le (by omega)] at d1
    exact k H1 s1 d1
end
end My

namespace My
open PySem L2 PySem.Spec PyProof.Rows
section
variable {prog : Program} {w : World} {A : Around} {E : Value → Shared → Prop} {s : Shared}
theorem filter_take {α : Type} (f : Nat → Bool) (a : Nat) : ∀ (xs : List α) (k : Nat), (∀ j, k ≤ j → j < k + xs.length → f j = decide (a ≤ j)) → (xs.zipIdx k).filterMap (fun p => if f p.2 then none else some p.1) = xs.take (a - k)
  | [], k, _ => by simp
  | x :: xs, k, h => by
    rw [List.zipIdx_cons, List.filterMap_cons]
    have h0 := h k (Nat.le_refl _) (by simp)
    have ih := filter_take f a xs (k + 1) fun j h1 h2 => h j (by omega) (by simp; omega)
    by_cases q : a ≤ k
    · rw [show (a - k) = 0 by omega, List.take_zero]
      rw [show a - (k + 1) = 0 by omega, List.take_zero] at ih
      rw [h0, decide_eq_true q, if_pos rfl]
      exact ih
    · rw [h0, decide_eq_false q, if_neg Bool.false_ne_true]
      rw [show a - k = (a - (k + 1)) + 1 by omega, List.take_succ_cons]
      show x :: _ = _
      rw [ih]
theorem bounds_del {a n : Nat} : sliceBounds (some (a : Int)) none none n = (((min a n : Nat) : Int), (n : Int), 1) := by
  have h := slice_bounds (some (a : Int)) none n
  obtain ⟨h1, h2, h3⟩ := h
  rw [HT.sIx_nat] at h1
  rw [HT.sIx_none] at h2
  exact Prod.ext h1 (Prod.ext h2 h3)
theorem delItem_from {l sl : Addr} {items : List Value} {n : Nat} {vl : Value} {a : Nat} {Q : Unit → Shared → Prop}
    (e : s.heap.get? l = some { cls := .type "list", data := .seq items.toArray n }) (hs : s.heap.IsSliceOf sl vl .none .none) (pl : IsPart vl (some (a : Int)))
    (hsz : items.length ≤ sizeLine) (h : ∀ f : Array Value → Array Value, f items.toArray = (items.take a).toArray → Q () { s with heap := s.heap.update l (Obj.mapSeq f) }) :
    wpAny (model prog w) A (delItem (.ref l) (.ref sl)) Q E s := by
  have hl : s.heap.IsList l items.toArray := PySem.IsL.isList e
  obtain ⟨os, hos, hcs, hds⟩ := id hs
  have hTs : s.TypeIs (.ref sl) "slice" := ⟨os, hos, hcs⟩
  have hstep : ¬ ((rawPart none == rawInt 0) = true) := Bool.false_ne_true
  refine wpAny_delItem_slot hl.typeIs (by decide) PySem.F.slot_list_delitem (wpAny_call_entry PySem.F.slot_list_delitem hl.typeIs PySem.F.entry_list_delitem ?_ (PySem.F.args_list_delitem_2 _ _))
  show wpAny _ _ (Builtin.List.listSubscript? (.ref sl) >>= _) _ _ s
  refine wpAny_bind ?_
  unfold Builtin.List.listSubscript?
  refine wpAny_bind (wpAny_specialOf hTs slice_no_index ?_)
  simp only [Option.isNone_none, if_true]
  refine wpAny_pure ?_
  show wpAny _ _ (typeOf (.ref sl) >>= _) _ _ s
  refine wpAny_bind (wpAny_typeOf hTs ?_)
  refine PySem.W.KFB.if_not (by decide) ?_
  rw [listSliceParts_eq]
  refine wpAny_bind (wpAny_bind (wpAny_field hos hds (x := .none) rfl (wpAny_bind (wpAny_listPart .none ?_))))
  rw [if_neg hstep]
  refine wpAny_bind (wpAny_field hos hds (x := vl) rfl (wpAny_bind (wpAny_listPart pl ?_)))
  refine wpAny_bind (wpAny_field hos hds (x := .none) rfl (wpAny_bind (wpAny_listPart .none (wpAny_pure ?_))))
  refine wpAny_bind (listItems_at e rfl ?_)
  refine wpAny_bind (wpAny_of_eq ((sliceIndices_raw (some (a : Int)) none none items.toArray.size (by simp)).trans (congrArg (pure : Int × Int × Int → Sem (Int × Int × Int)) bounds_del)) ?_)
  refine wpAny_bind (wpAny_rule ?_)
  have hf : ((items.toArray.toList.zipIdx).filterMap fun p => if (decide (((min a items.toArray.size : Nat) : Int) ≤ (p.2 : Int)) && decide ((p.2 : Int) < ((items.toArray.size : Nat) : Int)) && (((p.2 : Int) - ((min a items.toArray.size : Nat) : Int)) % 1 == 0)) = true then none else some p.1) = items.take a := by
    have := filter_take (fun k => (decide (((min a items.toArray.size : Nat) : Int) ≤ (k : Int)) && decide ((k : Int) < ((items.toArray.size : Nat) : Int)) && (((k : Int) - ((min a items.toArray.size : Nat) : Int)) % 1 == 0))) a items 0 fun j h1 h2 => ?_
    · simpa using this
    · have e1 : (((j : Int) - ((min a items.toArray.size : Nat) : Int)) % 1 == 0) = true := by simp [Int.emod_one]
      have hj : j < items.length := by simpa using h2
      rw [e1, Bool.and_true, decide_eq_true (show (j : Int) < ((items.toArray.size : Nat) : Int) by simp; exact hj), Bool.and_true]
      apply decide_eq_decide.mpr
      simp only [List.size_toArray]
      omega
  refine wpAny_bind (listUpdate_at e rfl ?_ (by rw [List.size_toArray]; exact hsz) ?_)
  · refine wpAny_bind (wpAny_letGo ?_)
    refine wpAny_pure ⟨_, rfl, h _ ?_⟩
    exact congrArg List.toArray hf
  · refine Nat.le_trans (Nat.le_of_eq (congrArg Array.size (congrArg List.toArray hf))) ?_
    rw [List.size_toArray, List.length_take]
    omega
end
section
variable {X : Cx} {pos : Pos}
/-- del xs[a:] of a list, a no less than 0 -/
def tDelF (to tl : L2.TE) : L2.TS := fun D σ H => to σ H fun x H1 => tl σ H1 fun y H2 => ∃ (l : Addr) (xs : List V) (a : Int), x = .ref l ∧ y = .int a ∧ 0 ≤ a ∧ H2 l = some (.lst xs) ∧ D.nx σ (upd H2 l (.lst (xs.take a.toNat)))
theorem ps_delF {o lo : Expr} {to tl : L2.TE} {tpos p2 : Pos} (ho : PE X o to) (hl : PE X lo tl) : PS X (.Delete [.Subscript o (.Slice (some lo) none none p2) tpos] pos) (tDelF to tl) := by
  refine ⟨fun pins s σ H D I h => ?_⟩
  refine wpAny_Delete (wpAny_deleteEach_cons (wpAny_delete_Subscript (thn (ho.run pins s σ H _ I h) fun u s1 ⟨x, H1, I1, rx, q1⟩ => ?_)))
  refine wpAny_Slice ?_
  rw [evalPart_some]
  refine thn (hl.run pins s1 σ H1 _ I1 q1) fun vl s2 ⟨y, H2, I2, ry, q2⟩ => ?_
  rw [evalPart_none]
  refine wpAny_pure ?_
  refine wpAny_pure ?_
  obtain ⟨l, xs, a, ex, ey, a0, hH, q⟩ := q2
  subst ex
  subst ey
  cases (show u = Value.ref l from rx)
  obtain ⟨t, rfl⟩ := (show ∃ t, vl = Value.int a t from ry)
  obtain ⟨an, rfl⟩ := Int.eq_ofNat_of_zero_le a0
  have I4 : Inv X pins σ H2 { s2 with heap := s2.heap.push { cls := .type "slice", data := .fields #[.int an t, .none, .none] } } := I2.kept (t' := s2.toks) fun b ob q => Heap.get?_push_of_some _ q
  obtain ⟨z, its, n, r, hle, e⟩ := I4.lstM hH
  refine delItem_from (items := its) (a := an) e (Heap.IsSliceOf.new ..) (.int _ _) (by omega) fun f hf => ?_
  refine wpAny_deleteEach_nil ⟨σ, _, ?_, q⟩
  refine I4.lset (its' := its.take an) (t' := s2.toks) hH e hf ?_ ?_
  · exact r.take _
  · rw [List.length_take]; omega
end
section
variable {prog : Program} {w : World} {A : Around} {E : Value → Shared → Prop} {s : Shared}
theorem bounds_two {a c n : Nat} : sliceBounds (some (a : Int)) (some (c : Int)) none n = (((min a n : Nat) : Int), ((min c n : Nat) : Int), 1) := by
  obtain ⟨h1, h2, h3⟩ := slice_bounds (some (a : Int)) (some (c : Int)) n
  rw [HT.sIx_nat] at h1 h2
  exact Prod.ext h1 (Prod.ext h2 h3)
/-- xs[a:c] = ys of another list, a within xs, c anywhere behind -/
theorem setItem_two {l b sl : Addr} {items new : List Value} {n n2 : Nat} {vl vu : Value} {a c : Nat} {Q : Unit → Shared → Prop}
    (e : s.heap.get? l = some { cls := .type "list", data := .seq items.toArray n }) (e2 : s.heap.get? b = some { cls := .type "list", data := .seq new.toArray n2 }) (hne : l ≠ b)
    (hs : s.heap.IsSliceOf sl vl vu .none) (pl : IsPart vl (some (a : Int))) (pu : IsPart vu (some (c : Int))) (hac : a ≤ c) (ha : a ≤ items.length)
    (hsz : items.length + new.length ≤ sizeLine) (h : ∀ f : Array Value → Array Value, f items.toArray = (items.take a ++ new ++ items.drop c).toArray → Q () { s with heap := s.heap.update l (Obj.mapSeq f) }) :
    wpAny (model prog w) A (setItem (.ref l) (.ref sl) (.ref b)) Q E s := by
  have hl : s.heap.IsList l items.toArray := PySem.IsL.isList e
  have hb : s.heap.IsList b new.toArray := PySem.IsL.isList e2
  obtain ⟨os, hos, hcs, hds⟩ := id hs
  have hTs : s.TypeIs (.ref sl) "slice" := ⟨os, hos, hcs⟩
  have hstep : ¬ ((rawPart none == rawInt 0) = true) := Bool.false_ne_true
  have hsame : Builtin.List.listSameRef (.ref l) (.ref b) = false := by
    unfold Builtin.List.listSameRef
    exact beq_eq_false_iff_ne.mpr hne
  have hmin : min a items.toArray.size = a := by rw [List.size_toArray]; omega
  have hf : items.toArray.extract 0 (((min a items.toArray.size : Nat) : Int)).toNat ++ new.toArray ++ items.toArray.extract (max ((min a items.toArray.size : Nat) : Int) ((min c items.toArray.size : Nat) : Int)).toNat items.toArray.size = (items.take a ++ new ++ items.drop c).toArray := by
    have e1 : (max ((min a items.toArray.size : Nat) : Int) ((min c items.toArray.size : Nat) : Int)).toNat = min c items.length := by rw [hmin, List.size_toArray]; omega
    rw [e1, hmin, Int.toNat_natCast, splice_eq]
    congr 2
    rcases Nat.le_total c items.length with q | q
    · rw [Nat.min_eq_left q]
    · rw [Nat.min_eq_right q, List.drop_length, List.drop_eq_nil_of_le q]
  unfold setItem
  refine wpAny_holding ?_
  refine wpAny_bind (wpAny_sequenceKey hl.typeIs (by decide) ?_)
  refine wpAny_bind (wpAny_callSpecial?_slot (name := Str.ofString "__setitem__") hl.typeIs PySem.F.slot_list_setitem
    (wpAny_call_entry PySem.F.slot_list_setitem hl.typeIs PySem.F.entry_list_setitem ?_ (PySem.F.args_list_setitem_3 _ _ _)))
  show wpAny _ _ (Builtin.List.listSubscript? (.ref sl) >>= _) _ _ s
  refine wpAny_bind ?_
  unfold Builtin.List.listSubscript?
  refine wpAny_bind (wpAny_specialOf hTs slice_no_index ?_)
  simp only [Option.isNone_none, if_true]
  refine wpAny_pure ?_
  show wpAny _ _ (typeOf (.ref sl) >>= _) _ _ s
  refine wpAny_bind (wpAny_typeOf hTs ?_)
  refine PySem.W.KFB.if_not (by decide) ?_
  rw [listSliceParts_eq]
  refine wpAny_bind (wpAny_bind (wpAny_field hos hds (x := .none) rfl (wpAny_bind (wpAny_listPart .none ?_))))
  rw [if_neg hstep]
  refine wpAny_bind (wpAny_field hos hds (x := vl) rfl (wpAny_bind (wpAny_listPart pl ?_)))
  refine wpAny_bind (wpAny_field hos hds (x := vu) rfl (wpAny_bind (wpAny_listPart pu (wpAny_pure ?_))))
  refine PySem.W.KFB.if_not hsame ?_
  refine wpAny_bind (m := Builtin.List.listAllItems (.ref b) "must assign iterable to extended slice") ?_
  unfold Builtin.List.listAllItems
  refine wpAny_bind (wpAny_typeOf hb.typeIs ?_)
  refine PySem.W.KFB.if_so (by decide) ?_
  refine listItems_at e2 rfl ?_
  refine wpAny_bind (listItems_at e rfl ?_)
  refine wpAny_bind (wpAny_of_eq ((sliceIndices_raw (some (a : Int)) (some (c : Int)) none items.toArray.size (by simp)).trans (congrArg (pure : Int × Int × Int → Sem (Int × Int × Int)) bounds_two)) ?_)
  refine PySem.W.KFB.if_so (by rfl) ?_
  refine wpAny_bind (wpAny_rule ?_)
  refine PySem.W.KFB.if_not (notLongL (by rw [List.size_toArray, List.size_toArray]; exact hsz)) ?_
  refine wpAny_bind (listUpdate_at e rfl ?_ (by rw [List.size_toArray]; omega) ?_)
  · refine wpAny_bind (wpAny_letGo ?_)
    refine wpAny_pure ⟨_, rfl, wpAny_pure (h _ hf)⟩
  · refine Nat.le_trans (Nat.le_of_eq (congrArg Array.size hf)) ?_
    rw [List.size_toArray, List.length_append, List.length_append, List.length_take, List.length_drop]
    omega
end
section
variable {X : Cx} {pos : Pos}
/-- o[a:c] = a list -/
def gSetSl (to tl th : L2.TE) : L2.TG := fun v σ H Q => to σ H fun o H1 => tl σ H1 fun x H2 => th σ H2 fun y H3 => ∃ (l b : Addr) (xs ys : List V) (a c : Int), o = .ref l ∧ v = .ref b ∧ x = .int a ∧ y = .int c ∧ l ≠ b ∧ 0 ≤ a ∧ a ≤ c ∧ a ≤ xs.length ∧ H3 l = some (.lst xs) ∧ H3 b = some (.lst ys) ∧ xs.length + ys.length ≤ sizeLine ∧
  Q σ (upd H3 l (.lst (xs.take a.toNat ++ ys ++ xs.drop c.toNat)))
theorem pg_setSl {o lo hi : Expr} {to tl th : L2.TE} {p2 : Pos} (ho : PE X o to) (hl : PE X lo tl) (hh : PE X hi th)
    (ha : ∀ v, assign (.Subscript o (.Slice (some lo) (some hi) none p2) pos) X.env v = (do
      let ov ← holding [v] (eval o X.env)
      let iv ← holding [v, ov] (eval (.Slice (some lo) (some hi) none p2) X.env)
      standAt pos
      holding [v, ov, iv] (setItem ov iv v)
      release [iv, v, ov] []) := by intro _; rfl) : PG X (.Subscript o (.Slice (some lo) (some hi) none p2) pos) (gSetSl to tl th) := by
  refine ⟨fun pins s σ H v u Q I r h => ?_⟩
  rw [ha]
  refine wpAny_bind (wpAny_holding (thn (ho.run pins s σ H _ I h) fun ov s1 ⟨x, H1, I1, r1, q1⟩ => ?_))
  refine wpAny_bind (wpAny_holding (wpAny_Slice ?_))
  rw [evalPart_some]
  refine thn (hl.run pins s1 σ H1 _ I1 q1) fun vl s2 ⟨y, H2, I2, r2, q2⟩ => ?_
  rw [evalPart_some]
  refine thn (hh.run pins s2 σ H2 _ I2 q2) fun vu s3 ⟨z, H3, I3, r3, q3⟩ => ?_
  rw [evalPart_none]
  refine wpAny_pure ?_
  obtain ⟨l, b, xs, ys, a, c, ex, ev, ey, ez, hne, a0, hac, hax, hH, hB, hz, q⟩ := q3
  subst ex; subst ev; subst ey; subst ez
  cases (show ov = Value.ref l from r1)
  cases (show u = Value.ref b from r)
  obtain ⟨t1, rfl⟩ := (show ∃ t, vl = Value.int a t from r2)
  obtain ⟨t2, rfl⟩ := (show ∃ t, vu = Value.int c t from r3)
  obtain ⟨an, rfl⟩ := Int.eq_ofNat_of_zero_le a0
  obtain ⟨cn, rfl⟩ := Int.eq_ofNat_of_zero_le (Int.le_trans a0 hac)
  have I4 : Inv X pins σ H3 { s3 with heap := s3.heap.push { cls := .type "slice", data := .fields #[.int an t1, .int cn t2, .none] } } := I3.kept (t' := s3.toks) fun b ob q => Heap.get?_push_of_some _ q
  obtain ⟨zl, its, n, rl, hle, e⟩ := I4.lstM hH
  obtain ⟨zb, its2, n2, rb, hlb, e2⟩ := I4.lstM hB
  refine wpAny_bind (wpAny_standAt (wpAny_bind (wpAny_holding ?_)))
  refine setItem_two (items := its) (new := its2) (a := an) (c := cn) e e2 hne (Heap.IsSliceOf.new ..) (.int _ _) (.int _ _) (by omega) (by omega) (by omega) fun f hf => ?_
  refine wpAny_release ⟨σ, _, ?_, q⟩
  refine I4.lset (its' := its.take an ++ its2 ++ its.drop cn) (t' := s3.toks) hH e hf ?_ ?_
  · exact Vals.append (Vals.append (rl.take _) rb) (rl.drop _)
  · simp only [Int.toNat_natCast, List.length_append, List.length_take, List.length_drop]
    omega
end
end My

namespace My
open PySem L2 PySem.Spec PyProof.Rows
section
variable {X : Cx} {pos : Pos}
/-- {k: v}, k a tuple -/
def tDisp1T (tk tv : L2.TE) : L2.TE := fun σ H Q => ∀ p, H p = none → tPairs [(tk, tv)] σ (upd H p (.dT [])) fun ps H2 => ∃ b ks y, ps = [(.ref b, y)] ∧ H2 p = some (.dT []) ∧ H2 b = some (.tup (ks.map kV)) ∧ Q (.ref p) (upd H2 p (.dT [(ks, y)]))
theorem pe_disp1T {k v : Expr} {tk tv : L2.TE} (hu : X.A.units + 1 < cLine) (hk : PE X k tk) (hv : PE X v tv) : PE X (.Dict [some k] [v] pos) (tDisp1T tk tv) := by
  refine ⟨fun pins s σ H Q I q => ?_⟩
  have hn := I.hok.fresh (Nat.le_refl s.heap.objs.size)
  have I1 := I.laid (a := s.heap.objs.size) (o := .dT []) (h' := s.heap.push { cls := .type "dict", data := .dict #[] }) (t' := s.toks) (fun _ _ q => Heap.get?_push_of_some _ q) (Nat.le_refl _) (dt_empty s.heap I.big)
  refine wpAny_Dict_any (by rfl) (by rfl) (by intro z; cases z) (show (1 : Nat) ≤ 15 by decide) (thn ((pps_cons hk hv pps_nil).run pins _ σ _ _ I1 (q _ hn)) fun ws s2 ⟨ps, H2, I2, rel, b, ks, y, ep, e0, eb, hq⟩ => ?_)
  subst ep
  cases rel with
  | @cons p1 p2 l1 l2 r0 rn =>
    cases rn
    obtain ⟨kv, yv⟩ := p2
    obtain ⟨rk, ry⟩ := r0
    cases (show kv = Value.ref b from rk)
    obtain ⟨z, hd, xs, rx, dd⟩ := dt_of I2.hok e0
    cases rx
    unfold storeAll
    have hroom : (tupleKind (mixKind X.prog X.w)).room X.A := Nat.lt_of_le_of_lt (Nat.le_succ _) hu
    refine wpAny_storeAllH hroom _ [(ks, b, yv)] [] s2 _ ⟨rfl, rfl, key_of I2.hok eb, trivial⟩ dd (show 0 + 1 ≤ sizeLine by decide) fun h' tk dd' hs => ?_
    obtain ⟨q0, es, ep, hq0, h2, h3, h4, _, h5⟩ := dd'
    refine ⟨.ref s.heap.objs.size, _, ?_, rfl, hq⟩
    refine d_write I2 (by rw [e0]; exact True.intro) hs ⟨q0, hq0⟩ ⟨show 1 ≤ sizeLine by decide, hd, [(ks, b, yv)], .cons ⟨rfl, ?_, ry⟩ .nil, q0, es, ep, hq0, h2, h3, h4, h5⟩
    rw [upd_ne (ne_of eb e0 (fun z => nomatch z))]
    exact eb
end
end My

namespace My
open PySem L2
/-! ### a dict of the module, read by get -/
def KGet (K : PySem.W.Frag) (w : World) (a : Addr) (z : Str) (r : Option V) : Prop :=
  ∃ es n, K.lookup a = some ⟨.type "dict", none, .dict es n, #[]⟩ ∧ PySem.W.KeysLit w.params es.toList ∧ (a == sysModules) = false ∧ ((∃ u v, PySem.W.nsIn K a z = some (some u) ∧ RelV v u ∧ r = some v) ∨ (PySem.W.nsIn K a z = some none ∧ r = none))
def tKGet (K : PySem.W.Frag) (w : World) (A : Addr) (ty : TE) : TE := fun σ H Q => ty σ H fun y H2 => ∃ z r, y = V.str z ∧ KGet K w A z r ∧ Q (r.getD .non) H2
open PySem.Spec PyProof.Rows in
theorem pe_kget {X : Cx} {e : Expr} {apos cpos : Pos} {A : Addr} {ty : TE} {x : Str} {opos : Pos} (K : PySem.W.Frag) (w : World) (hg : Gl X x) (hx : X.mg x = some (.ref A)) (hA : ∃ es n, K.lookup A = some ⟨.type "dict", none, .dict es n, #[]⟩) (he : PE X e ty) (m : M1 X (.Name x opos) "get" apos e cpos) (hd : (x == ("__debug__" : Str)) = false := by decide) (hK : X.K = K := by rfl) (hw : X.w = w := by rfl) :
    PE X (.Call (.Attribute (.Name x opos) "get" apos) [e] [] cpos) (tKGet K w A ty) := by
  subst hK hw
  refine ⟨fun pins s σ H Q I h => ?_⟩
  refine wpAny_Call_method m.base m.few m.line PySem.F.plainAttrs_dict PySem.F.slot_dict_get PySem.F.type_dict_get (thn ((pe_glob (v := .ref A) (pos := opos) hg hx rfl hd).run pins s σ H (fun y H1 => y = .ref A ∧ H1 = H) I ⟨rfl, rfl⟩) fun u s1 ⟨y, H1, I1, ry, q1⟩ => ?_)
  obtain ⟨rfl, rfl⟩ := q1
  obtain rfl : u = Value.ref A := ry
  obtain ⟨es, n, hl⟩ := hA
  have at1 := I1.kIn _ _ hl
  refine ⟨⟨_, at1, rfl⟩, fun b q => by cases q; exact ⟨_, at1, rfl⟩, ?_⟩
  rw [m.trees]
  refine Calls.callWith_builtin rfl (Calls.evalArgs_plain (Calls.spliced_cons (thn (he.run pins s1 σ H1 _ I1 h) fun iv s2 ⟨y, H2, I2, ry, q2⟩ => Calls.spliced_nil ?_)))
  obtain ⟨z, r, rfl, ⟨es', n', hl', lit, low, hr⟩, q⟩ := q2
  obtain ⟨t, rfl⟩ := ry
  have mp := PySem.W.mapOf_K (prog := X.prog) (w := X.w) I2.kIn hl' lit
  refine call_meetsIn PySem.F.slot_dict_get mp.typeIs PySem.F.entry_dict_get (PySem.F.args_dict_get_2 _ _) (meets_dict_get (strKind X.prog X.w) A (strKind_is X.prog X.w z t) low) ⟨_, mp, ?_⟩
  rcases hr with ⟨u, v, e1, rv, rfl⟩ | ⟨e1, rfl⟩
  · exact ⟨v, H2, I2.tok _, by rw [PySem.W.find_K hl' e1]; exact rv, q⟩
  · exact ⟨.non, H2, I2.tok _, by rw [PySem.W.find_K hl' e1]; rfl, q⟩
/-! ### a call of a name that holds one of some defs -/
theorem pe_orT {X : Cx} {e : Expr} {t u : TE} (h1 : PE X e t) (h2 : PE X e u) : PE X e (fun σ H Q => t σ H Q ∨ u σ H Q) := ⟨fun pins s σ H Q I h => by
  rcases h with h | h
  · exact h1.run pins s σ H Q I h
  · exact h2.run pins s σ H Q I h⟩
def tCallD (mg : Str → Option Value) (i : Nat) (x' : Str) (sp : Sp) (E : XK) (t : TA) : TE := fun σ H Q => (∃ f, mg x' = some (.ref f) ∧ σ[i]? = some (some (.ref f))) ∧ t σ H fun vs H1 => sp vs H1 Q E
theorem pe_callD {X : Cx} {CX : CXT} {k i : Nat} {x x' : Str} {ps : List Str} {sp : Sp} {E : XK} {t : TA} {e : Expr} {es : List Expr} {p pos : Pos} (D : Dfn X.prog X.w X.K X.mg X.base CX k x' ps sp) (hr : Room k X.A) (hx : Passes CX X E) (hN : X.N[i]? = some x) (hv : Vis X.env.scope x) (ha : PA X (e :: es) t)
    (hd : (x == ("__debug__" : Str)) = false := by decide) (hcd : (x == ("__classdict__" : Str)) = false := by decide)
    (he : starEach (e :: es) X.env = (false, eval e X.env) :: starEach es X.env := by rfl) (hpl : (backTo pos (starEach es X.env)).any (·.1) = false := by rfl) : PE X (.Call (.Name x p) (e :: es) [] pos) (tCallD X.mg i x' sp E t) := by
  obtain ⟨f, fd, F, a, b, c⟩ := D.ex
  refine ⟨fun pins s σ H Q I h => ?_⟩
  obtain ⟨⟨f', a', hs⟩, h⟩ := h
  rw [a] at a'
  cases a'
  have R := F.raw (dvs := []) c .nil
  have R' : FnR X.prog X.w X.K X.mg X.base CX k f sp := R.imp fun vs H Q E h => by rw [List.append_nil]; exact h
  exact (ItX.pe_callV R' hr b hx hN hv ha hd hcd he hpl).run pins s σ H Q I ⟨hs, h⟩
end My

namespace PySem
open Sem (wp)
section
variable {prog : Program} {w : World} {K : Type} [DecidableEq K] {knd : HeapKind prog w K} {A : Around} {E : Value → Shared → Prop} {s : Shared}
theorem my_call_dictH (st : knd.Stays) {o : Addr} {more : List (K × Addr × Value)} {Q : Value → Shared → Prop} (hu : knd.room A.in1.in1) (hoS : (o == sysModules) = false) (ho : s.heap.DictOfH knd o more) (hap : (more.map fun x => knd.hash x.1).Nodup) (hsz : more.length ≤ sizeLine)
    (h : ∀ h', h'.DictOfH knd s.heap.objs.size (storedAllH [] more) → Heap.SameBut s.heap.objs.size (s.heap.push { cls := .type "dict", data := .dict #[] }) h' → Q (.ref s.heap.objs.size) { s with heap := h' }) :
    wpAny (model prog w) A (call (.type "dict") [.ref o]) Q E s := by
  refine callType_codes (Q₁ := fun obj s₁ => obj = .ref s.heap.objs.size ∧ s₁ = { s with heap := s.heap.push { cls := .type "dict", data := .dict #[] } }) F.kt_called_dict (F.kt_typeCall_dict_1 _) F.entry_dict_init (kt_code_dict_new _ ⟨rfl, rfl⟩) ?_
  rintro obj s₁ ⟨rfl, rfl⟩
  have hnew : (s.heap.push { cls := .type "dict", data := .dict #[] }).DictOfH knd s.heap.objs.size [] := Heap.DictOfH.new s.heap
  have ho' : (s.heap.push { cls := .type "dict", data := .dict #[] }).DictOfH knd o more := by
    obtain ⟨ob, es, ep, h1, h2, h3, h4, h5, h6⟩ := ho
    exact ⟨ob, es, ep, Heap.get?_push_of_some _ h1, h2, h3, h4, fun x hx => st.stays (fun b o _ _ e _ => Heap.get?_push_of_some _ e) (h5 x hx), h6⟩
  have hdo : s.heap.objs.size ≠ o := by
    obtain ⟨_, _, _, hg, _⟩ := ho
    exact fun e => absurd (Heap.lt_size hg) (by rw [e]; exact Nat.lt_irrefl _)
  refine ⟨hnew.typeIs, F.args_dict_init_2 _ _, ?_⟩
  unfold Builtin.«dict.__init__»
  refine wpAny_bind ?_
  unfold Builtin.Dict.selfAndRest
  refine wpAny_bind (wpAny_notOrdered_dict hnew.typeIs ?_)
  show wpAny _ _ (pure (s.heap.objs.size, [Value.ref o])) _ _ _
  refine wpAny_pure ?_
  show wpAny _ _ (Builtin.Dict.updateFrom "dict.__init__" s.heap.objs.size (.ref o) [] .none) _ _ _
  refine updateFrom_dictH (A := A.in1) (knd := knd) .none hu hdo hoS hnew ho' (.inr ⟨keyed_apart (s := { s with heap := s.heap.push { cls := .type "dict", data := .dict #[] } }) st ho', hap⟩) (by simpa using hsz) fun h' hd' _ hs' => ?_
  exact ⟨rfl, h h' hd' hs'⟩
end
end PySem
namespace My
open PySem L2 PySem.Spec PyProof.Rows
/-- dict(d), the keys tuples that hash apart -/
def rDictT (w : World) (P : Program) : List V → Hp → VK → Prop := fun xs H Q => ∃ (a : Addr) (kvs : List (List L2.Key × V)), xs = [.ref a] ∧ H a = some (.dT kvs) ∧ (kvs.map fun kv => (tupleKind (mixKind P w)).hash kv.1).Nodup ∧ ∀ p, H p = none → Q (.ref p) (upd H p (.dT kvs))
theorem kt_map {H : Hp} {α : Type} (g : List L2.Key → α) : ∀ {kvs : List (List L2.Key × V)} {xs : List (List L2.Key × Addr × Value)}, KT H kvs xs → kvs.map (fun kv => g kv.1) = xs.map fun x => g x.1
  | _, _, .nil => rfl
  | _, _, .cons h t => by rw [List.map_cons, List.map_cons, h.1, kt_map g t]
theorem stored_new {K : Type} [DecidableEq K] : ∀ (more acc : List (K × Addr × Value)), ((acc ++ more).map (·.1)).Nodup → storedAllH acc more = acc ++ more
  | [], acc, _ => by simp [storedAllH]
  | (k, a, v) :: r, acc, h => by
    have hn : ¬ (atKey acc k).isSome = true := fun z => by
      obtain ⟨p, hp⟩ := Option.isSome_iff_exists.mp z
      unfold atKey at hp
      obtain ⟨q, hq, _⟩ := Option.map_eq_some_iff.mp hp
      have h1 := List.mem_of_find?_eq_some hq
      have h2 : q.1 = k := by simpa using List.find?_some hq
      rw [List.map_append, List.map_cons] at h
      exact (List.pairwise_append.mp h).2.2 q.1 (List.mem_map.mpr ⟨q, h1, rfl⟩) k List.mem_cons_self h2
    show storedAllH (storedH acc k a v) r = _
    unfold storedH
    rw [if_neg hn, stored_new r _ (by rw [List.append_assoc]; exact h), List.append_assoc]; rfl
theorem units2 {k : Nat} {A : Around} (r : Room k A) : A.units + 2 < cLine := by have := r.un; omega
theorem call_dictT {X : Cx} (hu : X.A.units + 2 < cLine) : CallR X (.type "dict") (rDictT X.w X.prog) := by
  intro pins s σ H xs us Q I r h
  obtain ⟨a, kvs, e, hd, hap, q⟩ := h
  subst e
  obtain ⟨u, eu, rx⟩ := vals1 r
  subst eu
  obtain rfl : u = Value.ref a := rx
  obtain ⟨z, lo, xs, rel, dd⟩ := dt_of I.hok hd
  have hl : kvs.length = xs.length := Paired.length rel
  have hap' : (xs.map fun x => (tupleKind (mixKind X.prog X.w)).hash x.1).Nodup := by
    rw [← kt_map (fun k => (tupleKind (mixKind X.prog X.w)).hash k) rel]; exact hap
  have hn : (xs.map (·.1)).Nodup := let ⟨_, _, _, _, _, _, _, _, hn⟩ := dd; hn
  refine my_call_dictH tupleKind_stays (show (tupleKind (mixKind X.prog X.w)).room X.A.in1.in1 from hu) lo dd hap' (by rw [← hl]; exact z) fun h' hd' hs => ?_
  rw [stored_new xs [] (by simpa using hn), List.nil_append] at hd'
  have hm : (s.heap.objs.size == sysModules) = false := beq_eq_false_iff_ne.mpr (Nat.ne_of_gt I.big)
  obtain ⟨q0, es, ep, hq0, h2, h3, h4, _, h5⟩ := hd'
  have hf : H s.heap.objs.size = none := I.hok.fresh (Nat.le_refl _)
  refine ⟨.ref s.heap.objs.size, upd H s.heap.objs.size (.dT kvs), I.laid (t' := s.toks) (fun b u e => (hs.2 b (Nat.ne_of_lt (Heap.lt_size e))).trans (Heap.get?_push_of_some _ e)) (Nat.le_refl _)
    (show ObjOk X.prog X.w _ _ _ (.dT kvs) from ⟨z, hm, xs, rel.keeps fun c ys ec => Same.new hf _ _ ec, q0, es, ep, hq0, h2, h3, h4, h5⟩), rfl, q _ hf⟩
end My

namespace PySem.W
open PySem PySem.Calls PyProof.Rows PyProof.V PySem.Spec
section
variable {prog : Program} {w : World} {K : Type} [DecidableEq K] {knd : HeapKind prog w K} {A : Around} {E : Value → Shared → Prop} {s : Shared}
/-- two dicts with tuple keys that hold the same -/
theorem my_samePairsH {nm : String} {a b : Addr} {xs ys : List (K × Addr × Value)} {Q : Bool → Shared → Prop} (hu : knd.room A) (ha : (a == sysModules) = false) (hb : (b == sysModules) = false)
    (da : s.heap.DictOfH knd a xs) (db : s.heap.DictOfH knd b ys) (hl : xs.length = ys.length)
    (hits : ∀ x ∈ xs, ∃ (j : Nat) (p : Addr × Value), ys[j]? = some (x.1, p) ∧ SeqAt.EqP prog w A s x.2.2 p.2 true) (h : Q true s) :
    wpAny (model prog w) A (Builtin.Dict.samePairs nm a b) Q E s := by
  obtain ⟨oa, es, ep, hoa, _, hda, hea, hia, _⟩ := da
  obtain ⟨ob, es', ep', hob, _, hdb, heb, hib, hnb⟩ := db
  have hla : es.size = xs.length := size_of_entries hea
  have hlb : es'.size = ys.length := size_of_entries heb
  unfold Builtin.Dict.samePairs Builtin.Dict.showsAll
  rw [if_neg (show ¬ (a == sysModules) = true by rw [ha]; exact Bool.false_ne_true), if_neg (show ¬ (b == sysModules) = true by rw [hb]; exact Bool.false_ne_true)]
  refine wpAny_bind (wpAny_pure (wpAny_bind (wpAny_pure ?_)))
  refine wpAny_bind (wpAny_dictEntries hoa hda ?_)
  dsimp only
  refine wpAny_bind (wpAny_dictEntries hob hdb ?_)
  have hsz : es.size = es'.size := by rw [hla, hlb, hl]
  rw [if_neg (by rw [hsz]; simp)]
  refine wpAny_bind (wpAny_dictEpoch hoa hda ?_)
  refine wpAny_bind ?_
  rw [Std.Legacy.Range.forIn_eq_forIn_range']
  simp only [Std.Legacy.Range.size, Nat.sub_zero, Nat.add_sub_cancel, Nat.div_one]
  refine wpAny_forIn_list _
    (fun rest q s' => s' = s ∧ q = (none, ()) ∧ ∃ i, rest = List.range' i (es.size - i) ∧ i ≤ es.size)
    _ ?_ ?_ _ _ ⟨rfl, rfl, 0, by simp, Nat.zero_le _⟩
  · rintro x rest q s' ⟨rfl, rfl, i, hr, hi⟩
    have hlt : i < es.size := by
      rcases Nat.lt_or_ge i es.size with h | h
      · exact h
      · rw [Nat.sub_eq_zero_of_le h] at hr; simp at hr
    obtain ⟨rfl, hrest⟩ : x = i ∧ rest = List.range' (i + 1) (es.size - (i + 1)) := by
      have e : es.size - i = (es.size - (i + 1)) + 1 := by omega
      rw [e, List.range'_succ] at hr
      injection hr with h1 h2
      exact ⟨h1, h2⟩
    refine wpAny_bind (wpAny_dictEntries hoa hda ?_)
    rw [Array.getElem?_eq_getElem hlt]
    have hlt' : x < xs.length := by rw [← hla]; exact hlt
    have e0 : es[x] = entryOfKey knd xs[x] := by
      have := entry_at hea x
      rw [Array.getElem?_eq_getElem hlt, List.getElem?_eq_getElem hlt'] at this
      exact Option.some.inj this
    obtain ⟨j, p, hj, hq⟩ := hits xs[x] (List.getElem_mem hlt')
    show wpAny _ _ (holding [es[x].key, es[x].val] _ >>= _) _ _ _
    rw [e0]
    refine wpAny_bind (wpAny_holding (wpAny_bind (wpAny_dictFind_heap hu (hia _ (List.getElem_mem hlt')) hob hdb heb hib hnb (fun hno => absurd hj (hno j p)) fun j' p' hj' => ?_)))
    have ejj : j' = j := by
      have h1 : j' < (ys.map (·.1)).length := by rw [List.length_map]; exact (List.getElem?_eq_some_iff.mp hj').1
      refine (List.getElem?_inj h1 hnb).mp ?_
      rw [List.getElem?_map, List.getElem?_map, hj, hj']
      rfl
    subst ejj
    have f0 : es'[j']? = some (entryOfKey knd (xs[x].1, p)) := by rw [entry_at heb j', hj]; rfl
    refine wpAny_bind (wpAny_dictEntries hob hdb ?_)
    rw [f0]
    refine wpAny_holding (hq _ _ ?_)
    show wpAny _ _ (if (!true) = true then _ else _) _ _ _
    rw [if_neg (by decide)]
    refine wpAny_bind (wpAny_dictEpoch hoa hda ?_)
    rw [if_neg (by simp)]
    exact wpAny_pure ⟨rfl, rfl, x + 1, hrest, hlt⟩
  · rintro q s' ⟨rfl, rfl, i, hr, hi⟩
    exact wpAny_pure h
theorem my_rcP_ne {a b : Addr} {xs ys : List (K × Addr × Value)} (ha : (a == sysModules) = false) (hb : (b == sysModules) = false)
    (da : s.heap.DictOfH knd a xs) (db : s.heap.DictOfH knd b ys) (hu : A.units < cLine) (hr : knd.room A.in1) (hl : xs.length = ys.length)
    (hits : ∀ x ∈ xs, ∃ (j : Nat) (p : Addr × Value), ys[j]? = some (x.1, p) ∧ SeqAt.EqP prog w A.in1 s x.2.2 p.2 true) (E Q : Value → Shared → Prop) (h : Q (.bool false) s) : wpAny (model prog w) A (richCompare .NotEq (.ref a) (.ref b)) Q E s := by
  refine wpAny_richCompare_same_room (op := .NotEq) da.typeIs db.typeIs PySem.F.slot_dict_ne (wpAny_call_entry PySem.F.slot_dict_ne da.typeIs PySem.F.entry_dict_ne ?_ (PySem.F.args_dict_ne_2 _ _)) hu
  show wpAny _ _ (Builtin.Dict.dictSlotArgs "__ne__" ⟨[.ref a, .ref b], []⟩ >>= _) _ _ s
  refine wpAny_bind ?_
  unfold Builtin.Dict.dictSlotArgs
  refine wpAny_bind (wpAny_notOrdered_dict da.typeIs ?_)
  show wpAny _ _ (pure (Value.ref a, Value.ref b)) _ _ s
  refine wpAny_pure ?_
  refine wpAny_bind (wpAny_isInstance (T := "dict") db.typeIs PySem.F.sub_dict_dict ?_)
  simp only [Bool.not_true, Bool.false_eq_true, if_false]
  refine wpAny_bind (wpAny_pure (wpAny_bind (wpAny_pure ?_)))
  refine wpAny_bind (my_samePairsH hr ha hb da db hl hits ?_)
  refine wpAny_pure ⟨_, rfl, ?_, ?_⟩
  · exact fun x => nomatch x
  · exact h
end
end PySem.W

namespace My
open PySem L2
/-- the same data -/
def LfV (K : PySem.W.Frag) (H : Hp) (x y : V) : Prop := ∃ d, Dp K H x d ∧ Dp K H y d ∧ SeqAt.shaped d = true
section
variable {X : Cx} {pins : List (Addr × Obj)} {σ : L2.St} {H : Hp} {s : Shared}
theorem lf_run (I : Inv X pins σ H s) {A : Around} (hu : A.units + 64 < cLine) {x y : V} {v u : Value} (h : LfV X.K H x y) (rx : RelV x v) (ry : RelV y u) : SeqAt.EqP X.prog X.w A s v u true := by
  obtain ⟨d, h1, h2, hs⟩ := h
  obtain ⟨as, r1⟩ := Dp.reads I d x v h1 rx
  obtain ⟨bs, r2⟩ := Dp.reads I d y u h2 ry
  have z := SeqAt.eqAt_reads d d A s v u as bs r1 r2 (SeqAt.canLay_of_shaped hs) (SeqAt.canLay_of_shaped hs) (SeqAt.room_of_shaped hs hu)
  rw [SeqAt.eqv_refl _ (SeqAt.canLay_of_shaped hs)] at z
  exact z.eqP
end
/-- d != e, both with tuple keys, the same in both -/
def rNeDT (K : PySem.W.Frag) : R2 := fun x y H Q => ∃ (a b : Addr) (ks ls : List (List L2.Key × V)), x = .ref a ∧ y = .ref b ∧ H a = some (.dT ks) ∧ H b = some (.dT ls) ∧ ks.length = ls.length ∧ (∀ p ∈ ks, ∃ (j : Nat) (v2 : V), ls[j]? = some (p.1, v2) ∧ LfV K H p.2 v2) ∧ Q (.bl false) H
theorem kt_at {H : Hp} : ∀ {kvs : List (List L2.Key × V)} {xs : List (List L2.Key × Addr × Value)}, KT H kvs xs → ∀ (j : Nat), (∀ x, xs[j]? = some x → ∃ v, kvs[j]? = some (x.1, v) ∧ RelV v x.2.2) ∧ (∀ k v, kvs[j]? = some (k, v) → ∃ p, xs[j]? = some (k, p) ∧ RelV v p.2)
  | _, _, .nil, j => ⟨fun x h => by simp at h, fun k v h => by simp at h⟩
  | _, _, .cons (a := p) (b := q) h t, 0 => ⟨fun x e => by
      cases e
      exact ⟨p.2, by rw [← h.1]; rfl, h.2.2⟩, fun k v e => by
      cases e
      obtain ⟨q1, q2⟩ := q
      obtain rfl := h.1
      exact ⟨q2, rfl, h.2.2⟩⟩
  | _, _, .cons h t, j + 1 => ⟨fun x e => by simpa using (kt_at t j).1 x (by simpa using e), fun k v e => by simpa using (kt_at t j).2 k v (by simpa using e)⟩
open PySem.Spec PyProof.Rows in
theorem op_neDT {X : Cx} (K : PySem.W.Frag) (hu : X.A.units + 71 < cLine) (hK : X.K = K := by rfl) : OpR X (compareOp .NotEq) (rNeDT K) := by
  subst hK
  intro pins s σ H x y v u Q I rx ry h
  obtain ⟨a, b, ks, ls, rfl, rfl, ea, eb, hlen, hp, q⟩ := h
  obtain rfl : v = Value.ref a := rx
  obtain rfl : u = Value.ref b := ry
  obtain ⟨za, la, xa, ra, da⟩ := dt_of I.hok ea
  obtain ⟨zb, lb', xb, rb, db⟩ := dt_of I.hok eb
  have hl : xa.length = xb.length := by rw [← Paired.length ra, ← Paired.length rb]; exact hlen
  show wpAny _ _ (richCompare .NotEq (.ref a) (.ref b)) _ _ _
  refine PySem.W.my_rcP_ne (knd := tupleKind (mixKind X.prog X.w)) la lb' da db (by omega) (show X.A.units + 1 < cLine by omega) hl (fun z hz => ?_) _ _ ⟨.bl _, H, I, rfl, q⟩
  obtain ⟨i, hi⟩ := List.getElem?_of_mem hz
  obtain ⟨v1, hv1, r1⟩ := (kt_at ra i).1 z hi
  obtain ⟨j, v2, hj, hf⟩ := hp _ (List.mem_of_getElem? hv1)
  obtain ⟨p, hp1, r2⟩ := (kt_at rb j).2 _ _ hj
  exact ⟨j, p, hp1, lf_run I (show X.A.units + 1 + 64 < cLine by omega) hf r1 r2⟩
theorem units71 {k : Nat} {A : Around} (r : Room k A) : A.units + 71 < cLine := by have := r.un; omega
end My

namespace My
open PySem L2
def topS (i : Nat) : Stmt := PySem.Challenge.pw_steadhold_k04_trees.main.body.getD i (.Pass ⟨0, 0, 0, 0⟩)
structure Txt (K : PySem.W.Frag) (mg : Str → Option Value) (w : World) (A_PARTS : Addr) : Prop where
  b_abs : mg "abs" = none
  b_all : mg "all" = none
  b_bool : mg "bool" = none
  b_dict : mg "dict" = none
  b_int : mg "int" = none
  b_isinstance : mg "isinstance" = none
  b_len : mg "len" = none
  b_list : mg "list" = none
  b_max : mg "max" = none
  b_range : mg "range" = none
  b_sorted : mg "sorted" = none
  b_str : mg "str" = none
  b_tuple : mg "tuple" = none
  c_MOST_WORDS : ∃ t, mg "MOST_WORDS" = some (.int 48 t)
  c_TOP : ∃ t, mg "TOP" = some (.int 4294967295 t)
  c__PARTS : mg "_PARTS" = some (.ref A_PARTS)
  k__PARTS : ∃ es n, K.lookup A_PARTS = some ⟨.type "dict", none, .dict es n, #[]⟩
  g_make : ∃ f, mg "_is_one_kind" = some (.ref f) ∧ KGet K w A_PARTS "make" (some (.ref f))
  g_put : ∃ f, mg "_are_place_and_words" = some (.ref f) ∧ KGet K w A_PARTS "put" (some (.ref f))
  g_get : ∃ f, mg "_are_two_numbers" = some (.ref f) ∧ KGet K w A_PARTS "get" (some (.ref f))
  g_size : ∃ f, mg "_are_none" = some (.ref f) ∧ KGet K w A_PARTS "size" (some (.ref f))
  g_shrink : ∃ f, mg "_is_one_number" = some (.ref f) ∧ KGet K w A_PARTS "shrink" (some (.ref f))
  g_drop : ∃ f, mg "_are_none" = some (.ref f) ∧ KGet K w A_PARTS "drop" (some (.ref f))
  g_list : ∃ f, mg "_are_none" = some (.ref f) ∧ KGet K w A_PARTS "list" (some (.ref f))
  g_sync : KGet K w A_PARTS "sync" none
end My

namespace My
open PySem L2
local macro_rules | `(tactic| walk_at "ne") => `(tactic| first | assumption | exact Ne.symm (by assumption) | exact ne_of_none (by assumption) (by assumption) | exact Ne.symm (ne_of_none (by assumption) (by assumption)))
local macro_rules | `(tactic| walk_at "hp") => `(tactic| first | assumption | with_reducible exact upd_same | (with_reducible refine Eq.trans (upd_ne ?_) ?_; rotate_left; walk_at "hp"; walk_at "ne"))
local macro_rules | `(tactic| walk_at "cnd") => `(tactic| first | omega | (show (0 : Int) < _; omega) | exact ⟨by omega, by omega⟩ | exact Or.inl ⟨by omega, by omega⟩ | exact Or.inr ⟨by omega, by omega⟩ | exact ⟨by omega, by omega, by decide⟩ | exact ⟨by omega, by omega, by omega⟩)
local macro_rules | `(tactic| walk_at "at") => `(tactic| first | exact atC 0 rfl rfl | exact atC 1 rfl rfl | exact atC 2 rfl rfl | exact atC 3 rfl rfl | exact atC 4 rfl rfl | exact atC 5 rfl rfl | exact atC 6 rfl rfl | exact atC 7 rfl rfl)
local macro_rules | `(tactic| walk_at "ix") => `(tactic| first | exact ixC 0 rfl (Nat.le_of_ble_eq_true rfl) | exact ixC 1 rfl (Nat.le_of_ble_eq_true rfl) | exact ixC 2 rfl (Nat.le_of_ble_eq_true rfl) | exact ixC 3 rfl (Nat.le_of_ble_eq_true rfl) | exact ixC 4 rfl (Nat.le_of_ble_eq_true rfl) | exact ixC 5 rfl (Nat.le_of_ble_eq_true rfl))
local macro_rules | `(tactic| walk_at "st") => `(tactic| first
  | refine ⟨_, rfl, ?_⟩
  | refine ⟨_, _, rfl, rfl, (by walk_at "cnd" : (_ : Prop)), ?_⟩
  | refine ⟨_, _, rfl, rfl, ?_⟩
  | refine ⟨rfl, ?_⟩
  | refine Or.inl ⟨_, rfl, ?_⟩
  | refine ⟨_, _, _, _, rfl, rfl, by exact SqL.of (by walk_at "hp"), by walk_at "at", ?_⟩
  | refine ⟨_, _, _, _, rfl, rfl, by exact SqT.of (by walk_at "hp"), by walk_at "at", ?_⟩
  | refine ⟨_, _, _, _, rfl, rfl, by walk_at "hp", by walk_at "ix", ?_⟩
  | refine ⟨_, _, rfl, Or.inl (by exact SqL.of (by walk_at "hp")), ?_⟩
  | refine ⟨_, _, rfl, Or.inr (by exact SqT.of (by walk_at "hp")), ?_⟩)
local macro_rules | `(tactic| walk_at "so") => `(tactic| first
  | refine ⟨_, _, _, _, _, rfl, by walk_at "hp", by assumption, by assumption, rfl, ?_⟩
  | refine ⟨_, _, _, _, rfl, by walk_at "hp", by assumption, by assumption, Nat.le_of_ble_eq_true rfl, ?_⟩
  | refine ⟨_, _, _, rfl, by walk_at "hp", rfl, ?_⟩
  | walk_at "st")
local macro_rules | `(tactic| walk_at "ro") => `(tactic| repeat walk_at "so")
local macro_rules | `(tactic| walk_at "run") => `(tactic| repeat walk_at "st")

/-! the tape -/
def Tape (H : Hp) (a s : Addr) : Prop := ∃ (ns : List Int) (i r z : Int), H a = some (.lst [.ref s, .int i, .int r, .int z]) ∧ H s = some (.lst (ns.map V.int)) ∧ 0 ≤ i ∧ 0 ≤ r ∧ 0 ≤ z ∧ z < 2147483647
def spNext : Sp := fun vs H Q _ => ∃ (a t : Addr) (many : Int), vs = [.ref a, .int many] ∧ 0 < many ∧ many < 1000000 ∧ Tape H a t ∧ ∀ v H', 0 ≤ v → v < many → Tape H' a t → Chg a H H' → Q (.int v) H'
theorem Tape.lst {H : Hp} {a t : Addr} (h : Tape H a t) : ∃ xs, H a = some (.lst xs) := by
  obtain ⟨ns, i, r, z, ha, _⟩ := h
  exact ⟨_, ha⟩
theorem Tape.at {H : Hp} {a t p : Addr} (h : Tape H a t) (hp : H p = none) : p ≠ a := by
  obtain ⟨ns, i, r, z, ha, _⟩ := h
  exact (ne_of_none ha hp).symm
theorem Tape.at2 {H : Hp} {a t p : Addr} (h : Tape H a t) (hp : H p = none) : p ≠ t := by
  obtain ⟨ns, i, r, z, ha, hs, _⟩ := h
  exact (ne_of_none hs hp).symm
theorem Tape.same {H H' : Hp} {a t : Addr} (h : Tape H a t) (s : Same H H') : Tape H' a t := by
  obtain ⟨ns, i, r, z, ha, hs, q⟩ := h
  exact ⟨ns, i, r, z, s _ _ ha, s _ _ hs, q⟩
theorem Tape.upd {H : Hp} {a t W : Addr} {o : HO} (h : Tape H a t) (n1 : W ≠ a) (n2 : W ≠ t) : Tape (L2.upd H W o) a t := by
  obtain ⟨ns, i, r, z, ha, hs, q⟩ := h
  exact ⟨ns, i, r, z, by rw [upd_ne n1.symm]; exact ha, by rw [upd_ne n2.symm]; exact hs, q⟩
theorem Tape.ts {H H' : Hp} {a t : Addr} (h : Tape H a t) (c : Chg a H H') : TS H H' := by
  obtain ⟨xs, e⟩ := h.lst
  exact c.ts e
section
variable {P : Program} {w : World} {K : PySem.W.Frag} {mg : Str → Option Value} {base : Heap} {A_PARTS : Addr}
abbrev s_law_next : Stmt := topS 30
abbrev ns_law_next : List Str := ["tape", "many", "rest", "cell"]
theorem sc_law_next : FnScope ns_law_next ["tape", "many"] (defScope s_law_next) := ⟨rfl, rfl, rfl, by decide +kernel, rfl, by decide +kernel, by decide +kernel⟩

theorem ok_law_next {f : Addr} {fd : FuncData} (F : Fun K "_law_next" "_law_next" s_law_next f fd) (T : Txt K mg  w A_PARTS) : FnOk P w K mg base CX0 1 f fd ["tape", "many"] spNext := by
  refine F.ok sc_law_next (fun vs H Q E h => ?_) (fun cdv A outer s H vs Q E hr h => ?_)
  · obtain ⟨a, s, many, rfl, _⟩ := h
    rfl
  · obtain ⟨a, s, many, rfl, m0, m1, ⟨ns, i, r, z, ha, hs, i0, r0, z0, z1⟩, k⟩ := h
    have nsa : s ≠ a := ne_of hs ha (by intro q; cases ns <;> cases q)
    refine ⟨_, (pss_cons (ps_set (i := 2) sc_law_next.nd rfl (Or.inl rfl) (pe_ix (kIxL K) (pv 0) pe_int (fun _ _ => rfl)))
  (C8.pss_cut (ps_if (pt_cmpR op_eq (pv 2) pe_int (nomark _)) (pss_cons (ps_set (i := 3) sc_law_next.nd rfl (Or.inl rfl) pe_int)
  (C8.pss_cut (ps_if (pt_cmpR op_lt (pe_ix (kIxL K) (pv 0) pe_int (fun _ _ => rfl)) (pe_callB (kLen K) (by rfl) T.b_len (by decide +kernel) (pa_cons (pe_ix (kIxL K) (pv 0) pe_int (fun _ _ => rfl)) pa_nil)) (nomark _)) (pss_cons (ps_set (i := 3) sc_law_next.nd rfl (Or.inl rfl) (pe_callB call_abs (by rfl) T.b_abs (by decide +kernel) (pa_cons (pe_callTy call_int1 (by rfl) T.b_int (by decide +kernel) (pa_cons (pe_ix (kIxL K) (pe_ix (kIxL K) (pv 0) pe_int (fun _ _ => rfl)) (pe_ix (kIxL K) (pv 0) pe_int (fun _ _ => rfl)) (fun _ _ => rfl)) pa_nil)) pa_nil)))
  (pss_one (ps_asg (pe_op op_add (pe_ix (kIxL K) (pv 0) pe_int (fun _ _ => rfl)) pe_int) (pg_sub (pv 0) pe_int set_list)))) pss_nil)
  (pss_cons (ps_set (i := 2) sc_law_next.nd rfl (Or.inl rfl) (pv 3))
  (pss_one (ps_if (pt_cmpR op_lt (pv 3) (pe_op op_pow pe_int pe_int) (nomark _)) (pss_cons (ps_asg (pe_op op_mod (pe_callTy call_int1 (by rfl) T.b_int (by decide +kernel) (pa_cons (pe_op op_add (pe_op op_add (pe_op op_mul (pe_ix (kIxL K) (pv 0) pe_int (fun _ _ => rfl)) pe_int) (pe_op op_mul (pv 3) pe_int)) pe_int) pa_nil)) pe_int) (pg_sub (pv 0) pe_int set_list))
  (pss_one (ps_ret (pe_op op_mod (pe_op op_mod (pe_callTy call_int1 (by rfl) T.b_int (by decide +kernel) (pa_cons (pe_op op_mul (pe_op op_fdiv (pe_ix (kIxL K) (pv 0) pe_int (fun _ _ => rfl)) pe_int) pe_int) pa_nil)) pe_int) (pv 1))))) pss_nil))))) pss_nil)
  (pss_cons (ps_asg (pe_op op_fdiv (pv 2) (pv 1)) (pg_sub (pv 0) pe_int set_list))
  (pss_one (ps_ret (pe_op op_mod (pe_callTy call_int1 (by rfl) T.b_int (by decide +kernel) (pa_cons (pv 2) pa_nil)) (pv 1))))))), ?_⟩
    -- rest = tape[2]; if rest == 0
    walk_at "run"
    refine ⟨fun σ H1 => ∃ i' r' v, σ = [some (.ref a), some (.int many), some (.int r'), v] ∧ 0 ≤ r' ∧ 0 ≤ i' ∧ H1 a = some (.lst [.ref s, .int i', .int r, .int z]) ∧ H1 s = some (.lst (ns.map V.int)) ∧ Chg a H H1, ?_, ?_⟩
    · walk_at "run"
      refine iteD (fun h1 => ?_) (fun h1 => ?_)
      · -- cell = 0; if tape[1] < len(tape[0])
        walk_at "run"
        refine ⟨fun σ H1 => ∃ cell i', σ = [some (.ref a), some (.int many), some (.int r), some (.int cell)] ∧ 0 ≤ cell ∧ 0 ≤ i' ∧ H1 a = some (.lst [.ref s, .int i', .int r, .int z]) ∧ H1 s = some (.lst (ns.map V.int)) ∧ Chg a H H1, ?_, ?_⟩
        · walk_at "run"
          refine iteD (fun h2 => ?_) (fun h2 => ?_)
          · have hi : i.toNat < ns.length := by simpa using (show i.toNat < (ns.map V.int).length by omega)
            walk_at "run"
            refine ⟨_, _, _, _, rfl, rfl, SqL.of hs, atC i.toNat (by omega) (by rw [List.getElem?_map, List.getElem?_eq_getElem hi]; rfl), ?_⟩
            walk_at "run"
            exact ⟨_, i + 1, rfl, by split <;> omega, by omega, upd_same, by rw [upd_ne nsa]; exact hs, Chg.upd⟩
          · exact ⟨0, i, rfl, by omega, i0, ha, hs, Chg.refl _ _⟩
        · rintro σ H1 ⟨cell, i', rfl, c0, i0', ha1, hs1, ch⟩
          walk_at "run"
          refine iteD (fun h3 => ?_) (fun h3 => ?_)
          · walk_at "run"
            exact k _ _ (Int.emod_nonneg _ (by omega)) (Int.emod_lt_of_pos _ m0) ⟨ns, i', r, _, upd_same, by rw [upd_ne nsa]; exact hs1, i0', r0, Int.emod_nonneg _ (by decide), Int.emod_lt_of_pos _ (by decide)⟩ (ch.trans Chg.upd)
          · exact ⟨i', cell, _, rfl, c0, i0', ha1, hs1, ch⟩
      · exact ⟨i, r, _, rfl, r0, i0, ha, hs, Chg.refl _ _⟩
    · rintro σ H1 ⟨i', r', v, rfl, c0, i0', ha1, hs1, ch⟩
      walk_at "run"
      exact k _ _ (Int.emod_nonneg _ (by omega)) (Int.emod_lt_of_pos _ m0) ⟨ns, i', r' / many, z, upd_same, by rw [upd_ne nsa]; exact hs1, i0', Int.ediv_nonneg c0 (by omega), z0, z1⟩ (ch.trans Chg.upd)
end

end My

namespace My
open PySem L2
local macro_rules | `(tactic| walk_at "ne") => `(tactic| first | assumption | exact Ne.symm (by assumption) | exact ne_of_none (by assumption) (by assumption) | exact Ne.symm (ne_of_none (by assumption) (by assumption)))
local macro_rules | `(tactic| walk_at "hp") => `(tactic| first | assumption | with_reducible exact upd_same | (with_reducible refine Eq.trans (upd_ne ?_) ?_; rotate_left; walk_at "hp"; walk_at "ne"))
local macro_rules | `(tactic| walk_at "cnd") => `(tactic| first | omega | (show (0 : Int) < _; omega) | exact ⟨by omega, by omega⟩ | exact Or.inl ⟨by omega, by omega⟩ | exact Or.inr ⟨by omega, by omega⟩ | exact ⟨by omega, by omega, by decide⟩ | exact ⟨by omega, by omega, by omega⟩)
local macro_rules | `(tactic| walk_at "at") => `(tactic| first | exact atC 0 rfl rfl | exact atC 1 rfl rfl | exact atC 2 rfl rfl | exact atC 3 rfl rfl | exact atC 4 rfl rfl | exact atC 5 rfl rfl | exact atC 6 rfl rfl | exact atC 7 rfl rfl)
local macro_rules | `(tactic| walk_at "ix") => `(tactic| first | exact ixC 0 rfl (Nat.le_of_ble_eq_true rfl) | exact ixC 1 rfl (Nat.le_of_ble_eq_true rfl) | exact ixC 2 rfl (Nat.le_of_ble_eq_true rfl) | exact ixC 3 rfl (Nat.le_of_ble_eq_true rfl) | exact ixC 4 rfl (Nat.le_of_ble_eq_true rfl) | exact ixC 5 rfl (Nat.le_of_ble_eq_true rfl))
local macro_rules | `(tactic| walk_at "st") => `(tactic| first
  | refine ⟨_, rfl, ?_⟩
  | refine ⟨_, _, rfl, rfl, (by walk_at "cnd" : (_ : Prop)), ?_⟩
  | refine ⟨_, _, rfl, rfl, ?_⟩
  | refine ⟨rfl, ?_⟩
  | refine Or.inl ⟨_, rfl, ?_⟩
  | refine ⟨_, _, _, _, rfl, rfl, by exact SqL.of (by walk_at "hp"), by walk_at "at", ?_⟩
  | refine ⟨_, _, _, _, rfl, rfl, by exact SqT.of (by walk_at "hp"), by walk_at "at", ?_⟩
  | refine ⟨_, _, _, _, rfl, rfl, by walk_at "hp", by walk_at "ix", ?_⟩
  | refine ⟨_, _, rfl, Or.inl (by exact SqL.of (by walk_at "hp")), ?_⟩
  | refine ⟨_, _, rfl, Or.inr (by exact SqT.of (by walk_at "hp")), ?_⟩)
local macro_rules | `(tactic| walk_at "so") => `(tactic| first
  | refine ⟨_, _, _, _, _, rfl, by walk_at "hp", by assumption, by assumption, rfl, ?_⟩
  | refine ⟨_, _, _, _, rfl, by walk_at "hp", by assumption, by assumption, Nat.le_of_ble_eq_true rfl, ?_⟩
  | refine ⟨_, _, _, rfl, by walk_at "hp", rfl, ?_⟩
  | walk_at "st")
local macro_rules | `(tactic| walk_at "ro") => `(tactic| repeat walk_at "so")
local macro_rules | `(tactic| walk_at "run") => `(tactic| repeat walk_at "st")

section
variable {P : Program} {w : World} {K : PySem.W.Frag} {mg : Str → Option Value} {base : Heap} {A_PARTS : Addr}
abbrev s_is_at_least : Stmt := topS 1
abbrev ns_is_at_least : List Str := ["value", "least"]
theorem sc_is_at_least : FnScope ns_is_at_least ["value", "least"] (defScope s_is_at_least) := ⟨rfl, rfl, rfl, by decide +kernel, rfl, by decide +kernel, by decide +kernel⟩

theorem ok_is_at_least {f : Addr} {fd : FuncData} (F : Fun K "is_at_least" "is_at_least" s_is_at_least f fd) (T : Txt K mg  w A_PARTS) : FnOk P w K mg base CX0 1 f fd ["value", "least"] spGe := by
  refine F.ok sc_is_at_least (fun vs H Q E h => ?_) (fun cdv A outer s H vs Q E hr h => ?_)
  · obtain ⟨v, d, lo, rfl, _⟩ := h
    rfl
  · obtain ⟨v, d, lo, rfl, hd, k⟩ := h
    refine ⟨_, (pss_one (ps_ret (pe_and (pe_callB (kIsi K) (by rfl) T.b_isinstance (by decide +kernel) (pa_cons (pv 0) (pa_cons (pe_bltn (v := .ty "int") (by rfl) T.b_int (by decide +kernel) rfl) pa_nil))) (pe_and (pe_not (pe_callB (kIsi K) (by rfl) T.b_isinstance (by decide +kernel) (pa_cons (pv 0) (pa_cons (pe_bltn (v := .ty "bool") (by rfl) T.b_bool (by decide +kernel) rfl) pa_nil)))) (pe_one (pe_cmpR op_ge (pv 0) (pv 1) (nomark _))))))), ?_⟩
    refine ⟨_, rfl, _, _, _, _, _, rfl, .ty _, hd.ty, kit_ty (kitInt d), _, rfl, ?_⟩
    cases hd with
    | int i =>
      refine iteT ⟨_, rfl, _, _, _, _, _, rfl, .ty _, (Dt.int i).ty, kit_ty (kitBool (.int i)), _, rfl, _, rfl, iteT ?_⟩
      walk_at "run"
      exact k
    | bl b => exact iteT ⟨_, rfl, _, _, _, _, _, rfl, .ty _, (Dt.bl b).ty, kit_ty (kitBool (.bool b)), _, rfl, _, rfl, iteF k⟩
    | non => exact iteF k
    | str x => exact iteF k
    | lst a b => exact iteF k
    | tup a b => exact iteF k
abbrev s_is_between : Stmt := topS 2
abbrev ns_is_between : List Str := ["value", "least", "most"]
theorem sc_is_between : FnScope ns_is_between ["value", "least", "most"] (defScope s_is_between) := ⟨rfl, rfl, rfl, by decide +kernel, rfl, by decide +kernel, by decide +kernel⟩

theorem ok_is_between {f : Addr} {fd : FuncData} (F : Fun K "is_between" "is_between" s_is_between f fd) (T : Txt K mg  w A_PARTS) (D_is_at_least : Dfn P w K mg base CX0 1 "is_at_least" ["value", "least"] spGe) : FnOk P w K mg base CX0 2 f fd ["value", "least", "most"] spBtw := by
  refine F.ok sc_is_between (fun vs H Q E h => ?_) (fun cdv A outer s H vs Q E hr h => ?_)
  · obtain ⟨v, d, lo, hi, rfl, _⟩ := h
    rfl
  · obtain ⟨v, d, lo, hi, rfl, hd, k⟩ := h
    refine ⟨_, (pss_one (ps_ret (pe_and (pe_dcall D_is_at_least (hr.mono (by decide)) (by rfl) pass0 (pa_cons (pv 0) (pa_cons (pv 1) pa_nil))) (pe_one (pe_cmpR op_le (pv 0) (pv 2) (nomark _)))))), ?_⟩
    refine ⟨_, rfl, _, rfl, _, d, _, rfl, hd, _, rfl, iteB (fun e => ?_) (fun e => ?_)⟩
    · cases hd with
      | int i =>
        walk_at "run"
        have e' : decide (lo ≤ i) = true := e
        have k' : Q (.bl (decide (lo ≤ i) && decide (i ≤ hi))) H := k
        rw [e', Bool.true_and] at k'
        exact k'
      | bl b => cases e
      | non => cases e
      | str x => cases e
      | lst a b => cases e
      | tup a b => cases e
    · have e2 : isI d lo hi = false := by
        cases d with
        | int i =>
          have e' : decide (lo ≤ i) = false := e
          show (decide (lo ≤ i) && decide (i ≤ hi)) = false
          rw [e', Bool.false_and]
        | _ => rfl
      rw [e2] at k
      exact k
end
section
variable {P : Program} {w : World} {K : PySem.W.Frag} {mg : Str → Option Value} {base : Heap} {A_PARTS : Addr}
abbrev s_is_word : Stmt := topS 5
abbrev ns_is_word : List Str := ["value"]
theorem sc_is_word : FnScope ns_is_word ["value"] (defScope s_is_word) := ⟨rfl, rfl, rfl, by decide +kernel, rfl, by decide +kernel, by decide +kernel⟩

theorem ok_is_word {f : Addr} {fd : FuncData} (F : Fun K "is_word" "is_word" s_is_word f fd) (T : Txt K mg  w A_PARTS) (D_is_between : Dfn P w K mg base CX0 2 "is_between" ["value", "least", "most"] spBtw) : FnOk P w K mg base CX0 3 f fd ["value"] spWord := by
  refine F.ok sc_is_word (fun vs H Q E h => ?_) (fun cdv A outer s H vs Q E hr h => ?_)
  · obtain ⟨v, d, rfl, _⟩ := h
    rfl
  · obtain ⟨v, d, rfl, hd, k⟩ := h
    refine ⟨_, (pss_one (ps_ret (pe_dcall D_is_between (hr.mono (by decide)) (by rfl) pass0 (pa_cons (pv 0) (pa_cons pe_int (pa_cons (pe_gint (by rfl) T.c_TOP) pa_nil)))))), ?_⟩
    walk_at "run"
    exact ⟨_, d, _, _, rfl, hd, k⟩
end
end My

namespace My
open PySem L2
local macro_rules | `(tactic| walk_at "ne") => `(tactic| first | assumption | exact Ne.symm (by assumption) | exact ne_of_none (by assumption) (by assumption) | exact Ne.symm (ne_of_none (by assumption) (by assumption)))
local macro_rules | `(tactic| walk_at "hp") => `(tactic| first | assumption | with_reducible exact upd_same | (with_reducible refine Eq.trans (upd_ne ?_) ?_; rotate_left; walk_at "hp"; walk_at "ne"))
local macro_rules | `(tactic| walk_at "cnd") => `(tactic| first | omega | (show (0 : Int) < _; omega) | exact ⟨by omega, by omega⟩ | exact Or.inl ⟨by omega, by omega⟩ | exact Or.inr ⟨by omega, by omega⟩ | exact ⟨by omega, by omega, by decide⟩ | exact ⟨by omega, by omega, by omega⟩)
local macro_rules | `(tactic| walk_at "at") => `(tactic| first | exact atC 0 rfl rfl | exact atC 1 rfl rfl | exact atC 2 rfl rfl | exact atC 3 rfl rfl | exact atC 4 rfl rfl | exact atC 5 rfl rfl | exact atC 6 rfl rfl | exact atC 7 rfl rfl)
local macro_rules | `(tactic| walk_at "ix") => `(tactic| first | exact ixC 0 rfl (Nat.le_of_ble_eq_true rfl) | exact ixC 1 rfl (Nat.le_of_ble_eq_true rfl) | exact ixC 2 rfl (Nat.le_of_ble_eq_true rfl) | exact ixC 3 rfl (Nat.le_of_ble_eq_true rfl) | exact ixC 4 rfl (Nat.le_of_ble_eq_true rfl) | exact ixC 5 rfl (Nat.le_of_ble_eq_true rfl))
local macro_rules | `(tactic| walk_at "st") => `(tactic| first
  | refine ⟨_, rfl, ?_⟩
  | refine ⟨_, _, rfl, rfl, (by walk_at "cnd" : (_ : Prop)), ?_⟩
  | refine ⟨_, _, rfl, rfl, ?_⟩
  | refine ⟨rfl, ?_⟩
  | refine Or.inl ⟨_, rfl, ?_⟩
  | refine ⟨_, _, _, _, rfl, rfl, by exact SqL.of (by walk_at "hp"), by walk_at "at", ?_⟩
  | refine ⟨_, _, _, _, rfl, rfl, by exact SqT.of (by walk_at "hp"), by walk_at "at", ?_⟩
  | refine ⟨_, _, _, _, rfl, rfl, by walk_at "hp", by walk_at "ix", ?_⟩
  | refine ⟨_, _, rfl, Or.inl (by exact SqL.of (by walk_at "hp")), ?_⟩
  | refine ⟨_, _, rfl, Or.inr (by exact SqT.of (by walk_at "hp")), ?_⟩)
local macro_rules | `(tactic| walk_at "so") => `(tactic| first
  | refine ⟨_, _, _, _, _, rfl, by walk_at "hp", by assumption, by assumption, rfl, ?_⟩
  | refine ⟨_, _, _, _, rfl, by walk_at "hp", by assumption, by assumption, Nat.le_of_ble_eq_true rfl, ?_⟩
  | refine ⟨_, _, _, rfl, by walk_at "hp", rfl, ?_⟩
  | walk_at "st")
local macro_rules | `(tactic| walk_at "ro") => `(tactic| repeat walk_at "so")
local macro_rules | `(tactic| walk_at "run") => `(tactic| repeat walk_at "st")

/-! ### requests as data -/
def isNm (d : PyData) : Bool := isI d 1 4294967295
def isPath : PyData → Bool
  | .tuple xs => xs.all isNm
  | _ => false
def isNum (d : PyData) : Bool := isI d 0 48
def areW : PyData → Bool
  | .tuple xs => decide (1 ≤ xs.length ∧ xs.length ≤ 48) && xs.all fun d => isI d 0 4294967295
  | _ => false
def pNone (ds : List PyData) : Bool := decide (ds.length = 0)
def pKind : List PyData → Bool
  | [.str z] => (("dir" : Str) == z) || ((("file" : Str) == z) || false)
  | _ => false
def pNum : List PyData → Bool
  | [d] => isNum d
  | _ => false
def pTwo : List PyData → Bool
  | [d, e] => isNum d && isNum e
  | _ => false
def pPut : List PyData → Bool
  | [d, e] => isNum d && areW e
  | _ => false
def isStrD : PyData → Bool
  | .str _ => true
  | _ => false
theorem kitStr : ∀ d : PyData, kitB (tyName d) "str" = some (isStrD d)
  | .none => (by decide +kernel : kitB "NoneType" "str" = some false)
  | .bool _ => (by decide +kernel : kitB "bool" "str" = some false)
  | .int _ => (by decide +kernel : kitB "int" "str" = some false)
  | .str _ => (by decide +kernel : kitB "str" "str" = some true)
  | .list _ => (by decide +kernel : kitB "list" "str" = some false)
  | .tuple _ => (by decide +kernel : kitB "tuple" "str" = some false)
  | .dict _ => (by decide +kernel : kitB "dict" "str" = some false)
def spD (g : PyData → Bool) : Sp := fun vs H Q _ => ∃ v d, vs = [v] ∧ Dt H v d ∧ (∀ ds, d = .tuple ds → ds.length ≤ 1000) ∧ ∀ H', Same H H' → Q (.bl (g d)) H'
def spD0 (g : PyData → Bool) : Sp := fun vs H Q _ => ∃ v d, vs = [v] ∧ Dt H v d ∧ Q (.bl (g d)) H
def spParts (g : List PyData → Bool) : Sp := fun vs H Q _ => ∃ v ds, vs = [v] ∧ Dt H v (.tuple ds) ∧ ds.length ≤ 1000 ∧ (∀ d ∈ ds, ∀ es, d = .tuple es → es.length ≤ 1000) ∧ ∀ H', Same H H' → Q (.bl (g ds)) H'
theorem lenV (n m : Nat) : decide (V.int (n : Int) = V.int (m : Int)) = decide (n = m) := decide_eq_decide.mpr ⟨fun z => by injection z with z; exact Int.ofNat.inj z, fun z => by rw [z]⟩
theorem isI_int {d : PyData} {lo hi : Int} (h : isI d lo hi = true) : ∃ i, d = .int i ∧ lo ≤ i ∧ i ≤ hi := by
  cases d with
  | int i =>
    have h' : (decide (lo ≤ i) && decide (i ≤ hi)) = true := h
    rw [Bool.and_eq_true, decide_eq_true_eq, decide_eq_true_eq] at h'
    exact ⟨i, rfl, h'.1, h'.2⟩
  | _ => cases h
section
variable {P : Program} {w : World} {K : PySem.W.Frag} {mg : Str → Option Value} {base : Heap} {A_PARTS : Addr}
abbrev s_is_name : Stmt := topS 9
abbrev ns_is_name : List Str := ["value"]
theorem sc_is_name : FnScope ns_is_name ["value"] (defScope s_is_name) := ⟨rfl, rfl, rfl, by decide +kernel, rfl, by decide +kernel, by decide +kernel⟩

theorem ok_is_name {f : Addr} {fd : FuncData} (F : Fun K "is_name" "is_name" s_is_name f fd) (T : Txt K mg  w A_PARTS) (D_is_word : Dfn P w K mg base CX0 3 "is_word" ["value"] spWord) : FnOk P w K mg base CX0 4 f fd ["value"] (spD0 isNm) := by
  refine F.ok sc_is_name (fun vs H Q E h => ?_) (fun cdv A outer s H vs Q E hr h => ?_)
  · obtain ⟨v, d, rfl, _⟩ := h
    rfl
  · obtain ⟨v, d, rfl, hd, k⟩ := h
    refine ⟨_, (pss_one (ps_ret (pe_and (pe_dcall D_is_word (hr.mono (by decide)) (by rfl) pass0 (pa_cons (pv 0) pa_nil)) (pe_one (pe_cmpR op_ne (pv 0) pe_int (nomark _)))))), ?_⟩
    refine ⟨_, rfl, v, d, rfl, hd, _, rfl, iteB (fun e => ?_) (fun e => ?_)⟩
    · obtain ⟨i, rfl, h1, h2⟩ := isI_int e
      cases hd
      refine ⟨_, rfl, rfl, ?_⟩
      have : (!decide (V.int i = V.int 0)) = isNm (.int i) := by
        have e1 : decide (V.int i = V.int 0) = decide (i = 0) := decide_eq_decide.mpr ⟨fun z => by injection z, fun z => by rw [z]⟩
        show _ = (decide ((1 : Int) ≤ i) && decide (i ≤ 4294967295))
        rw [e1, decide_eq_true h2, Bool.and_true]
        by_cases z : i = 0
        · subst z; rfl
        · rw [decide_eq_false z, decide_eq_true (by omega)]; rfl
      rw [this]
      exact k
    · have : isNm d = false := by
        cases z : isNm d with
        | false => rfl
        | true =>
          obtain ⟨i, rfl, h1, h2⟩ := isI_int z
          have : isI (.int i) 0 4294967295 = true := by
            show (decide ((0 : Int) ≤ i) && decide (i ≤ 4294967295)) = true
            rw [decide_eq_true (show (0 : Int) ≤ i by omega), decide_eq_true h2]; rfl
          rw [this] at e; cases e
      rw [this] at k
      exact k
abbrev s_is_number : Stmt := topS 13
abbrev ns_is_number : List Str := ["value"]
theorem sc_is_number : FnScope ns_is_number ["value"] (defScope s_is_number) := ⟨rfl, rfl, rfl, by decide +kernel, rfl, by decide +kernel, by decide +kernel⟩

theorem ok_is_number {f : Addr} {fd : FuncData} (F : Fun K "_is_number" "_is_number" s_is_number f fd) (T : Txt K mg  w A_PARTS) (D_is_between : Dfn P w K mg base CX0 2 "is_between" ["value", "least", "most"] spBtw) : FnOk P w K mg base CX0 3 f fd ["value"] (spD0 isNum) := by
  refine F.ok sc_is_number (fun vs H Q E h => ?_) (fun cdv A outer s H vs Q E hr h => ?_)
  · obtain ⟨v, d, rfl, _⟩ := h
    rfl
  · obtain ⟨v, d, rfl, hd, k⟩ := h
    refine ⟨_, (pss_one (ps_ret (pe_dcall D_is_between (hr.mono (by decide)) (by rfl) pass0 (pa_cons (pv 0) (pa_cons pe_int (pa_cons (pe_gint (by rfl) T.c_MOST_WORDS) pa_nil)))))), ?_⟩
    walk_at "run"
    exact ⟨_, d, _, _, rfl, hd, k⟩
abbrev s_is_path : Stmt := topS 12
abbrev ns_is_path : List Str := ["value", "name"]
theorem sc_is_path : FnScope ns_is_path ["value"] (defScope s_is_path) := ⟨rfl, rfl, rfl, by decide +kernel, rfl, by decide +kernel, by decide +kernel⟩

theorem ok_is_path {f : Addr} {fd : FuncData} (F : Fun K "_is_path" "_is_path" s_is_path f fd) (T : Txt K mg  w A_PARTS) (D_is_name : Dfn P w K mg base CX0 4 "is_name" ["value"] (spD0 isNm)) : FnOk P w K mg base CX0 5 f fd ["value"] (spD isPath) := by
  refine F.ok sc_is_path (fun vs H Q E h => ?_) (fun cdv A outer s H vs Q E hr h => ?_)
  · obtain ⟨v, d, rfl, _⟩ := h
    rfl
  · obtain ⟨v, d, rfl, hd, hz, k⟩ := h
    refine ⟨_, (pss_one (ps_ret (pe_and (pe_callB (kIsi K) (by rfl) T.b_isinstance (by decide +kernel) (pa_cons (pv 0) (pa_cons (pe_bltn (v := .ty "tuple") (by rfl) T.b_tuple (by decide +kernel) rfl) pa_nil))) (pe_one (pe_callB (kAll K rfl) (by rfl) T.b_all (by decide +kernel) (pa_cons (pe_lc (own := [("name", 1)]) (by rfl) sc_is_path.nd (kpiT K (pv 0)) (blkOk_by (N := ns_is_path) (sc := defScope s_is_path) (by decide +kernel)) (fun _ _ _ _ _ => (pg_name (i := 1) sc_is_path.nd rfl (Or.inl rfl))) (fun _ _ _ _ _ => pts_nil) (fun _ _ _ _ _ => (pe_dcall D_is_name (hr.mono (by decide)) (by rfl) pass0 (pa_cons (pv 1) pa_nil)))) pa_nil)))))), ?_⟩
    refine ⟨_, rfl, _, _, _, _, _, rfl, .ty _, hd.ty, kit_ty (kitTup d), _, rfl, ?_⟩
    cases hd with
    | @tup a xs ds ha hs =>
      have hlen := hs.len
      have hz' := hz ds rfl
      refine iteT ?_
      walk_at "run"
      refine ⟨⟨_, SqT.of ha⟩, fun D hD => ?_⟩
      refine lcT (xs := xs) ((ds.map isNm).map V.bl) (by simp [hlen]) (by omega) ha hD ?_ ?_
      · intro j x y H1 Q' hx hy s1 q
        obtain ⟨d, hd1, hd2⟩ := hs.getV hx
        have ey : y = .bl (isNm d) := by
          rw [List.getElem?_map, List.getElem?_map, hd1] at hy
          exact (Option.some.inj hy).symm
        subst ey
        refine ⟨rfl, ?_⟩
        walk_at "run"
        exact ⟨_, d, rfl, hd2.same s1, q H1 (Same.refl _)⟩
      · intro H1 s1 d1
        refine ⟨_, _, rfl, SqL.of d1, ?_⟩
        have e : isPath (.tuple ds) = (ds.map isNm).all id := by
          show ds.all isNm = _
          simp
        rw [e] at k
        exact k H1 s1
    | int i => exact iteF (k H (Same.refl H))
    | bl b => exact iteF (k H (Same.refl H))
    | non => exact iteF (k H (Same.refl H))
    | str x => exact iteF (k H (Same.refl H))
    | lst a b => exact iteF (k H (Same.refl H))
abbrev s_are_words : Stmt := topS 14
abbrev ns_are_words : List Str := ["value", "word"]
theorem sc_are_words : FnScope ns_are_words ["value"] (defScope s_are_words) := ⟨rfl, rfl, rfl, by decide +kernel, rfl, by decide +kernel, by decide +kernel⟩

theorem ok_are_words {f : Addr} {fd : FuncData} (F : Fun K "_are_words" "_are_words" s_are_words f fd) (T : Txt K mg  w A_PARTS) (D_is_between : Dfn P w K mg base CX0 2 "is_between" ["value", "least", "most"] spBtw) (D_is_word : Dfn P w K mg base CX0 3 "is_word" ["value"] spWord) : FnOk P w K mg base CX0 4 f fd ["value"] (spD areW) := by
  refine F.ok sc_are_words (fun vs H Q E h => ?_) (fun cdv A outer s H vs Q E hr h => ?_)
  · obtain ⟨v, d, rfl, _⟩ := h
    rfl
  · obtain ⟨v, d, rfl, hd, hz, k⟩ := h
    refine ⟨_, (pss_cons (ps_if (PW.pt (pw_or (pt_not (pt_val (pe_callB (kIsi K) (by rfl) T.b_isinstance (by decide +kernel) (pa_cons (pv 0) (pa_cons (pe_bltn (v := .ty "tuple") (by rfl) T.b_tuple (by decide +kernel) rfl) pa_nil))))) (pw_or1 (pt_not (pt_val (pe_dcall D_is_between (hr.mono (by decide)) (by rfl) pass0 (pa_cons (pe_callB (kLen K) (by rfl) T.b_len (by decide +kernel) (pa_cons (pv 0) pa_nil)) (pa_cons pe_int (pa_cons (pe_gint (by rfl) T.c_MOST_WORDS) pa_nil))))))))) (pss_one (ps_ret pe_bl)) pss_nil)
  (pss_one (ps_ret (pe_callB (kAll K rfl) (by rfl) T.b_all (by decide +kernel) (pa_cons (pe_lc (own := [("word", 1)]) (by rfl) sc_are_words.nd (kpiT K (pv 0)) (blkOk_by (N := ns_are_words) (sc := defScope s_are_words) (by decide +kernel)) (fun _ _ _ _ _ => (pg_name (i := 1) sc_are_words.nd rfl (Or.inl rfl))) (fun _ _ _ _ _ => pts_nil) (fun _ _ _ _ _ => (pe_dcall D_is_word (hr.mono (by decide)) (by rfl) pass0 (pa_cons (pv 1) pa_nil)))) pa_nil))))), ?_⟩
    refine ⟨_, rfl, _, _, _, _, _, rfl, .ty _, hd.ty, kit_ty (kitTup d), _, rfl, ?_⟩
    cases hd with
    | @tup a xs ds ha hs =>
      have hlen := hs.len
      have hz' := hz ds rfl
      refine iteF ?_
      walk_at "run"
      refine ⟨_, .int (xs.length : Int), _, _, rfl, .int _, _, rfl, ?_⟩
      have el : isI (.int (xs.length : Int)) 1 48 = decide (1 ≤ ds.length ∧ ds.length ≤ 48) := by
        show (decide ((1 : Int) ≤ xs.length) && decide ((xs.length : Int) ≤ 48)) = _
        rw [hlen, Bool.decide_and]
        congr 1 <;> exact decide_eq_decide.mpr (by omega)
      rw [el]
      have ea : areW (.tuple ds) = (decide (1 ≤ ds.length ∧ ds.length ≤ 48) && ds.all fun d => isI d 0 4294967295) := rfl
      rw [ea] at k
      cases hc : decide (1 ≤ ds.length ∧ ds.length ≤ 48) with
      | false =>
        rw [hc] at k
        exact iteT (k H (Same.refl H))
      | true =>
        rw [hc, Bool.true_and] at k
        refine iteF ?_
        walk_at "run"
        refine ⟨⟨_, SqT.of ha⟩, fun D hD => ?_⟩
        refine lcT (xs := xs) ((ds.map fun d => isI d 0 4294967295).map V.bl) (by simp [hlen]) (by omega) ha hD ?_ ?_
        · intro j x y H1 Q' hx hy s1 q
          obtain ⟨d, hd1, hd2⟩ := hs.getV hx
          have ey : y = .bl (isI d 0 4294967295) := by
            rw [List.getElem?_map, List.getElem?_map, hd1] at hy
            exact (Option.some.inj hy).symm
          subst ey
          refine ⟨rfl, ?_⟩
          walk_at "run"
          exact ⟨_, d, rfl, hd2.same s1, q H1 (Same.refl _)⟩
        · intro H1 s1 d1
          refine ⟨_, _, rfl, SqL.of d1, ?_⟩
          have e : (ds.all fun d => isI d 0 4294967295) = (ds.map fun d => isI d 0 4294967295).all id := by simp
          rw [e] at k
          exact k H1 s1
    | int i => exact iteT (k H (Same.refl H))
    | bl b => exact iteT (k H (Same.refl H))
    | non => exact iteT (k H (Same.refl H))
    | str x => exact iteT (k H (Same.refl H))
    | lst a b => exact iteT (k H (Same.refl H))
abbrev s_are_none : Stmt := topS 15
abbrev ns_are_none : List Str := ["parts"]
theorem sc_are_none : FnScope ns_are_none ["parts"] (defScope s_are_none) := ⟨rfl, rfl, rfl, by decide +kernel, rfl, by decide +kernel, by decide +kernel⟩

theorem ok_are_none {f : Addr} {fd : FuncData} (F : Fun K "_are_none" "_are_none" s_are_none f fd) (T : Txt K mg  w A_PARTS) : FnOk P w K mg base CX0 1 f fd ["parts"] (spParts pNone) := by
  refine F.ok sc_are_none (fun vs H Q E h => ?_) (fun cdv A outer s H vs Q E hr h => ?_)
  · obtain ⟨v, ds, rfl, _⟩ := h
    rfl
  · obtain ⟨v, ds, rfl, hd, hz, _, k⟩ := h
    refine ⟨_, (pss_one (ps_ret (pe_cmpR op_eq (pe_callB (kLen K) (by rfl) T.b_len (by decide +kernel) (pa_cons (pv 0) pa_nil)) pe_int (nomark _)))), ?_⟩
    cases hd with
    | @tup a xs ds ha hs =>
      have hlen := hs.len
      walk_at "run"
      have e : decide (V.int (xs.length : Int) = V.int 0) = pNone ds := by
        rw [show (0 : Int) = ((0 : Nat) : Int) from rfl, lenV, hlen]; rfl
      show Q (.bl (decide (V.int (xs.length : Int) = V.int 0))) H
      rw [e]
      exact k H (Same.refl H)
abbrev s_is_one_number : Stmt := topS 17
abbrev ns_is_one_number : List Str := ["parts"]
theorem sc_is_one_number : FnScope ns_is_one_number ["parts"] (defScope s_is_one_number) := ⟨rfl, rfl, rfl, by decide +kernel, rfl, by decide +kernel, by decide +kernel⟩

theorem ok_is_one_number {f : Addr} {fd : FuncData} (F : Fun K "_is_one_number" "_is_one_number" s_is_one_number f fd) (T : Txt K mg  w A_PARTS) (D_is_number : Dfn P w K mg base CX0 3 "_is_number" ["value"] (spD0 isNum)) : FnOk P w K mg base CX0 4 f fd ["parts"] (spParts pNum) := by
  refine F.ok sc_is_one_number (fun vs H Q E h => ?_) (fun cdv A outer s H vs Q E hr h => ?_)
  · obtain ⟨v, ds, rfl, _⟩ := h
    rfl
  · obtain ⟨v, ds, rfl, hd, hz, _, k⟩ := h
    refine ⟨_, (pss_one (ps_ret (pe_and (pe_cmpR op_eq (pe_callB (kLen K) (by rfl) T.b_len (by decide +kernel) (pa_cons (pv 0) pa_nil)) pe_int (nomark _)) (pe_one (pe_dcall D_is_number (hr.mono (by decide)) (by rfl) pass0 (pa_cons (pe_ix (kIxT K) (pv 0) pe_int (fun _ _ => rfl)) pa_nil)))))), ?_⟩
    cases hd with
    | @tup a xs ds ha hs =>
      have hlen := hs.len
      walk_at "run"
      match ds, hs, k with
      | [], .nil, k => exact iteF (k H (Same.refl H))
      | [d], .cons h1 .nil, k =>
        refine iteT ?_
        walk_at "run"
        exact ⟨_, d, rfl, h1, k H (Same.refl H)⟩
      | d :: e :: r, .cons h1 (.cons h2 h3), k =>
        rw [show (1 : Int) = ((1 : Nat) : Int) from rfl, lenV, decide_eq_false (by simp)]
        exact iteF (k H (Same.refl H))
abbrev s_are_two_numbers : Stmt := topS 18
abbrev ns_are_two_numbers : List Str := ["parts"]
theorem sc_are_two_numbers : FnScope ns_are_two_numbers ["parts"] (defScope s_are_two_numbers) := ⟨rfl, rfl, rfl, by decide +kernel, rfl, by decide +kernel, by decide +kernel⟩

theorem ok_are_two_numbers {f : Addr} {fd : FuncData} (F : Fun K "_are_two_numbers" "_are_two_numbers" s_are_two_numbers f fd) (T : Txt K mg  w A_PARTS) (D_is_number : Dfn P w K mg base CX0 3 "_is_number" ["value"] (spD0 isNum)) : FnOk P w K mg base CX0 4 f fd ["parts"] (spParts pTwo) := by
  refine F.ok sc_are_two_numbers (fun vs H Q E h => ?_) (fun cdv A outer s H vs Q E hr h => ?_)
  · obtain ⟨v, ds, rfl, _⟩ := h
    rfl
  · obtain ⟨v, ds, rfl, hd, hz, _, k⟩ := h
    refine ⟨_, (pss_one (ps_ret (pe_and (pe_cmpR op_eq (pe_callB (kLen K) (by rfl) T.b_len (by decide +kernel) (pa_cons (pv 0) pa_nil)) pe_int (nomark _)) (pe_and (pe_dcall D_is_number (hr.mono (by decide)) (by rfl) pass0 (pa_cons (pe_ix (kIxT K) (pv 0) pe_int (fun _ _ => rfl)) pa_nil)) (pe_one (pe_dcall D_is_number (hr.mono (by decide)) (by rfl) pass0 (pa_cons (pe_ix (kIxT K) (pv 0) pe_int (fun _ _ => rfl)) pa_nil))))))), ?_⟩
    cases hd with
    | @tup a xs ds ha hs =>
      have hlen := hs.len
      walk_at "run"
      match ds, hs, k with
      | [], .nil, k => exact iteF (k H (Same.refl H))
      | [d], .cons h1 .nil, k => exact iteF (k H (Same.refl H))
      | [d, e], .cons h1 (.cons h2 .nil), k =>
        refine iteT ?_
        walk_at "run"
        refine ⟨_, d, rfl, h1, _, rfl, ?_⟩
        have k' : ∀ H', Same H H' → Q (.bl (isNum d && isNum e)) H' := k
        cases hd : isNum d with
        | false =>
          rw [hd] at k'
          exact iteF (k' H (Same.refl H))
        | true =>
          rw [hd, Bool.true_and] at k'
          refine iteT ?_
          walk_at "run"
          exact ⟨_, e, rfl, h2, k' H (Same.refl H)⟩
      | d :: e :: c :: r, .cons h1 (.cons h2 (.cons h3 h4)), k =>
        rw [show (2 : Int) = ((2 : Nat) : Int) from rfl, lenV, decide_eq_false (by simp)]
        exact iteF (k H (Same.refl H))
abbrev s_are_place_and_words : Stmt := topS 19
abbrev ns_are_place_and_words : List Str := ["parts"]
theorem sc_are_place_and_words : FnScope ns_are_place_and_words ["parts"] (defScope s_are_place_and_words) := ⟨rfl, rfl, rfl, by decide +kernel, rfl, by decide +kernel, by decide +kernel⟩

theorem ok_are_place_and_words {f : Addr} {fd : FuncData} (F : Fun K "_are_place_and_words" "_are_place_and_words" s_are_place_and_words f fd) (T : Txt K mg  w A_PARTS) (D_is_number : Dfn P w K mg base CX0 3 "_is_number" ["value"] (spD0 isNum)) (D_are_words : Dfn P w K mg base CX0 4 "_are_words" ["value"] (spD areW)) : FnOk P w K mg base CX0 5 f fd ["parts"] (spParts pPut) := by
  refine F.ok sc_are_place_and_words (fun vs H Q E h => ?_) (fun cdv A outer s H vs Q E hr h => ?_)
  · obtain ⟨v, ds, rfl, _⟩ := h
    rfl
  · obtain ⟨v, ds, rfl, hd, hz, hin, k⟩ := h
    refine ⟨_, (pss_one (ps_ret (pe_and (pe_cmpR op_eq (pe_callB (kLen K) (by rfl) T.b_len (by decide +kernel) (pa_cons (pv 0) pa_nil)) pe_int (nomark _)) (pe_and (pe_dcall D_is_number (hr.mono (by decide)) (by rfl) pass0 (pa_cons (pe_ix (kIxT K) (pv 0) pe_int (fun _ _ => rfl)) pa_nil)) (pe_one (pe_dcall D_are_words (hr.mono (by decide)) (by rfl) pass0 (pa_cons (pe_ix (kIxT K) (pv 0) pe_int (fun _ _ => rfl)) pa_nil))))))), ?_⟩
    cases hd with
    | @tup a xs ds ha hs =>
      have hlen := hs.len
      walk_at "run"
      match ds, hs, k, hin with
      | [], .nil, k, _ => exact iteF (k H (Same.refl H))
      | [d], .cons h1 .nil, k, _ => exact iteF (k H (Same.refl H))
      | [d, e], .cons h1 (.cons h2 .nil), k, hin =>
        refine iteT ?_
        walk_at "run"
        refine ⟨_, d, rfl, h1, _, rfl, ?_⟩
        have k' : ∀ H', Same H H' → Q (.bl (isNum d && areW e)) H' := k
        cases hd : isNum d with
        | false =>
          rw [hd] at k'
          exact iteF (k' H (Same.refl H))
        | true =>
          rw [hd, Bool.true_and] at k'
          refine iteT ?_
          walk_at "run"
          exact ⟨_, e, rfl, h2, hin e (by simp), k'⟩
      | d :: e :: c :: r, .cons h1 (.cons h2 (.cons h3 h4)), k, _ =>
        rw [show (2 : Int) = ((2 : Nat) : Int) from rfl, lenV, decide_eq_false (by simp)]
        exact iteF (k H (Same.refl H))
abbrev s_is_one_kind : Stmt := topS 16
abbrev ns_is_one_kind : List Str := ["parts"]
theorem sc_is_one_kind : FnScope ns_is_one_kind ["parts"] (defScope s_is_one_kind) := ⟨rfl, rfl, rfl, by decide +kernel, rfl, by decide +kernel, by decide +kernel⟩

theorem ok_is_one_kind {f : Addr} {fd : FuncData} (F : Fun K "_is_one_kind" "_is_one_kind" s_is_one_kind f fd) (T : Txt K mg  w A_PARTS) : FnOk P w K mg base CX0 1 f fd ["parts"] (spParts pKind) := by
  refine F.ok sc_is_one_kind (fun vs H Q E h => ?_) (fun cdv A outer s H vs Q E hr h => ?_)
  · obtain ⟨v, ds, rfl, _⟩ := h
    rfl
  · obtain ⟨v, ds, rfl, hd, hz, _, k⟩ := h
    refine ⟨_, (pss_one (ps_ret (pe_and (pe_cmpR op_eq (pe_callB (kLen K) (by rfl) T.b_len (by decide +kernel) (pa_cons (pv 0) pa_nil)) pe_int (nomark _)) (pe_and (pe_callB (kIsi K) (by rfl) T.b_isinstance (by decide +kernel) (pa_cons (pe_ix (kIxT K) (pv 0) pe_int (fun _ _ => rfl)) (pa_cons (pe_bltn (v := .ty "str") (by rfl) T.b_str (by decide +kernel) rfl) pa_nil))) (pe_one (pe_cmpR (kIn K) (pe_ix (kIxT K) (pv 0) pe_int (fun _ _ => rfl)) (pe_tup (pa_cons pe_str (pa_cons pe_str pa_nil))) (by rfl))))))), ?_⟩
    cases hd with
    | @tup a xs ds ha hs =>
      have hlen := hs.len
      walk_at "run"
      match ds, hs, k with
      | [], .nil, k => exact iteF (k H (Same.refl H))
      | [d], .cons h1 .nil, k =>
        refine iteT ?_
        walk_at "run"
        refine ⟨_, _, _, _, _, rfl, .ty _, h1.ty, kit_ty (kitStr d), _, rfl, ?_⟩
        cases h1 with
        | str z =>
          refine iteT ?_
          walk_at "run"
          refine ⟨szl rfl, fun q hq => ⟨q, _, rfl, .inr (SqT.of upd_same), rfl, rfl, ?_⟩⟩
          have e0 : inV (V.str z) [V.str "dir", V.str "file"] = pKind [.str z] := rfl
          show Q (.bl (inV (V.str z) [V.str "dir", V.str "file"])) _
          rw [e0]
          exact k _ (Same.new hq)
        | int i => exact iteF (k H (Same.refl H))
        | bl b => exact iteF (k H (Same.refl H))
        | non => exact iteF (k H (Same.refl H))
        | tup a b => exact iteF (k H (Same.refl H))
        | lst a b => exact iteF (k H (Same.refl H))
      | d :: e :: r, .cons h1 (.cons h2 h3), k =>
        have e0 : pKind (d :: e :: r) = false := by cases d <;> rfl
        rw [e0] at k
        rw [show (1 : Int) = ((1 : Nat) : Int) from rfl, lenV, decide_eq_false (by simp)]
        exact iteF (k H (Same.refl H))
end
end My

namespace My
open PySem L2
local macro_rules | `(tactic| walk_at "ne") => `(tactic| first | assumption | exact Ne.symm (by assumption) | exact ne_of_none (by assumption) (by assumption) | exact Ne.symm (ne_of_none (by assumption) (by assumption)))
local macro_rules | `(tactic| walk_at "hp") => `(tactic| first | assumption | with_reducible exact upd_same | (with_reducible refine Eq.trans (upd_ne ?_) ?_; rotate_left; walk_at "hp"; walk_at "ne"))
local macro_rules | `(tactic| walk_at "cnd") => `(tactic| first | omega | (show (0 : Int) < _; omega) | exact ⟨by omega, by omega⟩ | exact Or.inl ⟨by omega, by omega⟩ | exact Or.inr ⟨by omega, by omega⟩ | exact ⟨by omega, by omega, by decide⟩ | exact ⟨by omega, by omega, by omega⟩)
local macro_rules | `(tactic| walk_at "at") => `(tactic| first | exact atC 0 rfl rfl | exact atC 1 rfl rfl | exact atC 2 rfl rfl | exact atC 3 rfl rfl | exact atC 4 rfl rfl | exact atC 5 rfl rfl | exact atC 6 rfl rfl | exact atC 7 rfl rfl)
local macro_rules | `(tactic| walk_at "ix") => `(tactic| first | exact ixC 0 rfl (Nat.le_of_ble_eq_true rfl) | exact ixC 1 rfl (Nat.le_of_ble_eq_true rfl) | exact ixC 2 rfl (Nat.le_of_ble_eq_true rfl) | exact ixC 3 rfl (Nat.le_of_ble_eq_true rfl) | exact ixC 4 rfl (Nat.le_of_ble_eq_true rfl) | exact ixC 5 rfl (Nat.le_of_ble_eq_true rfl))
local macro_rules | `(tactic| walk_at "st") => `(tactic| first
  | refine ⟨_, rfl, ?_⟩
  | refine ⟨_, _, rfl, rfl, (by walk_at "cnd" : (_ : Prop)), ?_⟩
  | refine ⟨_, _, rfl, rfl, ?_⟩
  | refine ⟨rfl, ?_⟩
  | refine Or.inl ⟨_, rfl, ?_⟩
  | refine ⟨_, _, _, _, rfl, rfl, by exact SqL.of (by walk_at "hp"), by walk_at "at", ?_⟩
  | refine ⟨_, _, _, _, rfl, rfl, by exact SqT.of (by walk_at "hp"), by walk_at "at", ?_⟩
  | refine ⟨_, _, _, _, rfl, rfl, by walk_at "hp", by walk_at "ix", ?_⟩
  | refine ⟨_, _, rfl, Or.inl (by exact SqL.of (by walk_at "hp")), ?_⟩
  | refine ⟨_, _, rfl, Or.inr (by exact SqT.of (by walk_at "hp")), ?_⟩)
local macro_rules | `(tactic| walk_at "so") => `(tactic| first
  | refine ⟨_, _, _, _, _, rfl, by walk_at "hp", by assumption, by assumption, rfl, ?_⟩
  | refine ⟨_, _, _, _, rfl, by walk_at "hp", by assumption, by assumption, Nat.le_of_ble_eq_true rfl, ?_⟩
  | refine ⟨_, _, _, rfl, by walk_at "hp", rfl, ?_⟩
  | walk_at "st")
local macro_rules | `(tactic| walk_at "ro") => `(tactic| repeat walk_at "so")
local macro_rules | `(tactic| walk_at "run") => `(tactic| repeat walk_at "st")

def partsOf (z : Str) : Option (List PyData → Bool) :=
  if z = "make" then some pKind else if z = "put" then some pPut else if z = "get" then some pTwo else if z = "size" then some pNone else if z = "shrink" then some pNum else if z = "drop" then some pNone else if z = "list" then some pNone else none
def words8 : List Str := ["make", "put", "get", "size", "shrink", "drop", "list", "sync"]
def isReq : PyData → Bool
  | .tuple (.str z :: p :: ds) => match partsOf z with
    | some g => isPath p && g ds
    | none => false
  | _ => false
structure okReq (d : PyData) : Prop where
  word : ∀ z ds, d = .tuple (.str z :: ds) → z ∈ words8
  len : ∀ ds, d = .tuple ds → ds.length ≤ 1000 ∧ ∀ e ∈ ds, ∀ es, e = .tuple es → es.length ≤ 1000
def spReq : Sp := fun vs H Q _ => ∃ v d, vs = [v] ∧ Dt H v d ∧ okReq d ∧ ∀ H', Same H H' → Q (.bl (isReq d)) H'
theorem sl2 (x y : V) (r : List V) : ¬ HT.sIx (x :: y :: r).length 0 (some 2) = 0 := by
  rw [show (2 : Int) = ((2 : Nat) : Int) from rfl, HT.sIx_nat]
  simp
theorem cut2 (x y : V) (r : List V) : cutV (x :: y :: r) (some 2) none = r := by
  unfold cutV
  rw [show (2 : Int) = ((2 : Nat) : Int) from rfl, HT.sIx_nat, HT.sIx_none]
  have e : min 2 (x :: y :: r).length = 2 := by simp
  rw [e]
  show r.take _ = r
  exact List.take_of_length_le (by simp)
section
variable {P : Program} {w : World} {K : PySem.W.Frag} {mg : Str → Option Value} {base : Heap} {A_PARTS : Addr}
abbrev s_is_request : Stmt := topS 11
abbrev ns_is_request : List Str := ["value", "are_parts"]
theorem sc_is_request : FnScope ns_is_request ["value"] (defScope s_is_request) := ⟨rfl, rfl, rfl, by decide +kernel, rfl, by decide +kernel, by decide +kernel⟩

theorem ok_is_request {f : Addr} {fd : FuncData} (F : Fun K "is_request" "is_request" s_is_request f fd) (T : Txt K mg  w A_PARTS) (D_is_path : Dfn P w K mg base CX0 5 "_is_path" ["value"] (spD isPath)) (D_is_one_kind : Dfn P w K mg base CX0 1 "_is_one_kind" ["parts"] (spParts pKind)) (D_are_place_and_words : Dfn P w K mg base CX0 5 "_are_place_and_words" ["parts"] (spParts pPut))
    (D_are_two_numbers : Dfn P w K mg base CX0 4 "_are_two_numbers" ["parts"] (spParts pTwo)) (D_are_none : Dfn P w K mg base CX0 1 "_are_none" ["parts"] (spParts pNone)) (D_is_one_number : Dfn P w K mg base CX0 4 "_is_one_number" ["parts"] (spParts pNum)) : FnOk P w K mg base CX0 6 f fd ["value"] spReq := by
  refine F.ok sc_is_request (fun vs H Q E h => ?_) (fun cdv A outer s H vs Q E hr h => ?_)
  · obtain ⟨v, d, rfl, _⟩ := h
    rfl
  · obtain ⟨v, d, rfl, hd, ok, k⟩ := h
    refine ⟨_, (pss_cons (ps_if (PW.pt (pw_or (pt_not (pt_val (pe_callB (kIsi K) (by rfl) T.b_isinstance (by decide +kernel) (pa_cons (pv 0) (pa_cons (pe_bltn (v := .ty "tuple") (by rfl) T.b_tuple (by decide +kernel) rfl) pa_nil))))) (pw_or (pt_cmpR op_lt (pe_callB (kLen K) (by rfl) T.b_len (by decide +kernel) (pa_cons (pv 0) pa_nil)) pe_int (nomark _)) (pw_or1 (pt_not (pt_val (pe_callB (kIsi K) (by rfl) T.b_isinstance (by decide +kernel) (pa_cons (pe_ix (kIxT K) (pv 0) pe_int (fun _ _ => rfl)) (pa_cons (pe_bltn (v := .ty "str") (by rfl) T.b_str (by decide +kernel) rfl) pa_nil))))))))) (pss_one (ps_ret pe_bl)) pss_nil)
  (pss_cons (ps_set (i := 1) sc_is_request.nd rfl (Or.inl rfl) (pe_kget K w (by rfl) T.c__PARTS T.k__PARTS (pe_ix (kIxT K) (pv 0) pe_int (fun _ _ => rfl)) ⟨rfl, rfl, rfl, rfl⟩))
  (pss_cons (ps_if (PW.pt (pw_or (pt_cmpR op_isN (pv 1) pe_non (nomark _)) (pw_or1 (pt_not (pt_val (pe_dcall D_is_path (hr.mono (by decide)) (by rfl) pass0 (pa_cons (pe_ix (kIxT K) (pv 0) pe_int (fun _ _ => rfl)) pa_nil))))))) (pss_one (ps_ret pe_bl)) pss_nil)
  (pss_one (ps_ret (pe_orT (pe_callD (i := 1) D_is_one_kind (hr.mono (by decide)) pass0 rfl (Or.inl rfl) (pa_cons (pe_slice (kSlT K) (pv 0) (po_some pe_int) po_none) pa_nil)) (pe_orT (pe_callD (i := 1) D_are_place_and_words (hr.mono (by decide)) pass0 rfl (Or.inl rfl) (pa_cons (pe_slice (kSlT K) (pv 0) (po_some pe_int) po_none) pa_nil)) (pe_orT (pe_callD (i := 1) D_are_two_numbers (hr.mono (by decide)) pass0 rfl (Or.inl rfl) (pa_cons (pe_slice (kSlT K) (pv 0) (po_some pe_int) po_none) pa_nil)) (pe_orT (pe_callD (i := 1) D_are_none (hr.mono (by decide)) pass0 rfl (Or.inl rfl) (pa_cons (pe_slice (kSlT K) (pv 0) (po_some pe_int) po_none) pa_nil)) (pe_callD (i := 1) D_is_one_number (hr.mono (by decide)) pass0 rfl (Or.inl rfl) (pa_cons (pe_slice (kSlT K) (pv 0) (po_some pe_int) po_none) pa_nil))))))))))), ?_⟩
    refine ⟨_, rfl, _, _, _, _, _, rfl, .ty _, hd.ty, kit_ty (kitTup d), _, rfl, ?_⟩
    cases hd with
    | @tup a xs ds ha hs =>
      have hlen := hs.len
      obtain ⟨hz, hin⟩ := ok.len ds rfl
      refine iteF ?_
      match ds, hs, ok, k, hin, hz with
      | [], .nil, _, k, _, _ =>
        refine ⟨_, rfl, _, _, rfl, .inr (SqT.of ha), _, _, rfl, rfl, _, rfl, ?_⟩
        exact iteD (fun _ => iteT (k H (Same.refl H))) (fun h => absurd (by decide) h)
      | [d], .cons h1 .nil, _, k, _, _ =>
        have e0 : isReq (.tuple [d]) = false := by cases d <;> rfl
        rw [e0] at k
        refine ⟨_, rfl, _, _, rfl, .inr (SqT.of ha), _, _, rfl, rfl, _, rfl, ?_⟩
        exact iteD (fun _ => iteT (k H (Same.refl H))) (fun h => absurd (by simp) h)
      | d :: p :: r, .cons h1 (.cons h2 h3), ok, k, hin, hz =>
        refine ⟨_, rfl, _, _, rfl, .inr (SqT.of ha), _, _, rfl, rfl, _, rfl, ?_⟩
        refine iteD (fun h => absurd h (by simp; omega)) (fun _ => ?_)
        refine ⟨_, rfl, _, _, _, _, rfl, rfl, SqT.of ha, atC 0 rfl rfl, _, _, _, _, _, rfl, .ty _, h1.ty, kit_ty (kitStr d), _, rfl, ?_⟩
        cases h1 with
        | str z =>
          refine iteF ?_
          have hw := ok.word z (p :: r) rfl
          unfold words8 at hw
          simp only [List.mem_cons, List.not_mem_nil, or_false] at hw
          rcases hw with rfl | rfl | rfl | rfl | rfl | rfl | rfl | rfl
          · obtain ⟨f, hf, hk⟩ := T.g_make
            have e0 : isReq (.tuple (.str "make" :: p :: r)) = (isPath p && pKind r) := rfl
            rw [e0] at k
            refine ⟨_, rfl, _, _, _, _, rfl, rfl, SqT.of ha, atC 0 rfl rfl, "make", some (.ref f), rfl, hk, ?_⟩
            refine ⟨_, rfl, rfl, _, rfl, ?_⟩
            refine iteF ?_
            refine ⟨_, rfl, _, _, _, _, rfl, rfl, SqT.of ha, atC 1 rfl rfl, _, p, rfl, h2, fun es e => hin p (by simp) es e, fun H1 s1 => ⟨_, rfl, ?_⟩⟩
            cases hp : isPath p with
            | false =>
              rw [hp] at k
              exact iteT (k H1 s1)
            | true =>
              rw [hp, Bool.true_and] at k
              refine iteF ?_
              refine .inl (⟨⟨f, hf, rfl⟩, _, rfl, _, rfl, a, _, rfl, SqT.of (s1 _ _ ha), fun h => absurd h.1 (sl2 _ _ _), fun _ q hq => ?_⟩)
              rw [cut2]
              exact ⟨_, r, rfl, .tup upd_same (h3.same (s1.trans (Same.new hq))), by simp at hz; omega, fun d hd => hin d (by simp [hd]), fun H' s' => k H' ((s1.trans (Same.new hq)).trans s')⟩
          · obtain ⟨f, hf, hk⟩ := T.g_put
            have e0 : isReq (.tuple (.str "put" :: p :: r)) = (isPath p && pPut r) := rfl
            rw [e0] at k
            refine ⟨_, rfl, _, _, _, _, rfl, rfl, SqT.of ha, atC 0 rfl rfl, "put", some (.ref f), rfl, hk, ?_⟩
            refine ⟨_, rfl, rfl, _, rfl, ?_⟩
            refine iteF ?_
            refine ⟨_, rfl, _, _, _, _, rfl, rfl, SqT.of ha, atC 1 rfl rfl, _, p, rfl, h2, fun es e => hin p (by simp) es e, fun H1 s1 => ⟨_, rfl, ?_⟩⟩
            cases hp : isPath p with
            | false =>
              rw [hp] at k
              exact iteT (k H1 s1)
            | true =>
              rw [hp, Bool.true_and] at k
              refine iteF ?_
              refine .inr (.inl (⟨⟨f, hf, rfl⟩, _, rfl, _, rfl, a, _, rfl, SqT.of (s1 _ _ ha), fun h => absurd h.1 (sl2 _ _ _), fun _ q hq => ?_⟩))
              rw [cut2]
              exact ⟨_, r, rfl, .tup upd_same (h3.same (s1.trans (Same.new hq))), by simp at hz; omega, fun d hd => hin d (by simp [hd]), fun H' s' => k H' ((s1.trans (Same.new hq)).trans s')⟩
          · obtain ⟨f, hf, hk⟩ := T.g_get
            have e0 : isReq (.tuple (.str "get" :: p :: r)) = (isPath p && pTwo r) := rfl
            rw [e0] at k
            refine ⟨_, rfl, _, _, _, _, rfl, rfl, SqT.of ha, atC 0 rfl rfl, "get", some (.ref f), rfl, hk, ?_⟩
            refine ⟨_, rfl, rfl, _, rfl, ?_⟩
            refine iteF ?_
            refine ⟨_, rfl, _, _, _, _, rfl, rfl, SqT.of ha, atC 1 rfl rfl, _, p, rfl, h2, fun es e => hin p (by simp) es e, fun H1 s1 => ⟨_, rfl, ?_⟩⟩
            cases hp : isPath p with
            | false =>
              rw [hp] at k
              exact iteT (k H1 s1)
            | true =>
              rw [hp, Bool.true_and] at k
              refine iteF ?_
              refine .inr (.inr (.inl (⟨⟨f, hf, rfl⟩, _, rfl, _, rfl, a, _, rfl, SqT.of (s1 _ _ ha), fun h => absurd h.1 (sl2 _ _ _), fun _ q hq => ?_⟩)))
              rw [cut2]
              exact ⟨_, r, rfl, .tup upd_same (h3.same (s1.trans (Same.new hq))), by simp at hz; omega, fun d hd => hin d (by simp [hd]), fun H' s' => k H' ((s1.trans (Same.new hq)).trans s')⟩
          · obtain ⟨f, hf, hk⟩ := T.g_size
            have e0 : isReq (.tuple (.str "size" :: p :: r)) = (isPath p && pNone r) := rfl
            rw [e0] at k
            refine ⟨_, rfl, _, _, _, _, rfl, rfl, SqT.of ha, atC 0 rfl rfl, "size", some (.ref f), rfl, hk, ?_⟩
            refine ⟨_, rfl, rfl, _, rfl, ?_⟩
            refine iteF ?_
            refine ⟨_, rfl, _, _, _, _, rfl, rfl, SqT.of ha, atC 1 rfl rfl, _, p, rfl, h2, fun es e => hin p (by simp) es e, fun H1 s1 => ⟨_, rfl, ?_⟩⟩
            cases hp : isPath p with
            | false =>
              rw [hp] at k
              exact iteT (k H1 s1)
            | true =>
              rw [hp, Bool.true_and] at k
              refine iteF ?_
              refine .inr (.inr (.inr (.inl (⟨⟨f, hf, rfl⟩, _, rfl, _, rfl, a, _, rfl, SqT.of (s1 _ _ ha), fun h => absurd h.1 (sl2 _ _ _), fun _ q hq => ?_⟩))))
              rw [cut2]
              exact ⟨_, r, rfl, .tup upd_same (h3.same (s1.trans (Same.new hq))), by simp at hz; omega, fun d hd => hin d (by simp [hd]), fun H' s' => k H' ((s1.trans (Same.new hq)).trans s')⟩
          · obtain ⟨f, hf, hk⟩ := T.g_shrink
            have e0 : isReq (.tuple (.str "shrink" :: p :: r)) = (isPath p && pNum r) := rfl
            rw [e0] at k
            refine ⟨_, rfl, _, _, _, _, rfl, rfl, SqT.of ha, atC 0 rfl rfl, "shrink", some (.ref f), rfl, hk, ?_⟩
            refine ⟨_, rfl, rfl, _, rfl, ?_⟩
            refine iteF ?_
            refine ⟨_, rfl, _, _, _, _, rfl, rfl, SqT.of ha, atC 1 rfl rfl, _, p, rfl, h2, fun es e => hin p (by simp) es e, fun H1 s1 => ⟨_, rfl, ?_⟩⟩
            cases hp : isPath p with
            | false =>
              rw [hp] at k
              exact iteT (k H1 s1)
            | true =>
              rw [hp, Bool.true_and] at k
              refine iteF ?_
              refine .inr (.inr (.inr (.inr (⟨⟨f, hf, rfl⟩, _, rfl, _, rfl, a, _, rfl, SqT.of (s1 _ _ ha), fun h => absurd h.1 (sl2 _ _ _), fun _ q hq => ?_⟩))))
              rw [cut2]
              exact ⟨_, r, rfl, .tup upd_same (h3.same (s1.trans (Same.new hq))), by simp at hz; omega, fun d hd => hin d (by simp [hd]), fun H' s' => k H' ((s1.trans (Same.new hq)).trans s')⟩
          · obtain ⟨f, hf, hk⟩ := T.g_drop
            have e0 : isReq (.tuple (.str "drop" :: p :: r)) = (isPath p && pNone r) := rfl
            rw [e0] at k
            refine ⟨_, rfl, _, _, _, _, rfl, rfl, SqT.of ha, atC 0 rfl rfl, "drop", some (.ref f), rfl, hk, ?_⟩
            refine ⟨_, rfl, rfl, _, rfl, ?_⟩
            refine iteF ?_
            refine ⟨_, rfl, _, _, _, _, rfl, rfl, SqT.of ha, atC 1 rfl rfl, _, p, rfl, h2, fun es e => hin p (by simp) es e, fun H1 s1 => ⟨_, rfl, ?_⟩⟩
            cases hp : isPath p with
            | false =>
              rw [hp] at k
              exact iteT (k H1 s1)
            | true =>
              rw [hp, Bool.true_and] at k
              refine iteF ?_
              refine .inr (.inr (.inr (.inl (⟨⟨f, hf, rfl⟩, _, rfl, _, rfl, a, _, rfl, SqT.of (s1 _ _ ha), fun h => absurd h.1 (sl2 _ _ _), fun _ q hq => ?_⟩))))
              rw [cut2]
              exact ⟨_, r, rfl, .tup upd_same (h3.same (s1.trans (Same.new hq))), by simp at hz; omega, fun d hd => hin d (by simp [hd]), fun H' s' => k H' ((s1.trans (Same.new hq)).trans s')⟩
          · obtain ⟨f, hf, hk⟩ := T.g_list
            have e0 : isReq (.tuple (.str "list" :: p :: r)) = (isPath p && pNone r) := rfl
            rw [e0] at k
            refine ⟨_, rfl, _, _, _, _, rfl, rfl, SqT.of ha, atC 0 rfl rfl, "list", some (.ref f), rfl, hk, ?_⟩
            refine ⟨_, rfl, rfl, _, rfl, ?_⟩
            refine iteF ?_
            refine ⟨_, rfl, _, _, _, _, rfl, rfl, SqT.of ha, atC 1 rfl rfl, _, p, rfl, h2, fun es e => hin p (by simp) es e, fun H1 s1 => ⟨_, rfl, ?_⟩⟩
            cases hp : isPath p with
            | false =>
              rw [hp] at k
              exact iteT (k H1 s1)
            | true =>
              rw [hp, Bool.true_and] at k
              refine iteF ?_
              refine .inr (.inr (.inr (.inl (⟨⟨f, hf, rfl⟩, _, rfl, _, rfl, a, _, rfl, SqT.of (s1 _ _ ha), fun h => absurd h.1 (sl2 _ _ _), fun _ q hq => ?_⟩))))
              rw [cut2]
              exact ⟨_, r, rfl, .tup upd_same (h3.same (s1.trans (Same.new hq))), by simp at hz; omega, fun d hd => hin d (by simp [hd]), fun H' s' => k H' ((s1.trans (Same.new hq)).trans s')⟩
          · have e0 : isReq (.tuple (.str "sync" :: p :: r)) = false := rfl
            rw [e0] at k
            refine ⟨_, rfl, _, _, _, _, rfl, rfl, SqT.of ha, atC 0 rfl rfl, "sync", none, rfl, T.g_sync, ?_⟩
            refine ⟨_, rfl, rfl, _, rfl, ?_⟩
            exact iteT (iteT (k H (Same.refl H)))
        | int i => exact iteT (k H (Same.refl H))
        | bl b => exact iteT (k H (Same.refl H))
        | non => exact iteT (k H (Same.refl H))
        | tup a b => exact iteT (k H (Same.refl H))
        | lst a b => exact iteT (k H (Same.refl H))
    | int i => exact iteT (k H (Same.refl H))
    | bl b => exact iteT (k H (Same.refl H))
    | non => exact iteT (k H (Same.refl H))
    | str x => exact iteT (k H (Same.refl H))
    | lst a b => exact iteT (k H (Same.refl H))
end
end My

namespace My
open PySem L2
local macro_rules | `(tactic| walk_at "ne") => `(tactic| first | assumption | exact Ne.symm (by assumption) | exact ne_of_none (by assumption) (by assumption) | exact Ne.symm (ne_of_none (by assumption) (by assumption)))
local macro_rules | `(tactic| walk_at "hp") => `(tactic| first | assumption | with_reducible exact upd_same | (with_reducible refine Eq.trans (upd_ne ?_) ?_; rotate_left; walk_at "hp"; walk_at "ne"))
local macro_rules | `(tactic| walk_at "cnd") => `(tactic| first | omega | (show (0 : Int) < _; omega) | exact ⟨by omega, by omega⟩ | exact Or.inl ⟨by omega, by omega⟩ | exact Or.inr ⟨by omega, by omega⟩ | exact ⟨by omega, by omega, by decide⟩ | exact ⟨by omega, by omega, by omega⟩)
local macro_rules | `(tactic| walk_at "at") => `(tactic| first | exact atC 0 rfl rfl | exact atC 1 rfl rfl | exact atC 2 rfl rfl | exact atC 3 rfl rfl | exact atC 4 rfl rfl | exact atC 5 rfl rfl | exact atC 6 rfl rfl | exact atC 7 rfl rfl)
local macro_rules | `(tactic| walk_at "ix") => `(tactic| first | exact ixC 0 rfl (Nat.le_of_ble_eq_true rfl) | exact ixC 1 rfl (Nat.le_of_ble_eq_true rfl) | exact ixC 2 rfl (Nat.le_of_ble_eq_true rfl) | exact ixC 3 rfl (Nat.le_of_ble_eq_true rfl) | exact ixC 4 rfl (Nat.le_of_ble_eq_true rfl) | exact ixC 5 rfl (Nat.le_of_ble_eq_true rfl))
local macro_rules | `(tactic| walk_at "st") => `(tactic| first
  | refine ⟨_, rfl, ?_⟩
  | refine ⟨_, _, rfl, rfl, (by walk_at "cnd" : (_ : Prop)), ?_⟩
  | refine ⟨_, _, rfl, rfl, ?_⟩
  | refine ⟨rfl, ?_⟩
  | refine Or.inl ⟨_, rfl, ?_⟩
  | refine ⟨_, _, _, _, rfl, rfl, by exact SqL.of (by walk_at "hp"), by walk_at "at", ?_⟩
  | refine ⟨_, _, _, _, rfl, rfl, by exact SqT.of (by walk_at "hp"), by walk_at "at", ?_⟩
  | refine ⟨_, _, _, _, rfl, rfl, by walk_at "hp", by walk_at "ix", ?_⟩
  | refine ⟨_, _, rfl, Or.inl (by exact SqL.of (by walk_at "hp")), ?_⟩
  | refine ⟨_, _, rfl, Or.inr (by exact SqT.of (by walk_at "hp")), ?_⟩)
local macro_rules | `(tactic| walk_at "so") => `(tactic| first
  | refine ⟨_, _, _, _, _, rfl, by walk_at "hp", by assumption, by assumption, rfl, ?_⟩
  | refine ⟨_, _, _, _, rfl, by walk_at "hp", by assumption, by assumption, Nat.le_of_ble_eq_true rfl, ?_⟩
  | refine ⟨_, _, _, rfl, by walk_at "hp", rfl, ?_⟩
  | walk_at "st")
local macro_rules | `(tactic| walk_at "ro") => `(tactic| repeat walk_at "so")
local macro_rules | `(tactic| walk_at "run") => `(tactic| repeat walk_at "st")

theorem units1 {k : Nat} {A : Around} (r : Room k A) : A.units + 1 < cLine := by have := r.un; omega
theorem map_get {α β : Type} {f : α → β} {l : List α} {i : Nat} {y : β} (h : (l.map f)[i]? = some y) : ∃ x, l[i]? = some x ∧ f x = y := by
  rw [List.getElem?_map] at h
  exact Option.map_eq_some_iff.mp h
/-! ### the tree as it stands -/
inductive Part
  | dir (ns : List Int)
  | file (ws : List Int)
abbrev Fm := List Int → Option Part
structure TA where
  nd : List Int → Addr
  inn : List Int → Addr
def kN : L2.Key := Sum.inr ("names" : Str)
def kW : L2.Key := Sum.inr ("words" : Str)
theorem kWN : ¬ kW = kN := by decide +kernel
structure TR (H : Hp) (a0 : Addr) (F : Fm) (α : TA) : Prop where
  root : α.nd [] = a0
  top : ∃ ns, F [] = some (.dir ns)
  dir : ∀ p ns, F p = some (.dir ns) → H (α.nd p) = some (.dK [(kN, .ref (α.inn p))]) ∧ H (α.inn p) = some (.dK (ns.map fun n => ((Sum.inl n : L2.Key), V.ref (α.nd (p ++ [n]))))) ∧ ns.Nodup ∧ ns.length ≤ 60 ∧ ∀ n, n ∈ ns ↔ (F (p ++ [n])).isSome = true
  file : ∀ p ws, F p = some (.file ws) → H (α.nd p) = some (.dK [(kW, .ref (α.inn p))]) ∧ H (α.inn p) = some (.lst (ws.map V.int)) ∧ ws.length ≤ 48
  up : ∀ p n, (F (p ++ [n])).isSome = true → ∃ ns, F p = some (.dir ns)
  inj1 : ∀ p q, (F p).isSome = true → (F q).isSome = true → α.nd p = α.nd q → p = q
  inj2 : ∀ p q, (F p).isSome = true → (F q).isSome = true → α.inn p = α.inn q → p = q
  inj3 : ∀ p q, (F p).isSome = true → (F q).isSome = true → α.nd p ≠ α.inn q
def partV (F : Fm) (α : TA) (p : List Int) : V := if (F p).isSome = true then .ref (α.nd p) else .non
theorem pre_none {H : Hp} {a0 : Addr} {F : Fm} {α : TA} (t : TR H a0 F α) : ∀ (r p : List Int), F p = none → F (p ++ r) = none
  | [], p, h => by rw [List.append_nil]; exact h
  | n :: r, p, h => by
    rw [show p ++ n :: r = (p ++ [n]) ++ r by simp]
    refine pre_none t r _ ?_
    cases e : F (p ++ [n]) with
    | none => rfl
    | some x =>
      obtain ⟨ns, q⟩ := t.up p n (by rw [e]; rfl)
      rw [h] at q; cases q
theorem pre_file {H : Hp} {a0 : Addr} {F : Fm} {α : TA} (t : TR H a0 F α) {p : List Int} {ws : List Int} (h : F p = some (.file ws)) (n : Int) (r : List Int) : F (p ++ n :: r) = none := by
  rw [show p ++ n :: r = (p ++ [n]) ++ r by simp]
  refine pre_none t r _ ?_
  cases e : F (p ++ [n]) with
  | none => rfl
  | some x =>
    obtain ⟨ns, q⟩ := t.up p n (by rw [e]; rfl)
    rw [h] at q; cases q
theorem val_names (α : TA) (p : List Int) (n : Int) : ∀ ns : List Int, valV (ns.map fun n => ((Sum.inl n : L2.Key), V.ref (α.nd (p ++ [n])))) (Sum.inl n : L2.Key) = if n ∈ ns then some (.ref (α.nd (p ++ [n]))) else none
  | [] => rfl
  | m :: ns => by
    rw [List.map_cons]
    by_cases q : m = n
    · subst q
      rw [valV_pos rfl, if_pos List.mem_cons_self]
    · rw [valV_neg (fun z => q (Sum.inl.inj z)), val_names α p n ns]
      have : n ∈ m :: ns ↔ n ∈ ns := by
        rw [List.mem_cons]
        exact ⟨fun h => h.resolve_left fun z => q z.symm, .inr⟩
      by_cases h : n ∈ ns
      · rw [if_pos h, if_pos (this.mpr h)]
      · rw [if_neg h, if_neg (fun z => h (this.mp z))]
/-- a path as a value -/
def PathV (H : Hp) (v : V) (p : List Int) : Prop := ∃ a, v = .ref a ∧ H a = some (.tup (p.map V.int))
def spNew : Sp := fun vs H Q _ => vs = [] ∧ ∀ a d, a ≠ d → H a = none → H d = none → ∀ H', Same H H' → H' a = some (.dK [(kN, .ref d)]) → H' d = some (.dK []) → Q (.ref a) H'
def spIsDir : Sp := fun vs H Q _ => ∃ (a : Addr) (kvs : List (L2.Key × V)), vs = [.ref a] ∧ H a = some (.dK kvs) ∧ Q (.bl (valV kvs kN).isSome) H
def spAt : Sp := fun vs H Q _ => ∃ (a0 : Addr) (F : Fm) (α : TA) (v : V) (p : List Int), vs = [.ref a0, v] ∧ TR H a0 F α ∧ PathV H v p ∧ Q (partV F α p) H
section
variable {P : Program} {w : World} {K : PySem.W.Frag} {mg : Str → Option Value} {base : Heap} {A_PARTS : Addr}
abbrev s_is_directory : Stmt := topS 10
abbrev ns_is_directory : List Str := ["part"]
theorem sc_is_directory : FnScope ns_is_directory ["part"] (defScope s_is_directory) := ⟨rfl, rfl, rfl, by decide +kernel, rfl, by decide +kernel, by decide +kernel⟩

theorem ok_is_directory {f : Addr} {fd : FuncData} (F : Fun K "is_directory" "is_directory" s_is_directory f fd) (T : Txt K mg  w A_PARTS) : FnOk P w K mg base CX0 1 f fd ["part"] spIsDir := by
  refine F.ok sc_is_directory (fun vs H Q E h => ?_) (fun cdv A outer s H vs Q E hr h => ?_)
  · obtain ⟨a, kvs, rfl, _⟩ := h
    rfl
  · obtain ⟨a, kvs, rfl, ha, k⟩ := h
    refine ⟨_, (pss_one (ps_ret (pe_cmp (pc_din (units1 hr) pe_str (pv 0))))), ?_⟩
    exact ⟨_, rfl, a, _, rfl, DGet.k (k := kN) ha, k⟩
abbrev s_part_at : Stmt := topS 21
abbrev ns_part_at : List Str := ["tree", "path", "part", "name"]
theorem sc_part_at : FnScope ns_part_at ["tree", "path"] (defScope s_part_at) := ⟨rfl, rfl, rfl, by decide +kernel, rfl, by decide +kernel, by decide +kernel⟩

theorem ok_part_at {f : Addr} {fd : FuncData} (F : Fun K "part_at" "part_at" s_part_at f fd) (T : Txt K mg  w A_PARTS) (D_is_directory : Dfn P w K mg base CX0 1 "is_directory" ["part"] spIsDir) : FnOk P w K mg base CX0 2 f fd ["tree", "path"] spAt := by
  refine F.ok sc_part_at (fun vs H Q E h => ?_) (fun cdv A outer s H vs Q E hr h => ?_)
  · obtain ⟨a0, Fm, α, v, p, rfl, _⟩ := h
    rfl
  · obtain ⟨a0, Fm, α, v, p, rfl, t, ⟨pa, rfl, hp⟩, k⟩ := h
    refine ⟨_, (pss_cons (ps_set (i := 2) sc_part_at.nd rfl (Or.inl rfl) (pv 0))
  (pss_cons (ps_for PassesOwn.never (by rfl) (kpiT K (pv 1)) (pg_name (i := 3) sc_part_at.nd rfl (Or.inl rfl)) (pss_cons (ps_if (PW.pt (pw_or (pt_cmpR op_isN (pv 2) pe_non (nomark _)) (pw_or1 (pt_not (pt_val (pe_dcall D_is_directory (hr.mono (by decide)) (by rfl) pass0 (pa_cons (pv 2) pa_nil))))))) (pss_one (ps_ret pe_non)) pss_nil)
  (pss_one (ps_set (i := 2) sc_part_at.nd rfl (Or.inl rfl) (pe_dget1 (units1 hr) (pe_dget (units1 hr) (pv 2) pe_str (fun _ _ => rfl)) (pv 3) ⟨rfl, rfl, rfl, rfl⟩)))))
  (pss_one (ps_ret (pv 2))))), ?_⟩
    refine ⟨_, rfl, _, rfl, pa, rfl, ⟨_, SqT.of hp⟩, for_tup (xs := p.map V.int) (fun i σ H' => ∃ v3, H' = H ∧ σ = [some (.ref a0), some (.ref pa), some (partV Fm α (p.take i)), v3]) ?_ ?_ ?_ ?_⟩
    · obtain ⟨ns, h0⟩ := t.top
      have e0 : partV Fm α (p.take 0) = .ref a0 := by
        unfold partV
        rw [List.take_zero, h0]
        show V.ref (α.nd []) = _
        rw [t.root]
      exact ⟨none, rfl, by rw [e0]; rfl⟩
    · rintro i σ H' _ ⟨_, rfl, _⟩
      exact SqT.of hp
    · rintro i x σ H' hi ⟨v3, rfl, rfl⟩
      obtain ⟨n, hn, rfl⟩ := map_get hi
      have ep : p = p.take i ++ n :: p.drop (i + 1) := by
        have hl := (List.getElem?_eq_some_iff.mp hn).1
        have e1 : p[i] = n := (List.getElem?_eq_some_iff.mp hn).2
        rw [← e1, ← List.drop_eq_getElem_cons hl, List.take_append_drop]
      have et : p.take (i + 1) = p.take i ++ [n] := (take_snoc hn).symm
      rw [et]
      have gone : Fm (p.take i ++ [n]) = none → Q .non H' := fun e => by
        have := pre_none t (p.drop (i + 1)) _ e
        rw [show p.take i ++ [n] ++ p.drop (i + 1) = p by rw [List.append_assoc]; exact ep.symm] at this
        have e2 : partV Fm α p = .non := by unfold partV; rw [this]; rfl
        rw [e2] at k
        exact k
      cases e : Fm (p.take i) with
      | none =>
        have e0 : partV Fm α (p.take i) = .non := by unfold partV; rw [e]; rfl
        rw [e0]
        refine ⟨_, rfl, rfl, _, rfl, ?_⟩
        exact iteT (iteT (gone (pre_none t [n] _ e)))
      | some x =>
        have e0 : partV Fm α (p.take i) = .ref (α.nd (p.take i)) := by unfold partV; rw [e]; rfl
        rw [e0]
        refine ⟨_, rfl, rfl, _, rfl, ?_⟩
        refine iteF ?_
        cases x with
        | file ws =>
          obtain ⟨h1, h2, _⟩ := t.file _ _ e
          refine ⟨_, rfl, _, _, rfl, h1, _, rfl, ?_⟩
          have ev : valV [(kW, V.ref (α.inn (p.take i)))] kN = none := by rw [valV_neg kWN]; rfl
          rw [ev]
          exact iteT (gone (pre_file t e n []))
        | dir ns =>
          obtain ⟨h1, h2, h3, _, h4⟩ := t.dir _ _ e
          refine ⟨_, rfl, _, _, rfl, h1, _, rfl, ?_⟩
          have ev : valV [(kN, V.ref (α.inn (p.take i)))] kN = some (.ref (α.inn (p.take i))) := valV_pos rfl
          rw [ev]
          refine iteF ?_
          have dg := DGet.k (k := kN) h1
          rw [ev] at dg
          have dg2 := DGet.k (k := (Sum.inl n : L2.Key)) h2
          rw [val_names] at dg2
          refine ⟨_, rfl, α.nd (p.take i), _, rfl, dg, α.inn (p.take i), rfl, .inl ⟨_, .inl h2⟩, _, rfl, _, dg2, some (.int n), rfl, ?_⟩
          have ef : (if n ∈ ns then some (V.ref (α.nd (p.take i ++ [n]))) else none).getD V.non = partV Fm α (p.take i ++ [n]) := by
            unfold partV
            by_cases q : n ∈ ns
            · rw [if_pos q, if_pos ((h4 n).mp q)]; rfl
            · rw [if_neg q, if_neg (fun z => q ((h4 n).mpr z))]; rfl
          rw [ef]; rfl
    · rintro σ H' ⟨v3, rfl, rfl⟩
      rw [List.length_map, List.take_length]
      exact ⟨_, rfl, k⟩
end
end My

namespace My
open PySem L2
local macro_rules | `(tactic| walk_at "ne") => `(tactic| first | assumption | exact Ne.symm (by assumption) | exact ne_of_none (by assumption) (by assumption) | exact Ne.symm (ne_of_none (by assumption) (by assumption)))
local macro_rules | `(tactic| walk_at "hp") => `(tactic| first | assumption | with_reducible exact upd_same | (with_reducible refine Eq.trans (upd_ne ?_) ?_; rotate_left; walk_at "hp"; walk_at "ne"))
local macro_rules | `(tactic| walk_at "cnd") => `(tactic| first | omega | (show (0 : Int) < _; omega) | exact ⟨by omega, by omega⟩ | exact Or.inl ⟨by omega, by omega⟩ | exact Or.inr ⟨by omega, by omega⟩ | exact ⟨by omega, by omega, by decide⟩ | exact ⟨by omega, by omega, by omega⟩)
local macro_rules | `(tactic| walk_at "at") => `(tactic| first | exact atC 0 rfl rfl | exact atC 1 rfl rfl | exact atC 2 rfl rfl | exact atC 3 rfl rfl | exact atC 4 rfl rfl | exact atC 5 rfl rfl | exact atC 6 rfl rfl | exact atC 7 rfl rfl)
local macro_rules | `(tactic| walk_at "ix") => `(tactic| first | exact ixC 0 rfl (Nat.le_of_ble_eq_true rfl) | exact ixC 1 rfl (Nat.le_of_ble_eq_true rfl) | exact ixC 2 rfl (Nat.le_of_ble_eq_true rfl) | exact ixC 3 rfl (Nat.le_of_ble_eq_true rfl) | exact ixC 4 rfl (Nat.le_of_ble_eq_true rfl) | exact ixC 5 rfl (Nat.le_of_ble_eq_true rfl))
local macro_rules | `(tactic| walk_at "st") => `(tactic| first
  | refine ⟨_, rfl, ?_⟩
  | refine ⟨_, _, rfl, rfl, (by walk_at "cnd" : (_ : Prop)), ?_⟩
  | refine ⟨_, _, rfl, rfl, ?_⟩
  | refine ⟨rfl, ?_⟩
  | refine Or.inl ⟨_, rfl, ?_⟩
  | refine ⟨_, _, _, _, rfl, rfl, by exact SqL.of (by walk_at "hp"), by walk_at "at", ?_⟩
  | refine ⟨_, _, _, _, rfl, rfl, by exact SqT.of (by walk_at "hp"), by walk_at "at", ?_⟩
  | refine ⟨_, _, _, _, rfl, rfl, by walk_at "hp", by walk_at "ix", ?_⟩
  | refine ⟨_, _, rfl, Or.inl (by exact SqL.of (by walk_at "hp")), ?_⟩
  | refine ⟨_, _, rfl, Or.inr (by exact SqT.of (by walk_at "hp")), ?_⟩)
local macro_rules | `(tactic| walk_at "so") => `(tactic| first
  | refine ⟨_, _, _, _, _, rfl, by walk_at "hp", by assumption, by assumption, rfl, ?_⟩
  | refine ⟨_, _, _, _, rfl, by walk_at "hp", by assumption, by assumption, Nat.le_of_ble_eq_true rfl, ?_⟩
  | refine ⟨_, _, _, rfl, by walk_at "hp", rfl, ?_⟩
  | walk_at "st")
local macro_rules | `(tactic| walk_at "ro") => `(tactic| repeat walk_at "so")
local macro_rules | `(tactic| walk_at "run") => `(tactic| repeat walk_at "st")

def addF (F : Fm) (p0 : List Int) (n : Int) (x : Part) : Fm := fun q => if q = p0 ++ [n] then some x else if q = p0 then (match F p0 with
  | some (.dir ns) => some (.dir (ns ++ [n]))
  | o => o) else F q
def addA (α : TA) (p : List Int) (a d : Addr) : TA := ⟨fun q => if q = p then a else α.nd q, fun q => if q = p then d else α.inn q⟩
theorem snoc_ne (p : List Int) (n : Int) : p ≠ p ++ [n] := fun e => by
  have := congrArg List.length e
  simp at this
theorem snoc_ne2 (p : List Int) (n m : Int) (q : List Int) (h : p ++ [n] ++ [m] = q) (hq : q = p ++ [n]) : False := by
  rw [hq] at h
  exact snoc_ne (p ++ [n]) m h.symm
theorem snoc_inj {p q : List Int} {n m : Int} (h : p ++ [n] = q ++ [m]) : p = q ∧ n = m := by
  have := List.append_inj' h rfl
  exact ⟨this.1, by have := this.2; injection this⟩
section
variable {H H' : Hp} {a0 a d : Addr} {F : Fm} {α : TA} {p0 : List Int} {n : Int} {ns : List Int} {x : Part}
theorem TR.none_below (t : TR H a0 F α) (h : F p0 = none) (m : Int) : F (p0 ++ [m]) = none := pre_none t [m] p0 h
theorem TR.add (t : TR H a0 F α) (hp : F p0 = some (.dir ns)) (hl : ns.length < 60) (hn : F (p0 ++ [n]) = none) (ha : H a = none) (hd : H d = none) (had : a ≠ d)
    (hx : (x = .dir [] ∧ H' a = some (.dK [(kN, .ref d)]) ∧ H' d = some (.dK [])) ∨ (x = .file [] ∧ H' a = some (.dK [(kW, .ref d)]) ∧ H' d = some (.lst [])))
    (hi : H' (α.inn p0) = some (.dK (ns.map (fun m => ((Sum.inl m : L2.Key), V.ref (α.nd (p0 ++ [m])))) ++ [(Sum.inl n, .ref a)]))) (old : ∀ b o, H b = some o → b ≠ α.inn p0 → H' b = some o) :
    TR H' a0 (addF F p0 n x) (addA α (p0 ++ [n]) a d) := by
  have Fn : addF F p0 n x (p0 ++ [n]) = some x := if_pos rfl
  have Fp : addF F p0 n x p0 = some (.dir (ns ++ [n])) := by
    unfold addF
    rw [if_neg (snoc_ne p0 n), if_pos rfl, hp]
  have Fo : ∀ q, q ≠ p0 ++ [n] → q ≠ p0 → addF F p0 n x q = F q := fun q h1 h2 => by
    unfold addF; rw [if_neg h1, if_neg h2]
  have so : ∀ q, q ≠ p0 ++ [n] → ((addF F p0 n x q).isSome = true ↔ (F q).isSome = true) := fun q h1 => by
    by_cases h2 : q = p0
    · subst h2; rw [Fp, hp]; exact ⟨fun _ => rfl, fun _ => rfl⟩
    · rw [Fo q h1 h2]
  have lv : ∀ q y, F q = some y → (∃ o, H (α.nd q) = some o) ∧ ∃ o, H (α.inn q) = some o := fun q y e => by
    cases y with
    | dir ms => obtain ⟨h1, h2, _⟩ := t.dir q ms e; exact ⟨⟨_, h1⟩, ⟨_, h2⟩⟩
    | file ws => obtain ⟨h1, h2, _⟩ := t.file q ws e; exact ⟨⟨_, h1⟩, ⟨_, h2⟩⟩
  have lvN : ∀ q, (F q).isSome = true → α.nd q ≠ a ∧ α.nd q ≠ d ∧ α.inn q ≠ a ∧ α.inn q ≠ d := fun q h => by
    obtain ⟨y, e⟩ := Option.isSome_iff_exists.mp h
    obtain ⟨⟨o1, e1⟩, ⟨o2, e2⟩⟩ := lv q y e
    exact ⟨ne_of_none e1 ha, ne_of_none e1 hd, ne_of_none e2 ha, ne_of_none e2 hd⟩
  have nn : ∀ q, q ≠ p0 ++ [n] → (addA α (p0 ++ [n]) a d).nd q = α.nd q ∧ (addA α (p0 ++ [n]) a d).inn q = α.inn q := fun q h => ⟨if_neg h, if_neg h⟩
  have nN : (addA α (p0 ++ [n]) a d).nd (p0 ++ [n]) = a ∧ (addA α (p0 ++ [n]) a d).inn (p0 ++ [n]) = d := ⟨if_pos rfl, if_pos rfl⟩
  have p0s : (F p0).isSome = true := by rw [hp]; rfl
  refine ⟨?_, ?_, ?_, ?_, ?_, ?_, ?_, ?_⟩
  · rw [(nn [] (fun e => by simp at e)).1]; exact t.root
  · obtain ⟨ms, h0⟩ := t.top
    by_cases h2 : ([] : List Int) = p0
    · exact ⟨_, by rw [h2]; exact Fp⟩
    · exact ⟨ms, by rw [Fo [] (fun e => by simp at e) h2]; exact h0⟩
  · intro q ms e
    by_cases h1 : q = p0 ++ [n]
    · subst h1
      rw [Fn] at e
      cases e
      rcases hx with ⟨e1, e2, e3⟩ | ⟨e1, _⟩
      · cases e1
        rw [nN.1, nN.2]
        refine ⟨e2, e3, List.nodup_nil, by decide, fun m => ⟨fun h => (by cases h), fun h => ?_⟩⟩
        have z := (so (p0 ++ [n] ++ [m]) (fun z => snoc_ne (p0 ++ [n]) m z.symm)).mp h
        rw [t.none_below hn m] at z
        cases z
      · cases e1
    · by_cases h2 : q = p0
      · subst h2
        rw [Fp] at e
        cases e
        obtain ⟨t1, t2, t3, t4, t5⟩ := t.dir q ns hp
        have nin : n ∉ ns := fun z => by
          have := (t5 n).mp z
          rw [hn] at this; cases this
        rw [(nn q h1).1, (nn q h1).2]
        refine ⟨old _ _ t1 (t.inj3 q q p0s p0s), ?_, ?_, by simp; omega, fun m => ?_⟩
        · rw [hi, List.map_append]
          congr 3
          · refine List.map_congr_left fun m hm => ?_
            rw [(nn (q ++ [m]) (fun z => nin (by rw [← (snoc_inj z).2]; exact hm))).1]
          · show [((Sum.inl n : L2.Key), V.ref a)] = [((Sum.inl n : L2.Key), V.ref ((addA α (q ++ [n]) a d).nd (q ++ [n])))]
            rw [nN.1]
        · exact List.nodup_append.mpr ⟨t3, List.pairwise_singleton _ _, fun z hz y hy e => nin (by rw [← List.mem_singleton.mp hy, ← e]; exact hz)⟩
        · rw [List.mem_append, List.mem_singleton]
          by_cases hm : m = n
          · subst hm
            rw [Fn]
            exact ⟨fun _ => rfl, fun _ => .inr rfl⟩
          · rw [so (q ++ [m]) (fun z => hm (snoc_inj z).2), ← t5 m]
            exact ⟨fun z => z.resolve_right hm, .inl⟩
      · rw [Fo q h1 h2] at e
        obtain ⟨t1, t2, t3, t4, t5⟩ := t.dir q ms e
        have qs : (F q).isSome = true := by rw [e]; rfl
        rw [(nn q h1).1, (nn q h1).2]
        refine ⟨old _ _ t1 (t.inj3 q p0 qs p0s), ?_, t3, t4, fun m => ?_⟩
        · rw [old _ _ t2 (fun z => h2 (t.inj2 q p0 qs p0s z))]
          congr 2
          refine List.map_congr_left fun m hm => ?_
          rw [(nn (q ++ [m]) (fun z => h2 (snoc_inj z).1)).1]
        · rw [so (q ++ [m]) (fun z => h2 (snoc_inj z).1)]
          exact t5 m
  · intro q ws e
    by_cases h1 : q = p0 ++ [n]
    · subst h1
      rw [Fn] at e
      cases e
      rcases hx with ⟨e1, _⟩ | ⟨e1, e2, e3⟩
      · cases e1
      · cases e1
        rw [nN.1, nN.2]
        exact ⟨e2, e3, by decide⟩
    · by_cases h2 : q = p0
      · subst h2
        rw [Fp] at e
        cases e
      · rw [Fo q h1 h2] at e
        obtain ⟨t1, t2, t3⟩ := t.file q ws e
        have qs : (F q).isSome = true := by rw [e]; rfl
        rw [(nn q h1).1, (nn q h1).2]
        exact ⟨old _ _ t1 (t.inj3 q p0 qs p0s), old _ _ t2 (fun z => h2 (t.inj2 q p0 qs p0s z)), t3⟩
  · intro q m e
    by_cases h0 : q = p0
    · subst h0; exact ⟨_, Fp⟩
    · have z := (so (q ++ [m]) (fun z => h0 (snoc_inj z).1)).mp e
      obtain ⟨ms, hm⟩ := t.up q m z
      refine ⟨ms, ?_⟩
      rw [Fo q (fun w => ?_) h0]
      · exact hm
      · rw [w, hn] at hm; cases hm
  · intro q r h1 h2 e
    by_cases q1 : q = p0 ++ [n] <;> by_cases q2 : r = p0 ++ [n]
    · rw [q1, q2]
    · rw [q1, nN.1, (nn r q2).1] at e
      exact absurd e.symm (lvN r ((so r q2).mp h2)).1
    · rw [q2, nN.1, (nn q q1).1] at e
      exact absurd e (lvN q ((so q q1).mp h1)).1
    · rw [(nn q q1).1, (nn r q2).1] at e
      exact t.inj1 q r ((so q q1).mp h1) ((so r q2).mp h2) e
  · intro q r h1 h2 e
    by_cases q1 : q = p0 ++ [n] <;> by_cases q2 : r = p0 ++ [n]
    · rw [q1, q2]
    · rw [q1, nN.2, (nn r q2).2] at e
      exact absurd e.symm (lvN r ((so r q2).mp h2)).2.2.2
    · rw [q2, nN.2, (nn q q1).2] at e
      exact absurd e (lvN q ((so q q1).mp h1)).2.2.2
    · rw [(nn q q1).2, (nn r q2).2] at e
      exact t.inj2 q r ((so q q1).mp h1) ((so r q2).mp h2) e
  · intro q r h1 h2 e
    by_cases q1 : q = p0 ++ [n] <;> by_cases q2 : r = p0 ++ [n]
    · rw [q1, q2, nN.1, nN.2] at e
      exact had e
    · rw [q1, nN.1, (nn r q2).2] at e
      exact absurd e.symm (lvN r ((so r q2).mp h2)).2.2.1
    · rw [q2, nN.2, (nn q q1).1] at e
      exact absurd e (lvN q ((so q q1).mp h1)).2.1
    · rw [(nn q q1).1, (nn r q2).2] at e
      exact t.inj3 q r ((so q q1).mp h1) ((so r q2).mp h2) e
end
end My

namespace My
open PySem L2
local macro_rules | `(tactic| walk_at "ne") => `(tactic| first | assumption | exact Ne.symm (by assumption) | exact ne_of_none (by assumption) (by assumption) | exact Ne.symm (ne_of_none (by assumption) (by assumption)))
local macro_rules | `(tactic| walk_at "hp") => `(tactic| first | assumption | with_reducible exact upd_same | (with_reducible refine Eq.trans (upd_ne ?_) ?_; rotate_left; walk_at "hp"; walk_at "ne"))
local macro_rules | `(tactic| walk_at "cnd") => `(tactic| first | omega | (show (0 : Int) < _; omega) | exact ⟨by omega, by omega⟩ | exact Or.inl ⟨by omega, by omega⟩ | exact Or.inr ⟨by omega, by omega⟩ | exact ⟨by omega, by omega, by decide⟩ | exact ⟨by omega, by omega, by omega⟩)
local macro_rules | `(tactic| walk_at "at") => `(tactic| first | exact atC 0 rfl rfl | exact atC 1 rfl rfl | exact atC 2 rfl rfl | exact atC 3 rfl rfl | exact atC 4 rfl rfl | exact atC 5 rfl rfl | exact atC 6 rfl rfl | exact atC 7 rfl rfl)
local macro_rules | `(tactic| walk_at "ix") => `(tactic| first | exact ixC 0 rfl (Nat.le_of_ble_eq_true rfl) | exact ixC 1 rfl (Nat.le_of_ble_eq_true rfl) | exact ixC 2 rfl (Nat.le_of_ble_eq_true rfl) | exact ixC 3 rfl (Nat.le_of_ble_eq_true rfl) | exact ixC 4 rfl (Nat.le_of_ble_eq_true rfl) | exact ixC 5 rfl (Nat.le_of_ble_eq_true rfl))
local macro_rules | `(tactic| walk_at "st") => `(tactic| first
  | refine ⟨_, rfl, ?_⟩
  | refine ⟨_, _, rfl, rfl, (by walk_at "cnd" : (_ : Prop)), ?_⟩
  | refine ⟨_, _, rfl, rfl, ?_⟩
  | refine ⟨rfl, ?_⟩
  | refine Or.inl ⟨_, rfl, ?_⟩
  | refine ⟨_, _, _, _, rfl, rfl, by exact SqL.of (by walk_at "hp"), by walk_at "at", ?_⟩
  | refine ⟨_, _, _, _, rfl, rfl, by exact SqT.of (by walk_at "hp"), by walk_at "at", ?_⟩
  | refine ⟨_, _, _, _, rfl, rfl, by walk_at "hp", by walk_at "ix", ?_⟩
  | refine ⟨_, _, rfl, Or.inl (by exact SqL.of (by walk_at "hp")), ?_⟩
  | refine ⟨_, _, rfl, Or.inr (by exact SqT.of (by walk_at "hp")), ?_⟩)
local macro_rules | `(tactic| walk_at "so") => `(tactic| first
  | refine ⟨_, _, _, _, _, rfl, by walk_at "hp", by assumption, by assumption, rfl, ?_⟩
  | refine ⟨_, _, _, _, rfl, by walk_at "hp", by assumption, by assumption, Nat.le_of_ble_eq_true rfl, ?_⟩
  | refine ⟨_, _, _, rfl, by walk_at "hp", rfl, ?_⟩
  | walk_at "st")
local macro_rules | `(tactic| walk_at "ro") => `(tactic| repeat walk_at "so")
local macro_rules | `(tactic| walk_at "run") => `(tactic| repeat walk_at "st")

def delF (F : Fm) (p0 : List Int) (n : Int) : Fm := fun q => if q = p0 ++ [n] then none else if q = p0 then (match F p0 with
  | some (.dir ns) => some (.dir (ns.filter fun m => decide (m ≠ n)))
  | o => o) else F q
def setF (F : Fm) (p : List Int) (ws : List Int) : Fm := fun q => if q = p then some (.file ws) else F q
theorem drop_map (α : TA) (p : List Int) (n : Int) : ∀ ns : List Int, dropK (ns.map fun m => ((Sum.inl m : L2.Key), V.ref (α.nd (p ++ [m])))) (Sum.inl n : L2.Key) = (ns.filter fun m => decide (m ≠ n)).map fun m => ((Sum.inl m : L2.Key), V.ref (α.nd (p ++ [m])))
  | [] => rfl
  | m :: ns => by
    have ih := drop_map α p n ns
    unfold dropK at ih ⊢
    rw [List.map_cons]
    by_cases q : m = n
    · subst q
      rw [List.filter_cons_of_neg (by simp), List.filter_cons_of_neg (by simp)]
      exact ih
    · rw [List.filter_cons_of_pos (by simpa using q), List.filter_cons_of_pos (by simpa using q), List.map_cons, ih]
section
variable {H H' : Hp} {a0 : Addr} {F : Fm} {α : TA} {p0 p : List Int} {n : Int} {ns ws ws' : List Int} {x : Part}
theorem TR.same (t : TR H a0 F α) (s : Same H H') : TR H' a0 F α := ⟨t.root, t.top, fun p ns e => by
    obtain ⟨h1, h2, h3⟩ := t.dir p ns e
    exact ⟨s _ _ h1, s _ _ h2, h3⟩, fun p ws e => by
    obtain ⟨h1, h2, h3⟩ := t.file p ws e
    exact ⟨s _ _ h1, s _ _ h2, h3⟩, t.up, t.inj1, t.inj2, t.inj3⟩
theorem TR.setW (t : TR H a0 F α) (hp : F p = some (.file ws)) (hl : ws'.length ≤ 48) (hi : H' (α.inn p) = some (.lst (ws'.map V.int))) (old : ∀ b o, H b = some o → b ≠ α.inn p → H' b = some o) : TR H' a0 (setF F p ws') α := by
  have Fp : setF F p ws' p = some (.file ws') := if_pos rfl
  have Fo : ∀ q, q ≠ p → setF F p ws' q = F q := fun q h => if_neg h
  have ps : (F p).isSome = true := by rw [hp]; rfl
  have so : ∀ q, (setF F p ws' q).isSome = (F q).isSome := fun q => by
    by_cases h : q = p
    · rw [h, Fp, hp]; rfl
    · rw [Fo q h]
  refine ⟨t.root, ?_, fun q ms e => ?_, fun q us e => ?_, fun q m e => ?_, fun q r h1 h2 => t.inj1 q r (by rw [← so]; exact h1) (by rw [← so]; exact h2), fun q r h1 h2 => t.inj2 q r (by rw [← so]; exact h1) (by rw [← so]; exact h2), fun q r h1 h2 => t.inj3 q r (by rw [← so]; exact h1) (by rw [← so]; exact h2)⟩
  · obtain ⟨ms, h0⟩ := t.top
    exact ⟨ms, by rw [Fo [] (fun z => by rw [z, hp] at h0; cases h0)]; exact h0⟩
  · by_cases h : q = p
    · rw [h, Fp] at e; cases e
    · rw [Fo q h] at e
      obtain ⟨t1, t2, t3, t4, t5⟩ := t.dir q ms e
      have qs : (F q).isSome = true := by rw [e]; rfl
      exact ⟨old _ _ t1 (t.inj3 q p qs ps), old _ _ t2 (fun z => h (t.inj2 q p qs ps z)), t3, t4, fun m => by rw [so]; exact t5 m⟩
  · by_cases h : q = p
    · subst h
      rw [Fp] at e
      cases e
      obtain ⟨t1, t2, t3⟩ := t.file q ws hp
      exact ⟨old _ _ t1 (t.inj3 q q ps ps), hi, hl⟩
    · rw [Fo q h] at e
      obtain ⟨t1, t2, t3⟩ := t.file q us e
      have qs : (F q).isSome = true := by rw [e]; rfl
      exact ⟨old _ _ t1 (t.inj3 q p qs ps), old _ _ t2 (fun z => h (t.inj2 q p qs ps z)), t3⟩
  · rw [so] at e
    obtain ⟨ms, hm⟩ := t.up q m e
    exact ⟨ms, by rw [Fo q (fun z => by rw [z, hp] at hm; cases hm)]; exact hm⟩
theorem TR.del (t : TR H a0 F α) (hp : F p0 = some (.dir ns)) (hx : ∀ m, F (p0 ++ [n] ++ [m]) = none)
    (hi : H' (α.inn p0) = some (.dK (dropK (ns.map fun m => ((Sum.inl m : L2.Key), V.ref (α.nd (p0 ++ [m])))) (Sum.inl n : L2.Key)))) (old : ∀ b o, H b = some o → b ≠ α.inn p0 → H' b = some o) : TR H' a0 (delF F p0 n) α := by
  have Fn : delF F p0 n (p0 ++ [n]) = none := if_pos rfl
  have Fp : delF F p0 n p0 = some (.dir (ns.filter fun m => decide (m ≠ n))) := by
    unfold delF
    rw [if_neg (snoc_ne p0 n), if_pos rfl, hp]
  have Fo : ∀ q, q ≠ p0 ++ [n] → q ≠ p0 → delF F p0 n q = F q := fun q h1 h2 => by
    unfold delF; rw [if_neg h1, if_neg h2]
  have p0s : (F p0).isSome = true := by rw [hp]; rfl
  have so : ∀ q, (delF F p0 n q).isSome = true → q ≠ p0 ++ [n] ∧ (F q).isSome = true := fun q h => by
    have h1 : q ≠ p0 ++ [n] := fun z => by rw [z, Fn] at h; cases h
    by_cases h2 : q = p0
    · rw [h2]; exact ⟨snoc_ne p0 n, p0s⟩
    · rw [Fo q h1 h2] at h; exact ⟨h1, h⟩
  have so2 : ∀ q, q ≠ p0 ++ [n] → (F q).isSome = true → (delF F p0 n q).isSome = true := fun q h1 h => by
    by_cases h2 : q = p0
    · rw [h2, Fp]; rfl
    · rw [Fo q h1 h2]; exact h
  refine ⟨t.root, ?_, fun q ms e => ?_, fun q us e => ?_, fun q m e => ?_, fun q r h1 h2 => t.inj1 q r (so q h1).2 (so r h2).2, fun q r h1 h2 => t.inj2 q r (so q h1).2 (so r h2).2, fun q r h1 h2 => t.inj3 q r (so q h1).2 (so r h2).2⟩
  · obtain ⟨ms, h0⟩ := t.top
    by_cases h2 : ([] : List Int) = p0
    · exact ⟨_, by rw [h2]; exact Fp⟩
    · exact ⟨ms, by rw [Fo [] (fun z => by simp at z) h2]; exact h0⟩
  · have h1 : q ≠ p0 ++ [n] := (so q (by rw [e]; rfl)).1
    by_cases h2 : q = p0
    · subst h2
      rw [Fp] at e
      cases e
      obtain ⟨t1, t2, t3, t4, t5⟩ := t.dir q ns hp
      refine ⟨old _ _ t1 (t.inj3 q q p0s p0s), by rw [hi, drop_map], t3.filter _, Nat.le_trans (List.length_filter_le _ _) t4, fun m => ?_⟩
      rw [List.mem_filter, decide_eq_true_iff]
      constructor
      · rintro ⟨h3, h4⟩
        exact so2 _ (fun z => h4 (snoc_inj z).2) ((t5 m).mp h3)
      · intro h
        obtain ⟨h3, h4⟩ := so _ h
        exact ⟨(t5 m).mpr h4, fun z => h3 (by rw [z])⟩
    · rw [Fo q h1 h2] at e
      obtain ⟨t1, t2, t3, t4, t5⟩ := t.dir q ms e
      have qs : (F q).isSome = true := by rw [e]; rfl
      refine ⟨old _ _ t1 (t.inj3 q p0 qs p0s), old _ _ t2 (fun z => h2 (t.inj2 q p0 qs p0s z)), t3, t4, fun m => ?_⟩
      rw [t5 m]
      exact ⟨so2 _ (fun z => h2 (snoc_inj z).1), fun h => (so _ h).2⟩
  · have h1 : q ≠ p0 ++ [n] := (so q (by rw [e]; rfl)).1
    by_cases h2 : q = p0
    · rw [h2, Fp] at e; cases e
    · rw [Fo q h1 h2] at e
      obtain ⟨t1, t2, t3⟩ := t.file q us e
      have qs : (F q).isSome = true := by rw [e]; rfl
      exact ⟨old _ _ t1 (t.inj3 q p0 qs p0s), old _ _ t2 (fun z => h2 (t.inj2 q p0 qs p0s z)), t3⟩
  · obtain ⟨h1, h2⟩ := so _ e
    obtain ⟨ms, hm⟩ := t.up q m h2
    by_cases h3 : q = p0
    · subst h3; exact ⟨_, Fp⟩
    · refine ⟨ms, ?_⟩
      rw [Fo q (fun z => ?_) h3]
      · exact hm
      · rw [z] at h2
        rw [hx m] at h2
        cases h2
end
end My

namespace My
open PySem L2
local macro_rules | `(tactic| walk_at "ne") => `(tactic| first | assumption | exact Ne.symm (by assumption) | exact ne_of_none (by assumption) (by assumption) | exact Ne.symm (ne_of_none (by assumption) (by assumption)))
local macro_rules | `(tactic| walk_at "hp") => `(tactic| first | assumption | with_reducible exact upd_same | (with_reducible refine Eq.trans (upd_ne ?_) ?_; rotate_left; walk_at "hp"; walk_at "ne"))
local macro_rules | `(tactic| walk_at "cnd") => `(tactic| first | omega | (show (0 : Int) < _; omega) | exact ⟨by omega, by omega⟩ | exact Or.inl ⟨by omega, by omega⟩ | exact Or.inr ⟨by omega, by omega⟩ | exact ⟨by omega, by omega, by decide⟩ | exact ⟨by omega, by omega, by omega⟩)
local macro_rules | `(tactic| walk_at "at") => `(tactic| first | exact atC 0 rfl rfl | exact atC 1 rfl rfl | exact atC 2 rfl rfl | exact atC 3 rfl rfl | exact atC 4 rfl rfl | exact atC 5 rfl rfl | exact atC 6 rfl rfl | exact atC 7 rfl rfl)
local macro_rules | `(tactic| walk_at "ix") => `(tactic| first | exact ixC 0 rfl (Nat.le_of_ble_eq_true rfl) | exact ixC 1 rfl (Nat.le_of_ble_eq_true rfl) | exact ixC 2 rfl (Nat.le_of_ble_eq_true rfl) | exact ixC 3 rfl (Nat.le_of_ble_eq_true rfl) | exact ixC 4 rfl (Nat.le_of_ble_eq_true rfl) | exact ixC 5 rfl (Nat.le_of_ble_eq_true rfl))
local macro_rules | `(tactic| walk_at "st") => `(tactic| first
  | refine ⟨_, rfl, ?_⟩
  | refine ⟨_, _, rfl, rfl, (by walk_at "cnd" : (_ : Prop)), ?_⟩
  | refine ⟨_, _, rfl, rfl, ?_⟩
  | refine ⟨rfl, ?_⟩
  | refine Or.inl ⟨_, rfl, ?_⟩
  | refine ⟨_, _, _, _, rfl, rfl, by exact SqL.of (by walk_at "hp"), by walk_at "at", ?_⟩
  | refine ⟨_, _, _, _, rfl, rfl, by exact SqT.of (by walk_at "hp"), by walk_at "at", ?_⟩
  | refine ⟨_, _, _, _, rfl, rfl, by walk_at "hp", by walk_at "ix", ?_⟩
  | refine ⟨_, _, rfl, Or.inl (by exact SqL.of (by walk_at "hp")), ?_⟩
  | refine ⟨_, _, rfl, Or.inr (by exact SqT.of (by walk_at "hp")), ?_⟩)
local macro_rules | `(tactic| walk_at "so") => `(tactic| first
  | refine ⟨_, _, _, _, _, rfl, by walk_at "hp", by assumption, by assumption, rfl, ?_⟩
  | refine ⟨_, _, _, _, rfl, by walk_at "hp", by assumption, by assumption, Nat.le_of_ble_eq_true rfl, ?_⟩
  | refine ⟨_, _, _, rfl, by walk_at "hp", rfl, ?_⟩
  | walk_at "st")
local macro_rules | `(tactic| walk_at "ro") => `(tactic| repeat walk_at "so")
local macro_rules | `(tactic| walk_at "run") => `(tactic| repeat walk_at "st")

theorem DtAll.ints {H : Hp} : ∀ ys : List Int, DtAll H (ys.map V.int) (ys.map PyData.int)
  | [] => .nil
  | y :: ys => .cons (.int y) (DtAll.ints ys)
def okD : PyData := .tuple [.str "ok", .none]
def noD (z : Str) : PyData := .tuple [.str "no", .str z]
/-- what a step of the tree leaves -/
def Left (F : Fm) (α : TA) (H H' : Hp) : Prop := ∀ b o, H b = some o → (∀ q, (F q).isSome = true → b ≠ α.inn q) → H' b = some o
def spLst : Sp := fun vs H Q _ => ∃ (a0 : Addr) (F : Fm) (α : TA) (p : List Int), vs = [.ref (α.nd p)] ∧ TR H a0 F α ∧ ((∃ ws, F p = some (.file ws)) → ∀ r H', Same H H' → Dt H' r (noD "file") → Q r H') ∧ (∀ ns, F p = some (.dir ns) → ∀ (r : V) (H' : Hp) (ys : List Int), ys.Perm ns → ys.Pairwise (· ≤ ·) → Same H H' → Dt H' r (.tuple [.str "ok", .tuple (ys.map PyData.int)]) → Q r H') ∧ (F p).isSome = true
section
variable {P : Program} {w : World} {K : PySem.W.Frag} {mg : Str → Option Value} {base : Heap} {A_PARTS : Addr}
abbrev s_new_tree : Stmt := topS 8
abbrev ns_new_tree : List Str := []
theorem sc_new_tree : FnScope ns_new_tree [] (defScope s_new_tree) := ⟨rfl, rfl, rfl, by decide +kernel, rfl, by decide +kernel, by decide +kernel⟩

theorem ok_new_tree {f : Addr} {fd : FuncData} (F : Fun K "new_tree" "new_tree" s_new_tree f fd) (T : Txt K mg  w A_PARTS) : FnOk P w K mg base CX0 1 f fd [] spNew := by
  refine F.ok sc_new_tree (fun vs H Q E h => ?_) (fun cdv A outer s H vs Q E hr h => ?_)
  · obtain ⟨rfl, _⟩ := h
    rfl
  · obtain ⟨rfl, k⟩ := h
    refine ⟨_, (pss_one (ps_ret (pe_disp (pps_cons pe_str pe_dnewK pps_nil) (by rfl) (by rfl) (by intro z; cases z) (by decide)))), ?_⟩
    refine fun a ha => fun d hd => ?_
    have s1 := Same.new (o := .dK []) ha
    have s2 := Same.new (o := .dK []) hd
    have ha2 := s2 _ _ (upd_same : (upd H a (.dK [])) a = some (.dK []))
    have hd2 : (upd (upd H a (.dK [])) d (.dK [])) d = some (.dK []) := upd_same
    have nad : a ≠ d := ne_of_none upd_same hd
    refine ⟨ha2, [(kN, .ref d)], rfl, show (1 : Nat) ≤ 15 by decide, ?_⟩
    refine k a d nad ha (s1.free hd) _ (Same.mut (s1.trans s2) ha) upd_same ?_
    rw [upd_ne nad.symm]
    exact hd2
abbrev s_list : Stmt := topS 25
abbrev ns_list : List Str := ["part"]
theorem sc_list : FnScope ns_list ["part"] (defScope s_list) := ⟨rfl, rfl, rfl, by decide +kernel, rfl, by decide +kernel, by decide +kernel⟩

theorem ok_list {f : Addr} {fd : FuncData} (F : Fun K "_list" "_list" s_list f fd) (T : Txt K mg  w A_PARTS) (D_is_directory : Dfn P w K mg base CX0 1 "is_directory" ["part"] spIsDir) : FnOk P w K mg base CX0 2 f fd ["part"] spLst := by
  refine F.ok sc_list (fun vs H Q E h => ?_) (fun cdv A outer s H vs Q E hr h => ?_)
  · obtain ⟨a0, F, α, p, rfl, _⟩ := h
    rfl
  · obtain ⟨a0, Fm, α, p, rfl, t, k1, k2, hs⟩ := h
    refine ⟨_, (pss_cons (ps_if (pt_not (pt_val (pe_dcall D_is_directory (hr.mono (by decide)) (by rfl) pass0 (pa_cons (pv 0) pa_nil)))) (pss_one (ps_ret (pe_tup (pa_cons pe_str (pa_cons pe_str pa_nil))))) pss_nil)
  (pss_one (ps_ret (pe_tup (pa_cons pe_str (pa_cons (pe_callTy (kTupOf K) (by rfl) T.b_tuple (by decide +kernel) (pa_cons (pe_callB (call_sortedDI (by rfl)) (by rfl) T.b_sorted (by decide +kernel) (pa_cons (pe_dget (units1 hr) (pv 0) pe_str (fun _ _ => rfl)) pa_nil)) pa_nil)) pa_nil)))))), ?_⟩
    cases e : Fm p with
    | none => rw [e] at hs; cases hs
    | some x =>
      cases x with
      | file ws =>
        obtain ⟨h1, h2, _⟩ := t.file p ws e
        refine ⟨_, rfl, _, _, rfl, h1, _, rfl, ?_⟩
        rw [show valV [(kW, V.ref (α.inn p))] kN = none by rw [valV_neg kWN]; rfl]
        refine iteT ⟨szl rfl, fun q hq => ?_⟩
        exact k1 ⟨ws, e⟩ _ _ (Same.new hq) (.tup upd_same (.cons (.str _) (.cons (.str _) .nil)))
      | dir ns =>
        obtain ⟨h1, h2, h3, h4, h5⟩ := t.dir p ns e
        refine ⟨_, rfl, _, _, rfl, h1, _, rfl, ?_⟩
        have ev : valV [(kN, V.ref (α.inn p))] kN = some (.ref (α.inn p)) := valV_pos rfl
        rw [ev]
        refine iteF ?_
        have dg := DGet.k (k := kN) h1
        rw [ev] at dg
        refine ⟨_, rfl, α.nd p, _, rfl, dg, α.inn p, _, ns, rfl, .inl h2, by rw [List.map_map]; rfl, by omega, fun ys l hperm hsrt hl => ?_⟩
        have s1 := Same.new (o := .lst (ys.map V.int)) hl
        have hll : (upd H l (.lst (ys.map V.int))) l = some (.lst (ys.map V.int)) := upd_same
        generalize upd H l (.lst (ys.map V.int)) = H1 at s1 hll
        refine ⟨_, _, rfl, .inl ⟨SqL.of hll, fun q hq => ?_⟩⟩
        have s2 := Same.new (o := .tup (ys.map V.int)) hq
        have hq2 : (upd H1 q (.tup (ys.map V.int))) q = some (.tup (ys.map V.int)) := upd_same
        generalize upd H1 q (.tup (ys.map V.int)) = H2 at s2 hq2
        refine ⟨szl rfl, fun r hr => ?_⟩
        exact k2 ns e _ _ ys hperm hsrt ((s1.trans s2).trans (Same.new hr)) (.tup upd_same (.cons (.str _) (.cons ((Dt.tup hq2 (DtAll.ints ys)).same (Same.new hr)) .nil)))
end
end My

namespace My
open PySem L2
local macro_rules | `(tactic| walk_at "ne") => `(tactic| first | assumption | exact Ne.symm (by assumption) | exact ne_of_none (by assumption) (by assumption) | exact Ne.symm (ne_of_none (by assumption) (by assumption)))
local macro_rules | `(tactic| walk_at "hp") => `(tactic| first | assumption | with_reducible exact upd_same | (with_reducible refine Eq.trans (upd_ne ?_) ?_; rotate_left; walk_at "hp"; walk_at "ne"))
local macro_rules | `(tactic| walk_at "cnd") => `(tactic| first | omega | (show (0 : Int) < _; omega) | exact ⟨by omega, by omega⟩ | exact Or.inl ⟨by omega, by omega⟩ | exact Or.inr ⟨by omega, by omega⟩ | exact ⟨by omega, by omega, by decide⟩ | exact ⟨by omega, by omega, by omega⟩)
local macro_rules | `(tactic| walk_at "at") => `(tactic| first | exact atC 0 rfl rfl | exact atC 1 rfl rfl | exact atC 2 rfl rfl | exact atC 3 rfl rfl | exact atC 4 rfl rfl | exact atC 5 rfl rfl | exact atC 6 rfl rfl | exact atC 7 rfl rfl)
local macro_rules | `(tactic| walk_at "ix") => `(tactic| first | exact ixC 0 rfl (Nat.le_of_ble_eq_true rfl) | exact ixC 1 rfl (Nat.le_of_ble_eq_true rfl) | exact ixC 2 rfl (Nat.le_of_ble_eq_true rfl) | exact ixC 3 rfl (Nat.le_of_ble_eq_true rfl) | exact ixC 4 rfl (Nat.le_of_ble_eq_true rfl) | exact ixC 5 rfl (Nat.le_of_ble_eq_true rfl))
local macro_rules | `(tactic| walk_at "st") => `(tactic| first
  | refine ⟨_, rfl, ?_⟩
  | refine ⟨_, _, rfl, rfl, (by walk_at "cnd" : (_ : Prop)), ?_⟩
  | refine ⟨_, _, rfl, rfl, ?_⟩
  | refine ⟨rfl, ?_⟩
  | refine Or.inl ⟨_, rfl, ?_⟩
  | refine ⟨_, _, _, _, rfl, rfl, by exact SqL.of (by walk_at "hp"), by walk_at "at", ?_⟩
  | refine ⟨_, _, _, _, rfl, rfl, by exact SqT.of (by walk_at "hp"), by walk_at "at", ?_⟩
  | refine ⟨_, _, _, _, rfl, rfl, by walk_at "hp", by walk_at "ix", ?_⟩
  | refine ⟨_, _, rfl, Or.inl (by exact SqL.of (by walk_at "hp")), ?_⟩
  | refine ⟨_, _, rfl, Or.inr (by exact SqT.of (by walk_at "hp")), ?_⟩)
local macro_rules | `(tactic| walk_at "so") => `(tactic| first
  | refine ⟨_, _, _, _, _, rfl, by walk_at "hp", by assumption, by assumption, rfl, ?_⟩
  | refine ⟨_, _, _, _, rfl, by walk_at "hp", by assumption, by assumption, Nat.le_of_ble_eq_true rfl, ?_⟩
  | refine ⟨_, _, _, rfl, by walk_at "hp", rfl, ?_⟩
  | walk_at "st")
local macro_rules | `(tactic| walk_at "ro") => `(tactic| repeat walk_at "so")
local macro_rules | `(tactic| walk_at "run") => `(tactic| repeat walk_at "st")

def putW (ws : List Int) (off : Nat) (new : List Int) : List Int := (ws ++ List.replicate (off - ws.length) 0).take off ++ new ++ (ws ++ List.replicate (off - ws.length) 0).drop (off + new.length)
def spPut : Sp := fun vs H Q _ => ∃ (l : Addr) (ws : List Int) (off : Nat) (v : V) (new : List Int), vs = [.ref l, .int off, v] ∧ H l = some (.lst (ws.map V.int)) ∧ PathV H v new ∧ ws.length ≤ 48 ∧ off ≤ 48 ∧ new.length ≤ 48 ∧
  (48 < off + new.length → ∀ r H', Same H H' → Dt H' r (noD "long") → Q r H') ∧
  (off + new.length ≤ 48 → ∀ r H', (∀ b o, H b = some o → b ≠ l → H' b = some o) → H' l = some (.lst ((putW ws off new).map V.int)) → Dt H' r okD → Q r H')
section
variable {P : Program} {w : World} {K : PySem.W.Frag} {mg : Str → Option Value} {base : Heap} {A_PARTS : Addr}
abbrev s_put : Stmt := topS 27
abbrev ns_put : List Str := ["words", "offset", "new"]
theorem sc_put : FnScope ns_put ["words", "offset", "new"] (defScope s_put) := ⟨rfl, rfl, rfl, by decide +kernel, rfl, by decide +kernel, by decide +kernel⟩

theorem ok_put {f : Addr} {fd : FuncData} (F : Fun K "_put" "_put" s_put f fd) (T : Txt K mg  w A_PARTS) : FnOk P w K mg base CX0 1 f fd ["words", "offset", "new"] spPut := by
  refine F.ok sc_put (fun vs H Q E h => ?_) (fun cdv A outer s H vs Q E hr h => ?_)
  · obtain ⟨l, ws, off, v, new, rfl, _⟩ := h
    rfl
  · obtain ⟨l, ws, off, v, new, rfl, hl, ⟨va, rfl, hv⟩, w48, o48, n48, k1, k2⟩ := h
    refine ⟨_, (pss_cons (ps_if (pt_cmpR op_gt (pe_op op_add (pv 1) (pe_callB (kLen K) (by rfl) T.b_len (by decide +kernel) (pa_cons (pv 2) pa_nil))) (pe_gint (by rfl) T.c_MOST_WORDS) (nomark _)) (pss_one (ps_ret (pe_tup (pa_cons pe_str (pa_cons pe_str pa_nil))))) pss_nil)
  (pss_cons (ps_expr (kBM K PySem.F.plainAttrs_list PySem.F.slot_list_extend PySem.F.type_list_extend mt_extend (pv 0) (pa_cons (pe_op op_rep (pe_lst (pa_cons pe_int pa_nil)) (pe_op op_sub (pv 1) (pe_callB (kLen K) (by rfl) T.b_len (by decide +kernel) (pa_cons (pv 0) pa_nil)))) pa_nil)))
  (pss_cons (ps_asg (pe_callTy (kListOf K) (by rfl) T.b_list (by decide +kernel) (pa_cons (pv 2) pa_nil)) (pg_setSl (pv 0) (pv 1) (pe_op op_add (pv 1) (pe_callB (kLen K) (by rfl) T.b_len (by decide +kernel) (pa_cons (pv 2) pa_nil)))))
  (pss_one (ps_ret (pe_tup (pa_cons pe_str (pa_cons pe_non pa_nil)))))))), ?_⟩
    refine ⟨_, rfl, _, rfl, va, _, rfl, .inr (SqT.of hv), _, _, rfl, rfl, _, _, rfl, rfl, _, rfl, ?_⟩
    rw [List.length_map]
    refine iteD (fun h => ?_) (fun h => ?_)
    · refine ⟨szl rfl, fun q hq => ?_⟩
      exact k1 (by omega) _ _ (Same.new hq) (.tup upd_same (.cons (.str _) (.cons (.str _) .nil)))
    · have hsum : off + new.length ≤ 48 := by omega
      refine ⟨_, rfl, .inl ⟨rfl, _, SqL.of hl⟩, szl rfl, fun z hz => ?_⟩
      have s1 := Same.new (o := .lst [.int 0]) hz
      have hz1 : (upd H z (.lst [.int 0])) z = some (.lst [.int 0]) := upd_same
      generalize upd H z (.lst [.int 0]) = H1 at s1 hz1
      have hl1 := s1 _ _ hl
      refine ⟨_, rfl, _, rfl, l, _, rfl, .inl (SqL.of hl1), _, _, rfl, rfl, z, _, _, rfl, rfl, hz1, by simp; omega, by simp; omega, Nat.le_trans (show _ ≤ 48 by simp; omega) (show 48 ≤ sizeLine by decide), fun y hy => ?_⟩
      have ez : (List.replicate (((off : Int) - ((ws.map V.int).length : Int)).toNat) [V.int 0]).flatten = (List.replicate (off - ws.length) (0 : Int)).map V.int := by
        rw [List.length_map, show ((off : Int) - (ws.length : Int)).toNat = off - ws.length by omega]
        generalize off - ws.length = m
        induction m with
        | zero => rfl
        | succ m ih => rw [List.replicate_succ, List.flatten_cons, ih, List.replicate_succ, List.map_cons]; rfl
      rw [ez]
      have s2 := Same.new (o := .lst ((List.replicate (off - ws.length) (0 : Int)).map V.int)) hy
      have hy2 : (upd H1 y (.lst ((List.replicate (off - ws.length) (0 : Int)).map V.int))) y = some (.lst ((List.replicate (off - ws.length) (0 : Int)).map V.int)) := upd_same
      generalize upd H1 y (.lst ((List.replicate (off - ws.length) (0 : Int)).map V.int)) = H2 at s2 hy2
      have hl2 := s2 _ _ hl1
      have s02 := s1.trans s2
      refine ⟨l, y, _, _, rfl, rfl, hl2, hy2, Nat.le_trans (show _ ≤ 96 by simp; omega) (show 96 ≤ sizeLine by decide), ?_⟩
      rw [← List.map_append]
      generalize hw1 : ws ++ List.replicate (off - ws.length) (0 : Int) = ws1
      have len1 : off ≤ ws1.length ∧ ws1.length ≤ 48 := by
        rw [← hw1]; simp; omega
      have hl3 : (upd H2 l (.lst (ws1.map V.int))) l = some (.lst (ws1.map V.int)) := upd_same
      have o3 : ∀ b o, H b = some o → b ≠ l → (upd H2 l (.lst (ws1.map V.int))) b = some o := fun b o e h => by rw [upd_ne h]; exact s02 _ _ e
      have hv3 := o3 _ _ hv (ne_of hv hl (by intro z; cases z))
      generalize upd H2 l (.lst (ws1.map V.int)) = H3 at hl3 o3 hv3
      refine ⟨_, rfl, _, _, rfl, .inr (SqT.of hv3), fun c hc => ?_⟩
      have s4 := Same.new (o := .lst (new.map V.int)) hc
      have hc4 : (upd H3 c (.lst (new.map V.int))) c = some (.lst (new.map V.int)) := upd_same
      have ncl : l ≠ c := ne_of_none hl3 hc
      generalize upd H3 c (.lst (new.map V.int)) = H4 at s4 hc4
      have hl4 := s4 _ _ hl3
      have hv4 := s4 _ _ hv3
      refine ⟨_, rfl, _, rfl, _, rfl, _, rfl, va, _, rfl, .inr (SqT.of hv4), _, _, rfl, rfl, l, c, _, _, _, _, rfl, rfl, rfl, rfl, ncl, by omega, by rw [List.length_map]; omega, by rw [List.length_map]; omega, hl4, hc4, Nat.le_trans (show _ ≤ 96 by simp; omega) (show 96 ≤ sizeLine by decide), ?_⟩
      refine ⟨szl rfl, fun r hr => ?_⟩
      have hfin : (ws1.map V.int).take ((off : Int)).toNat ++ new.map V.int ++ (ws1.map V.int).drop ((off : Int) + ((new.map V.int).length : Int)).toNat = (putW ws off new).map V.int := by
        unfold putW
        rw [hw1, List.length_map, show ((off : Int) + (new.length : Int)).toNat = off + new.length by omega, Int.toNat_natCast, List.map_append, List.map_append, List.map_take, List.map_drop]
      rw [hfin] at hr ⊢
      generalize eH5 : upd H4 l (.lst ((putW ws off new).map V.int)) = H5 at hr ⊢
      have hl5 : H5 l = some (.lst ((putW ws off new).map V.int)) := by rw [← eH5]; exact upd_same
      refine k2 hsum _ _ (fun b o e hb => ?_) (Same.new hr _ _ hl5) (.tup upd_same (.cons (.str _) (.cons .non .nil)))
      refine Same.new hr _ _ ?_
      rw [← eH5, upd_ne hb]
      exact s4 _ _ (o3 _ _ e hb)
end
end My

namespace My
open PySem L2
local macro_rules | `(tactic| walk_at "ne") => `(tactic| first | assumption | exact Ne.symm (by assumption) | exact ne_of_none (by assumption) (by assumption) | exact Ne.symm (ne_of_none (by assumption) (by assumption)))
local macro_rules | `(tactic| walk_at "hp") => `(tactic| first | assumption | with_reducible exact upd_same | (with_reducible refine Eq.trans (upd_ne ?_) ?_; rotate_left; walk_at "hp"; walk_at "ne"))
local macro_rules | `(tactic| walk_at "cnd") => `(tactic| first | omega | (show (0 : Int) < _; omega) | exact ⟨by omega, by omega⟩ | exact Or.inl ⟨by omega, by omega⟩ | exact Or.inr ⟨by omega, by omega⟩ | exact ⟨by omega, by omega, by decide⟩ | exact ⟨by omega, by omega, by omega⟩)
local macro_rules | `(tactic| walk_at "at") => `(tactic| first | exact atC 0 rfl rfl | exact atC 1 rfl rfl | exact atC 2 rfl rfl | exact atC 3 rfl rfl | exact atC 4 rfl rfl | exact atC 5 rfl rfl | exact atC 6 rfl rfl | exact atC 7 rfl rfl)
local macro_rules | `(tactic| walk_at "ix") => `(tactic| first | exact ixC 0 rfl (Nat.le_of_ble_eq_true rfl) | exact ixC 1 rfl (Nat.le_of_ble_eq_true rfl) | exact ixC 2 rfl (Nat.le_of_ble_eq_true rfl) | exact ixC 3 rfl (Nat.le_of_ble_eq_true rfl) | exact ixC 4 rfl (Nat.le_of_ble_eq_true rfl) | exact ixC 5 rfl (Nat.le_of_ble_eq_true rfl))
local macro_rules | `(tactic| walk_at "st") => `(tactic| first
  | refine ⟨_, rfl, ?_⟩
  | refine ⟨_, _, rfl, rfl, (by walk_at "cnd" : (_ : Prop)), ?_⟩
  | refine ⟨_, _, rfl, rfl, ?_⟩
  | refine ⟨rfl, ?_⟩
  | refine Or.inl ⟨_, rfl, ?_⟩
  | refine ⟨_, _, _, _, rfl, rfl, by exact SqL.of (by walk_at "hp"), by walk_at "at", ?_⟩
  | refine ⟨_, _, _, _, rfl, rfl, by exact SqT.of (by walk_at "hp"), by walk_at "at", ?_⟩
  | refine ⟨_, _, _, _, rfl, rfl, by walk_at "hp", by walk_at "ix", ?_⟩
  | refine ⟨_, _, rfl, Or.inl (by exact SqL.of (by walk_at "hp")), ?_⟩
  | refine ⟨_, _, rfl, Or.inr (by exact SqT.of (by walk_at "hp")), ?_⟩)
local macro_rules | `(tactic| walk_at "so") => `(tactic| first
  | refine ⟨_, _, _, _, _, rfl, by walk_at "hp", by assumption, by assumption, rfl, ?_⟩
  | refine ⟨_, _, _, _, rfl, by walk_at "hp", by assumption, by assumption, Nat.le_of_ble_eq_true rfl, ?_⟩
  | refine ⟨_, _, _, rfl, by walk_at "hp", rfl, ?_⟩
  | walk_at "st")
local macro_rules | `(tactic| walk_at "ro") => `(tactic| repeat walk_at "so")
local macro_rules | `(tactic| walk_at "run") => `(tactic| repeat walk_at "st")

/-! ### requests, and what is due -/
inductive Rq
  | make (b : Bool)
  | put (off : Nat) (ws : List Int)
  | get (a n : Nat)
  | shrink (a : Nat)
  | size
  | drop
  | list
def pthD (p : List Int) : PyData := .tuple (p.map PyData.int)
def kindS (b : Bool) : Str := if b = true then "file" else "dir"
def rqP : Rq → List PyData
  | .make b => [.str (kindS b)]
  | .put off ws => [.int off, pthD ws]
  | .get a n => [.int a, .int n]
  | .shrink a => [.int a]
  | _ => []
def rqW : Rq → Str
  | .make _ => "make"
  | .put _ _ => "put"
  | .get _ _ => "get"
  | .shrink _ => "shrink"
  | .size => "size"
  | .drop => "drop"
  | .list => "list"
def rqD (p : List Int) (r : Rq) : PyData := .tuple (.str (rqW r) :: pthD p :: rqP r)
def okRq : Rq → Prop
  | .put off ws => off ≤ 48 ∧ ws.length ≤ 48
  | .get a n => a ≤ 48 ∧ n ≤ 48
  | .shrink a => a ≤ 48
  | _ => True
def okT (d : PyData) : PyData := .tuple [.str "ok", d]
def Srt (F : Fm) (p ys : List Int) : Prop := ys.Pairwise (· < ·) ∧ ∀ n, n ∈ ys ↔ (F (p ++ [n])).isSome = true
open Classical in
noncomputable def lsOf (F : Fm) (p : List Int) : List Int := if h : ∃ ys : List Int, Srt F p ys then h.choose else []
theorem strict_uniq : ∀ (xs ys : List Int), xs.Pairwise (· < ·) → ys.Pairwise (· < ·) → (∀ n, n ∈ xs ↔ n ∈ ys) → xs = ys
  | [], [], _, _, _ => rfl
  | [], y :: ys, _, _, h => absurd ((h y).mpr List.mem_cons_self) (by simp)
  | x :: xs, [], _, _, h => absurd ((h x).mp List.mem_cons_self) (by simp)
  | x :: xs, y :: ys, hx, hy, h => by
    obtain ⟨x1, x2⟩ := List.pairwise_cons.mp hx
    obtain ⟨y1, y2⟩ := List.pairwise_cons.mp hy
    have e : x = y := by
      rcases List.mem_cons.mp ((h x).mp List.mem_cons_self) with q | q
      · exact q
      · rcases List.mem_cons.mp ((h y).mpr List.mem_cons_self) with r | r
        · exact r.symm
        · have := x1 y r
          have := y1 x q
          omega
    subst e
    refine congrArg _ (strict_uniq xs ys x2 y2 fun n => ⟨fun q => ?_, fun q => ?_⟩)
    · rcases List.mem_cons.mp ((h n).mp (List.mem_cons_of_mem _ q)) with r | r
      · have := x1 n q; omega
      · exact r
    · rcases List.mem_cons.mp ((h n).mpr (List.mem_cons_of_mem _ q)) with r | r
      · have := y1 n q; omega
      · exact r
theorem lsOf_eq {F : Fm} {p ys : List Int} (h : Srt F p ys) : lsOf F p = ys := by
  have ex : ∃ ys, Srt F p ys := ⟨ys, h⟩
  unfold lsOf
  rw [dif_pos ex]
  have c := ex.choose_spec
  exact strict_uniq _ _ c.1 h.1 fun n => (c.2 n).trans (h.2 n).symm
theorem le_strict : ∀ {ys : List Int}, ys.Pairwise (· ≤ ·) → ys.Nodup → ys.Pairwise (· < ·)
  | [], _, _ => .nil
  | y :: ys, h, n => by
    obtain ⟨h1, h2⟩ := List.pairwise_cons.mp h
    obtain ⟨n1, n2⟩ := List.nodup_cons.mp n
    refine List.pairwise_cons.mpr ⟨fun z hz => ?_, le_strict h2 n2⟩
    have := h1 z hz
    have : y ≠ z := fun e => n1 (by rw [e]; exact hz)
    omega
noncomputable def dueMake (F : Fm) (p : List Int) (b : Bool) : PyData × Fm := if p = [] then (noD "path", F) else match F p.dropLast with
    | some (.dir _) => if (F p).isSome = true then (noD "there", F) else (okD, addF F p.dropLast (p.getLastD 0) (if b = true then .file [] else .dir []))
    | _ => (noD "path", F)
noncomputable def dueDrop (F : Fm) (p : List Int) : PyData × Fm := if p = [] then (noD "path", F) else match F p with
    | none => (noD "path", F)
    | some (.dir (_ :: _)) => (noD "full", F)
    | some _ => (okD, delF F p.dropLast (p.getLastD 0))
noncomputable def dueList (F : Fm) (p : List Int) : PyData × Fm := match F p with
    | none => (noD "path", F)
    | some (.file _) => (noD "file", F)
    | some (.dir _) => (okT (pthD (lsOf F p)), F)
def dueFile (F : Fm) (p : List Int) (g : List Int → PyData × Fm) : PyData × Fm := match F p with
    | none => (noD "path", F)
    | some (.dir _) => (noD "dir", F)
    | some (.file ws) => g ws
def fileG (F : Fm) (p : List Int) : Rq → List Int → PyData × Fm
  | .size, ws => (okT (.int ws.length), F)
  | .get a n, ws => (okT (pthD ((ws.drop a).take n)), F)
  | .shrink a, ws => (okD, setF F p (ws.take a))
  | .put off new, ws => if 48 < off + new.length then (noD "long", F) else (okD, setF F p (putW ws off new))
  | _, _ => (okD, F)
noncomputable def due (F : Fm) (p : List Int) : Rq → PyData × Fm
  | .make b => dueMake F p b
  | .drop => dueDrop F p
  | .list => dueList F p
  | r => dueFile F p (fileG F p r)
section
variable {F : Fm} {p : List Int} {b : Bool}
theorem dueMake_nil : dueMake F [] b = (noD "path", F) := if_pos rfl
theorem dueMake_none (h : p ≠ []) (e : F p.dropLast = none) : dueMake F p b = (noD "path", F) := by unfold dueMake; rw [if_neg h, e]
theorem dueMake_file {ws : List Int} (h : p ≠ []) (e : F p.dropLast = some (.file ws)) : dueMake F p b = (noD "path", F) := by unfold dueMake; rw [if_neg h, e]
theorem dueMake_there {ns : List Int} (h : p ≠ []) (e : F p.dropLast = some (.dir ns)) (q : (F p).isSome = true) : dueMake F p b = (noD "there", F) := by
  unfold dueMake
  rw [if_neg h, e]
  exact if_pos q
theorem dueMake_new {ns : List Int} (h : p ≠ []) (e : F p.dropLast = some (.dir ns)) (q : ¬ (F p).isSome = true) : dueMake F p b = (okD, addF F p.dropLast (p.getLastD 0) (if b = true then .file [] else .dir [])) := by
  unfold dueMake
  rw [if_neg h, e]
  exact if_neg q
theorem dueDrop_nil : dueDrop F [] = (noD "path", F) := if_pos rfl
theorem dueDrop_none (h : p ≠ []) (e : F p = none) : dueDrop F p = (noD "path", F) := by unfold dueDrop; rw [if_neg h, e]
theorem dueDrop_full {n : Int} {ns : List Int} (h : p ≠ []) (e : F p = some (.dir (n :: ns))) : dueDrop F p = (noD "full", F) := by unfold dueDrop; rw [if_neg h, e]
theorem dueDrop_dir (h : p ≠ []) (e : F p = some (.dir [])) : dueDrop F p = (okD, delF F p.dropLast (p.getLastD 0)) := by unfold dueDrop; rw [if_neg h, e]
theorem dueDrop_file {ws : List Int} (h : p ≠ []) (e : F p = some (.file ws)) : dueDrop F p = (okD, delF F p.dropLast (p.getLastD 0)) := by unfold dueDrop; rw [if_neg h, e]
theorem dueList_none (e : F p = none) : dueList F p = (noD "path", F) := by unfold dueList; rw [e]
theorem dueList_file {ws : List Int} (e : F p = some (.file ws)) : dueList F p = (noD "file", F) := by unfold dueList; rw [e]
theorem dueList_dir {ws : List Int} (e : F p = some (.dir ws)) : dueList F p = (okT (pthD (lsOf F p)), F) := by unfold dueList; rw [e]
theorem dueFile_none {g : List Int → PyData × Fm} (e : F p = none) : dueFile F p g = (noD "path", F) := by unfold dueFile; rw [e]
theorem dueFile_dir {g : List Int → PyData × Fm} {ns : List Int} (e : F p = some (.dir ns)) : dueFile F p g = (noD "dir", F) := by unfold dueFile; rw [e]
theorem dueFile_file {g : List Int → PyData × Fm} {ws : List Int} (e : F p = some (.file ws)) : dueFile F p g = g ws := by unfold dueFile; rw [e]
end
/-! ### what a step leaves -/
def Own (F : Fm) (α : TA) (b : Addr) : Prop := ∃ q, (F q).isSome = true ∧ (b = α.nd q ∨ b = α.inn q)
def Fin1 (Q : VK) (H : Hp) (a0 : Addr) (F : Fm) (α : TA) (res : PyData × Fm) : Prop := ∀ d H' α', TR H' a0 res.2 α' → Left F α H H' → (∀ b, Own res.2 α' b → Own F α b ∨ H b = none) → Dt H' d res.1 → Q d H'
theorem Left.same {F : Fm} {α : TA} {H H' : Hp} (s : Same H H') : Left F α H H' := fun b o e _ => s b o e
theorem Fin1.stay {Q : VK} {H H' : Hp} {a0 : Addr} {F : Fm} {α : TA} {d : PyData} {v : V} (t : TR H a0 F α) (k : Fin1 Q H a0 F α (d, F)) (s : Same H H') (h : Dt H' v d) : Q v H' :=
  k v H' α (t.same s) (Left.same s) (fun b q => .inl q) h
def Few (F : Fm) : Prop := ∀ p ns, F p = some (.dir ns) → ns.length < 60
theorem TR.live {H : Hp} {a0 : Addr} {F : Fm} {α : TA} (t : TR H a0 F α) {b : Addr} (h : Own F α b) : ∃ o, H b = some o := by
  obtain ⟨q, hq, hb⟩ := h
  obtain ⟨x, e⟩ := Option.isSome_iff_exists.mp hq
  cases x with
  | dir ns =>
    obtain ⟨h1, h2, _⟩ := t.dir q ns e
    rcases hb with rfl | rfl
    · exact ⟨_, h1⟩
    · exact ⟨_, h2⟩
  | file ws =>
    obtain ⟨h1, h2, _⟩ := t.file q ws e
    rcases hb with rfl | rfl
    · exact ⟨_, h1⟩
    · exact ⟨_, h2⟩
theorem last_snoc {p : List Int} (h : p ≠ []) : p = p.dropLast ++ [p.getLastD 0] := by
  rw [show p.getLastD 0 = p.getLast h by cases p with | nil => exact absurd rfl h | cons a r => rfl]
  exact (List.dropLast_concat_getLast h).symm
/-! ### path[:-1], path[-1] -/
theorem r_cutlast {K : PySem.W.Frag} {H : Hp} {v : V} {p : List Int} {Q : VK} (h : PathV H v p) (k : ∀ v' H', Same H H' → PathV H' v' p.dropLast → Q v' H') : rSlA K v none (some (-1)) H Q := by
  obtain ⟨a, rfl, ha⟩ := h
  have e2 : HT.sIx (p.map V.int).length (p.map V.int).length (some (-1)) = p.length - 1 := by
    unfold HT.sIx
    simp only [List.length_map]
    rw [if_pos (by decide)]
    omega
  have e1 : HT.sIx (p.map V.int).length 0 none = 0 := rfl
  refine ⟨a, _, rfl, SqT.of ha, fun hw => ?_, fun _ q hq => ?_⟩
  · rw [e2, List.length_map] at hw
    have : p = [] := List.length_eq_zero_iff.mp (by omega)
    subst this
    exact k _ H (Same.refl H) ⟨a, rfl, ha⟩
  · refine k _ _ (Same.new hq) ⟨q, rfl, ?_⟩
    rw [upd_same]
    unfold cutV
    rw [e2, e1, List.drop_zero, Nat.sub_zero, ← List.map_take, List.dropLast_eq_take]
theorem PathV.same {H H' : Hp} {v : V} {p : List Int} (h : PathV H v p) (s : Same H H') : PathV H' v p := by
  obtain ⟨a, e, ha⟩ := h
  exact ⟨a, e, s _ _ ha⟩
theorem at_last {p : List Int} (h : p ≠ []) : atI (p.map V.int) (-1) = some (.int (p.getLastD 0)) := by
  have e : p.map V.int = p.dropLast.map V.int ++ [.int (p.getLastD 0)] := by
    have := congrArg (List.map V.int) (last_snoc h)
    rw [List.map_append] at this
    exact this
  rw [e]
  exact atI_last _ _
end My

namespace My
open PySem L2
local macro_rules | `(tactic| walk_at "ne") => `(tactic| first | assumption | exact Ne.symm (by assumption) | exact ne_of_none (by assumption) (by assumption) | exact Ne.symm (ne_of_none (by assumption) (by assumption)))
local macro_rules | `(tactic| walk_at "hp") => `(tactic| first | assumption | with_reducible exact upd_same | (with_reducible refine Eq.trans (upd_ne ?_) ?_; rotate_left; walk_at "hp"; walk_at "ne"))
local macro_rules | `(tactic| walk_at "cnd") => `(tactic| first | omega | (show (0 : Int) < _; omega) | exact ⟨by omega, by omega⟩ | exact Or.inl ⟨by omega, by omega⟩ | exact Or.inr ⟨by omega, by omega⟩ | exact ⟨by omega, by omega, by decide⟩ | exact ⟨by omega, by omega, by omega⟩)
local macro_rules | `(tactic| walk_at "at") => `(tactic| first | exact atC 0 rfl rfl | exact atC 1 rfl rfl | exact atC 2 rfl rfl | exact atC 3 rfl rfl | exact atC 4 rfl rfl | exact atC 5 rfl rfl | exact atC 6 rfl rfl | exact atC 7 rfl rfl)
local macro_rules | `(tactic| walk_at "ix") => `(tactic| first | exact ixC 0 rfl (Nat.le_of_ble_eq_true rfl) | exact ixC 1 rfl (Nat.le_of_ble_eq_true rfl) | exact ixC 2 rfl (Nat.le_of_ble_eq_true rfl) | exact ixC 3 rfl (Nat.le_of_ble_eq_true rfl) | exact ixC 4 rfl (Nat.le_of_ble_eq_true rfl) | exact ixC 5 rfl (Nat.le_of_ble_eq_true rfl))
local macro_rules | `(tactic| walk_at "st") => `(tactic| first
  | refine ⟨_, rfl, ?_⟩
  | refine ⟨_, _, rfl, rfl, (by walk_at "cnd" : (_ : Prop)), ?_⟩
  | refine ⟨_, _, rfl, rfl, ?_⟩
  | refine ⟨rfl, ?_⟩
  | refine Or.inl ⟨_, rfl, ?_⟩
  | refine ⟨_, _, _, _, rfl, rfl, by exact SqL.of (by walk_at "hp"), by walk_at "at", ?_⟩
  | refine ⟨_, _, _, _, rfl, rfl, by exact SqT.of (by walk_at "hp"), by walk_at "at", ?_⟩
  | refine ⟨_, _, _, _, rfl, rfl, by walk_at "hp", by walk_at "ix", ?_⟩
  | refine ⟨_, _, rfl, Or.inl (by exact SqL.of (by walk_at "hp")), ?_⟩
  | refine ⟨_, _, rfl, Or.inr (by exact SqT.of (by walk_at "hp")), ?_⟩)
local macro_rules | `(tactic| walk_at "so") => `(tactic| first
  | refine ⟨_, _, _, _, _, rfl, by walk_at "hp", by assumption, by assumption, rfl, ?_⟩
  | refine ⟨_, _, _, _, rfl, by walk_at "hp", by assumption, by assumption, Nat.le_of_ble_eq_true rfl, ?_⟩
  | refine ⟨_, _, _, rfl, by walk_at "hp", rfl, ?_⟩
  | walk_at "st")
local macro_rules | `(tactic| walk_at "ro") => `(tactic| repeat walk_at "so")
local macro_rules | `(tactic| walk_at "run") => `(tactic| repeat walk_at "st")

theorem Fin1.at {Q : VK} {H H1 : Hp} {a0 : Addr} {F : Fm} {α : TA} {r : PyData × Fm} (k : Fin1 Q H a0 F α r) (s : Same H H1) : Fin1 Q H1 a0 F α r :=
  fun d H' α' t l o h => k d H' α' t (fun b ob e n => l b ob (s _ _ e) n) (fun b q => (o b q).imp id fun z => s.free z) h
theorem own_add {H : Hp} {F : Fm} {α : TA} {p : List Int} {n : Int} {x : Part} {a d : Addr} {ns : List Int} (hp : F p = some (.dir ns)) (ha : H a = none) (hd : H d = none) {b : Addr} (h : Own (addF F p n x) (addA α (p ++ [n]) a d) b) : Own F α b ∨ H b = none := by
  obtain ⟨q, hq, hb⟩ := h
  by_cases h1 : q = p ++ [n]
  · subst h1
    rw [show (addA α (p ++ [n]) a d).nd (p ++ [n]) = a from if_pos rfl, show (addA α (p ++ [n]) a d).inn (p ++ [n]) = d from if_pos rfl] at hb
    rcases hb with rfl | rfl
    · exact .inr ha
    · exact .inr hd
  · rw [show (addA α (p ++ [n]) a d).nd q = α.nd q from if_neg h1, show (addA α (p ++ [n]) a d).inn q = α.inn q from if_neg h1] at hb
    refine .inl ⟨q, ?_, hb⟩
    by_cases h2 : q = p
    · rw [h2, hp]; rfl
    · unfold addF at hq
      rw [if_neg h1, if_neg h2] at hq
      exact hq
theorem sixty : 61 ≤ sizeLine := by rw [PySem.sizeLine_eq]; decide
theorem make_done {Q : VK} {H1 H2 : Hp} {a0 a d : Addr} {F : Fm} {α : TA} {p ns : List Int} {b : Bool} (t : TR H1 a0 F α) (few : Few F) (hpe : p ≠ []) (e : F p.dropLast = some (.dir ns)) (hF : ¬ (F p).isSome = true) (k : Fin1 Q H1 a0 F α (dueMake F p b)) (had : a ≠ d) (ha : H1 a = none) (hd : H1 d = none) (s2 : Same H1 H2)
    (hx : ((if b = true then Part.file [] else .dir []) = .dir [] ∧ H2 a = some (.dK [(kN, .ref d)]) ∧ H2 d = some (.dK [])) ∨ ((if b = true then Part.file [] else .dir []) = .file [] ∧ H2 a = some (.dK [(kW, .ref d)]) ∧ H2 d = some (.lst []))) :
    DGet H2 (α.nd p.dropLast) (kV kN) (some (.ref (α.inn p.dropLast))) ∧ ∃ H3, DPut H2 (α.inn p.dropLast) (kV (Sum.inl (p.getLastD 0))) (.ref a) H3 ∧ ∀ q, H3 q = none → Q (.ref q) (upd H3 q (.tup [.str "ok", .non])) := by
  have hsn := last_snoc hpe
  obtain ⟨h1, h2, h3, h4, h5⟩ := t.dir _ _ e
  have g1 := s2 _ _ h1
  have g2 := s2 _ _ h2
  have dg := DGet.k (k := kN) g1
  rw [show valV [(kN, V.ref (α.inn p.dropLast))] kN = some (.ref (α.inn p.dropLast)) from valV_pos rfl] at dg
  refine ⟨dg, _, DPut.k g2 (by rw [List.length_map]; have := few _ _ e; have := sixty; omega), fun q hq => ?_⟩
  have nn : ¬ p.getLastD 0 ∈ ns := fun z => hF (by have := (h5 _).mp z; rw [← hsn] at this; exact this)
  have e1 : valV (ns.map fun n => ((Sum.inl n : L2.Key), V.ref (α.nd (p.dropLast ++ [n])))) (Sum.inl (p.getLastD 0) : L2.Key) = none := by rw [val_names, if_neg nn]
  rw [putK_new _ e1] at hq ⊢
  have hD : (upd H2 (α.inn p.dropLast) (.dK (ns.map (fun n => ((Sum.inl n : L2.Key), V.ref (α.nd (p.dropLast ++ [n])))) ++ [(Sum.inl (p.getLastD 0), .ref a)]))) (α.inn p.dropLast) = some (.dK (ns.map (fun n => ((Sum.inl n : L2.Key), V.ref (α.nd (p.dropLast ++ [n])))) ++ [(Sum.inl (p.getLastD 0), .ref a)])) := upd_same
  have old : ∀ b o, H1 b = some o → b ≠ α.inn p.dropLast → (upd H2 (α.inn p.dropLast) (.dK (ns.map (fun n => ((Sum.inl n : L2.Key), V.ref (α.nd (p.dropLast ++ [n])))) ++ [(Sum.inl (p.getLastD 0), .ref a)]))) b = some o := fun b o q n => by rw [upd_ne n]; exact s2 _ _ q
  have na : a ≠ α.inn p.dropLast := (ne_of_none h2 ha).symm
  have nd : d ≠ α.inn p.dropLast := (ne_of_none h2 hd).symm
  have xa : ∀ o, H2 a = some o → (upd H2 (α.inn p.dropLast) (.dK (ns.map (fun n => ((Sum.inl n : L2.Key), V.ref (α.nd (p.dropLast ++ [n])))) ++ [(Sum.inl (p.getLastD 0), .ref a)]))) a = some o := fun o q => by rw [upd_ne na]; exact q
  have xd : ∀ o, H2 d = some o → (upd H2 (α.inn p.dropLast) (.dK (ns.map (fun n => ((Sum.inl n : L2.Key), V.ref (α.nd (p.dropLast ++ [n])))) ++ [(Sum.inl (p.getLastD 0), .ref a)]))) d = some o := fun o q => by rw [upd_ne nd]; exact q
  generalize upd H2 (α.inn p.dropLast) (.dK (ns.map (fun n => ((Sum.inl n : L2.Key), V.ref (α.nd (p.dropLast ++ [n])))) ++ [(Sum.inl (p.getLastD 0), .ref a)])) = H3 at *
  have tr := TR.add (x := if b = true then Part.file [] else .dir []) t e (few _ _ e) (by rw [← hsn]; cases z : F p with | none => rfl | some y => rw [z] at hF; exact absurd rfl hF) ha hd had (hx.imp (fun ⟨x1, x2, x3⟩ => ⟨x1, xa _ x2, xd _ x3⟩) (fun ⟨x1, x2, x3⟩ => ⟨x1, xa _ x2, xd _ x3⟩)) hD old
  rw [dueMake_new hpe e hF] at k
  refine k _ _ _ (tr.same (Same.new hq)) (fun b o q n => Same.new hq _ _ (old b o q (n _ (by rw [e]; rfl)))) (fun b q => own_add e ha hd q) (.tup upd_same (.cons (.str _) (.cons .non .nil)))
def spMake : Sp := fun vs H Q _ => ∃ (a0 : Addr) (F : Fm) (α : TA) (v : V) (p : List Int) (b : Bool), vs = [.ref a0, v, .str (kindS b)] ∧ TR H a0 F α ∧ Few F ∧ PathV H v p ∧ Fin1 Q H a0 F α (dueMake F p b)
section
variable {P : Program} {w : World} {K : PySem.W.Frag} {mg : Str → Option Value} {base : Heap} {A_PARTS : Addr}
abbrev s_make : Stmt := topS 23
abbrev ns_make : List Str := ["tree", "path", "kind", "around"]
theorem sc_make : FnScope ns_make ["tree", "path", "kind"] (defScope s_make) := ⟨rfl, rfl, rfl, by decide +kernel, rfl, by decide +kernel, by decide +kernel⟩

theorem ok_make {f : Addr} {fd : FuncData} (F : Fun K "_make" "_make" s_make f fd) (T : Txt K mg  w A_PARTS) (D_part_at : Dfn P w K mg base CX0 2 "part_at" ["tree", "path"] spAt) (D_is_directory : Dfn P w K mg base CX0 1 "is_directory" ["part"] spIsDir) (D_new_tree : Dfn P w K mg base CX0 1 "new_tree" [] spNew) : FnOk P w K mg base CX0 3 f fd ["tree", "path", "kind"] spMake := by
  refine F.ok sc_make (fun vs H Q E h => ?_) (fun cdv A outer s H vs Q E hr h => ?_)
  · obtain ⟨a0, F, α, v, p, b, rfl, _⟩ := h
    rfl
  · obtain ⟨a0, Fm, α, v, p, b, rfl, t, few, hpv, k⟩ := h
    refine ⟨_, (pss_cons (ps_set (i := 3) sc_make.nd rfl (Or.inl rfl) (pe_dcall D_part_at (hr.mono (by decide)) (by rfl) pass0 (pa_cons (pv 0) (pa_cons (pe_slice (kSlT K) (pv 1) po_none (po_some (pe_un un_neg pe_int))) pa_nil))))
  (pss_cons (ps_if (PW.pt (pw_or (pt_not (pt_truth (pv 1) (by intro _; rfl))) (pw_or (pt_cmpR op_isN (pv 3) pe_non (nomark _)) (pw_or1 (pt_not (pt_val (pe_dcall D_is_directory (hr.mono (by decide)) (by rfl) pass0 (pa_cons (pv 3) pa_nil)))))))) (pss_one (ps_ret (pe_tup (pa_cons pe_str (pa_cons pe_str pa_nil))))) pss_nil)
  (pss_cons (ps_if (pt_cmp (pc_din (units1 hr) (pe_ix (kIxT K) (pv 1) (pe_un un_neg pe_int) (fun _ _ => rfl)) (pe_dget (units1 hr) (pv 3) pe_str (fun _ _ => rfl)))) (pss_one (ps_ret (pe_tup (pa_cons pe_str (pa_cons pe_str pa_nil))))) pss_nil)
  (pss_cons (ps_dput (units1 hr) (pe_dget (units1 hr) (pv 3) pe_str (fun _ _ => rfl)) (pe_ix (kIxT K) (pv 1) (pe_un un_neg pe_int) (fun _ _ => rfl)) (pe_ifExp (pt_cmpR op_eq (pv 2) pe_str (nomark _)) (pe_dcall0 D_new_tree (hr.mono (by decide)) (by rfl) pass0) (pe_disp (pps_cons pe_str (pe_lst pa_nil) pps_nil) (by rfl) (by rfl) (by intro z; cases z) (by decide))) rfl)
  (pss_one (ps_ret (pe_tup (pa_cons pe_str (pa_cons pe_non pa_nil))))))))), ?_⟩
    refine ⟨_, rfl, _, rfl, _, rfl, _, rfl, r_cutlast hpv fun v' H1 s1 pv1 => ?_⟩
    refine ⟨a0, Fm, α, v', _, rfl, t.same s1, pv1, ?_⟩
    have t1 := t.same s1
    have pv2 := hpv.same s1
    obtain ⟨pa, rfl, hp⟩ := pv2
    by_cases hpe : p = []
    · subst hpe
      rw [dueMake_nil] at k
      refine ⟨_, rfl, false, .inr (.inl ⟨_, SqT.of hp, rfl⟩), iteT (iteT ⟨szl rfl, fun q hq => ?_⟩)⟩
      exact Fin1.stay t k (s1.trans (Same.new hq)) (Dt.tup upd_same (.cons (.str _) (.cons (.str _) .nil)))
    · have ne : (p.map V.int).isEmpty = false := by cases p with | nil => exact absurd rfl hpe | cons a r => rfl
      refine ⟨_, rfl, true, .inr (.inl ⟨_, SqT.of hp, by rw [ne]; rfl⟩), iteF ?_⟩
      have hl := at_last hpe
      have hsn := last_snoc hpe
      cases e : Fm p.dropLast with
      | none =>
        rw [dueMake_none hpe e] at k
        have e1 : partV Fm α p.dropLast = .non := by unfold partV; rw [e]; rfl
        rw [e1]
        refine ⟨_, rfl, rfl, _, rfl, iteT (iteT ⟨szl rfl, fun q hq => ?_⟩)⟩
        exact Fin1.stay t k (s1.trans (Same.new hq)) (Dt.tup upd_same (.cons (.str _) (.cons (.str _) .nil)))
      | some x =>
        have e1 : partV Fm α p.dropLast = .ref (α.nd p.dropLast) := by unfold partV; rw [e]; rfl
        rw [e1]
        refine ⟨_, rfl, rfl, _, rfl, iteF ?_⟩
        cases x with
        | file ws =>
          rw [dueMake_file hpe e] at k
          obtain ⟨h1, h2, _⟩ := t1.file _ _ e
          refine ⟨_, rfl, _, _, rfl, h1, _, rfl, ?_⟩
          have ev : valV [(kW, V.ref (α.inn p.dropLast))] kN = none := by rw [valV_neg kWN]; rfl
          rw [ev]
          refine iteT ⟨szl rfl, fun q hq => ?_⟩
          exact Fin1.stay t k (s1.trans (Same.new hq)) (Dt.tup upd_same (.cons (.str _) (.cons (.str _) .nil)))
        | dir ns =>
          obtain ⟨h1, h2, h3, h4, h5⟩ := t1.dir _ _ e
          refine ⟨_, rfl, _, _, rfl, h1, _, rfl, ?_⟩
          have ev : valV [(kN, V.ref (α.inn p.dropLast))] kN = some (.ref (α.inn p.dropLast)) := valV_pos rfl
          rw [ev]
          refine iteF ?_
          have dg := DGet.k (k := kN) h1
          rw [ev] at dg
          have dg2 := DGet.k (k := (Sum.inl (p.getLastD 0) : L2.Key)) h2
          rw [val_names, ← hsn] at dg2
          refine ⟨_, rfl, _, rfl, _, _, _, _, rfl, rfl, SqT.of hp, hl, ?_⟩
          refine ⟨_, rfl, α.nd p.dropLast, _, rfl, dg, α.inn p.dropLast, _, rfl, dg2, ?_⟩
          have hin : p.getLastD 0 ∈ ns ↔ (Fm p).isSome = true := by
            have := h5 (p.getLastD 0)
            rw [← hsn] at this
            exact this
          by_cases hF : (Fm p).isSome = true
          · rw [if_pos (hin.mpr hF)]
            refine ⟨_, rfl, iteT ⟨szl rfl, fun q hq => ?_⟩⟩
            rw [dueMake_there hpe e hF] at k
            exact Fin1.stay t k (s1.trans (Same.new hq)) (Dt.tup upd_same (.cons (.str _) (.cons (.str _) .nil)))
          · rw [if_neg (fun z => hF (hin.mp z))]
            refine ⟨_, rfl, iteF ?_⟩
            cases b with
            | false =>
              refine ⟨_, rfl, rfl, _, rfl, iteT ⟨rfl, fun a d had ha hd H2 s2 hna hnd => ?_⟩⟩
              obtain ⟨g1, H3, g2, g3⟩ := make_done t1 few hpe e hF (k.at s1) had ha hd s2 (.inl ⟨rfl, hna, hnd⟩)
              refine ⟨_, rfl, _, _, rfl, g1, _, rfl, _, rfl, _, _, _, _, rfl, rfl, SqT.of (s2 _ _ hp), hl, _, H3, rfl, g2, szl rfl, g3⟩
            | true =>
              refine ⟨_, rfl, rfl, _, rfl, iteF fun a ha => ⟨szl rfl, fun d hd => ?_⟩⟩
              have s1' := Same.new (o := .dK []) ha
              have s2' := Same.new (o := .lst []) hd
              have ha2 := s2' _ _ (upd_same : (upd H1 a (.dK [])) a = some (.dK []))
              have hd2 : (upd (upd H1 a (.dK [])) d (.lst [])) d = some (.lst []) := upd_same
              have nad : a ≠ d := ne_of_none upd_same hd
              have s2 : Same H1 (upd (upd (upd H1 a (.dK [])) d (.lst [])) a (.dK [(kW, .ref d)])) := Same.mut (s1'.trans s2') ha
              obtain ⟨g1, H3, g2, g3⟩ := make_done t1 few hpe e hF (k.at s1) nad ha (s1'.free hd) s2 (.inr ⟨rfl, upd_same, by rw [upd_ne nad.symm]; exact hd2⟩)
              refine ⟨ha2, [(kW, .ref d)], rfl, show (1 : Nat) ≤ 15 by decide, ?_⟩
              refine ⟨_, rfl, _, _, rfl, g1, _, rfl, _, rfl, _, _, _, _, rfl, rfl, SqT.of (s2 _ _ hp), hl, _, H3, rfl, g2, szl rfl, g3⟩
end
end My

namespace My
open PySem L2
local macro_rules | `(tactic| walk_at "ne") => `(tactic| first | assumption | exact Ne.symm (by assumption) | exact ne_of_none (by assumption) (by assumption) | exact Ne.symm (ne_of_none (by assumption) (by assumption)))
local macro_rules | `(tactic| walk_at "hp") => `(tactic| first | assumption | with_reducible exact upd_same | (with_reducible refine Eq.trans (upd_ne ?_) ?_; rotate_left; walk_at "hp"; walk_at "ne"))
local macro_rules | `(tactic| walk_at "cnd") => `(tactic| first | omega | (show (0 : Int) < _; omega) | exact ⟨by omega, by omega⟩ | exact Or.inl ⟨by omega, by omega⟩ | exact Or.inr ⟨by omega, by omega⟩ | exact ⟨by omega, by omega, by decide⟩ | exact ⟨by omega, by omega, by omega⟩)
local macro_rules | `(tactic| walk_at "at") => `(tactic| first | exact atC 0 rfl rfl | exact atC 1 rfl rfl | exact atC 2 rfl rfl | exact atC 3 rfl rfl | exact atC 4 rfl rfl | exact atC 5 rfl rfl | exact atC 6 rfl rfl | exact atC 7 rfl rfl)
local macro_rules | `(tactic| walk_at "ix") => `(tactic| first | exact ixC 0 rfl (Nat.le_of_ble_eq_true rfl) | exact ixC 1 rfl (Nat.le_of_ble_eq_true rfl) | exact ixC 2 rfl (Nat.le_of_ble_eq_true rfl) | exact ixC 3 rfl (Nat.le_of_ble_eq_true rfl) | exact ixC 4 rfl (Nat.le_of_ble_eq_true rfl) | exact ixC 5 rfl (Nat.le_of_ble_eq_true rfl))
local macro_rules | `(tactic| walk_at "st") => `(tactic| first
  | refine ⟨_, rfl, ?_⟩
  | refine ⟨_, _, rfl, rfl, (by walk_at "cnd" : (_ : Prop)), ?_⟩
  | refine ⟨_, _, rfl, rfl, ?_⟩
  | refine ⟨rfl, ?_⟩
  | refine Or.inl ⟨_, rfl, ?_⟩
  | refine ⟨_, _, _, _, rfl, rfl, by exact SqL.of (by walk_at "hp"), by walk_at "at", ?_⟩
  | refine ⟨_, _, _, _, rfl, rfl, by exact SqT.of (by walk_at "hp"), by walk_at "at", ?_⟩
  | refine ⟨_, _, _, _, rfl, rfl, by walk_at "hp", by walk_at "ix", ?_⟩
  | refine ⟨_, _, rfl, Or.inl (by exact SqL.of (by walk_at "hp")), ?_⟩
  | refine ⟨_, _, rfl, Or.inr (by exact SqT.of (by walk_at "hp")), ?_⟩)
local macro_rules | `(tactic| walk_at "so") => `(tactic| first
  | refine ⟨_, _, _, _, _, rfl, by walk_at "hp", by assumption, by assumption, rfl, ?_⟩
  | refine ⟨_, _, _, _, rfl, by walk_at "hp", by assumption, by assumption, Nat.le_of_ble_eq_true rfl, ?_⟩
  | refine ⟨_, _, _, rfl, by walk_at "hp", rfl, ?_⟩
  | walk_at "st")
local macro_rules | `(tactic| walk_at "ro") => `(tactic| repeat walk_at "so")
local macro_rules | `(tactic| walk_at "run") => `(tactic| repeat walk_at "st")

theorem Dt.tup1 {H : Hp} {v : V} {d : PyData} (h : Dt H v (.tuple [d])) : ∃ a x, v = .ref a ∧ H a = some (.tup [x]) ∧ Dt H x d := by
  cases h with
  | @tup a xs ds ha hs =>
    match xs, hs with
    | [x], .cons h1 .nil => exact ⟨a, x, rfl, ha, h1⟩
theorem Dt.tup2 {H : Hp} {v : V} {d e : PyData} (h : Dt H v (.tuple [d, e])) : ∃ a x y, v = .ref a ∧ H a = some (.tup [x, y]) ∧ Dt H x d ∧ Dt H y e := by
  cases h with
  | @tup a xs ds ha hs =>
    match xs, hs with
    | [x, y], .cons h1 (.cons h2 .nil) => exact ⟨a, x, y, rfl, ha, h1, h2⟩
theorem ints_of {H : Hp} : ∀ {p : List Int} {xs : List V}, DtAll H xs (p.map PyData.int) → xs = p.map V.int
  | [], _, h => by cases h; rfl
  | n :: p, _, h => by
    cases h with
    | cons h1 h2 =>
      cases h1
      rw [ints_of h2]; rfl
theorem path_of {H : Hp} {v : V} {p : List Int} (h : Dt H v (pthD p)) : PathV H v p := by
  cases h with
  | @tup a xs ds ha hs =>
    rw [ints_of hs] at ha
    exact ⟨a, rfl, ha⟩
theorem dt_path {H : Hp} {v : V} {p : List Int} (h : PathV H v p) : Dt H v (pthD p) := by
  obtain ⟨a, rfl, ha⟩ := h
  exact .tup ha (DtAll.ints p)
theorem own_del {F : Fm} {α : TA} {p : List Int} {n : Int} {ns : List Int} (hp : F p = some (.dir ns)) {b : Addr} (h : Own (delF F p n) α b) : Own F α b := by
  obtain ⟨q, hq, hb⟩ := h
  refine ⟨q, ?_, hb⟩
  unfold delF at hq
  by_cases h1 : q = p ++ [n]
  · rw [if_pos h1] at hq; cases hq
  · rw [if_neg h1] at hq
    by_cases h2 : q = p
    · rw [h2, hp]; rfl
    · rw [if_neg h2] at hq; exact hq
theorem own_set {F : Fm} {α : TA} {p : List Int} {ws ws' : List Int} (hp : F p = some (.file ws)) {b : Addr} (h : Own (setF F p ws') α b) : Own F α b := by
  obtain ⟨q, hq, hb⟩ := h
  refine ⟨q, ?_, hb⟩
  unfold setF at hq
  by_cases h1 : q = p
  · rw [h1, hp]; rfl
  · rw [if_neg h1] at hq; exact hq
def spDrop : Sp := fun vs H Q _ => ∃ (a0 : Addr) (F : Fm) (α : TA) (v : V) (p : List Int), vs = [.ref a0, v, .ref (α.nd p)] ∧ TR H a0 F α ∧ PathV H v p ∧ (F p).isSome = true ∧ Fin1 Q H a0 F α (dueDrop F p)
theorem drop_done {Q : VK} {H : Hp} {a0 : Addr} {F : Fm} {α : TA} {p ns : List Int} (t : TR H a0 F α) (hpe : p ≠ []) (e : F p.dropLast = some (.dir ns)) (hx : ∀ m, F (p ++ [m]) = none) (k : Fin1 Q H a0 F α (okD, delF F p.dropLast (p.getLastD 0))) :
    ∀ q, (upd H (α.inn p.dropLast) (.dK (dropK (ns.map fun n => ((Sum.inl n : L2.Key), V.ref (α.nd (p.dropLast ++ [n])))) (Sum.inl (p.getLastD 0))))) q = none → Q (.ref q) (upd (upd H (α.inn p.dropLast) (.dK (dropK (ns.map fun n => ((Sum.inl n : L2.Key), V.ref (α.nd (p.dropLast ++ [n])))) (Sum.inl (p.getLastD 0))))) q (.tup [.str "ok", .non])) := by
  intro q hq
  have hsn := last_snoc hpe
  have old : ∀ b o, H b = some o → b ≠ α.inn p.dropLast → (upd H (α.inn p.dropLast) (.dK (dropK (ns.map fun n => ((Sum.inl n : L2.Key), V.ref (α.nd (p.dropLast ++ [n])))) (Sum.inl (p.getLastD 0))))) b = some o := fun b o q n => by rw [upd_ne n]; exact q
  have tr := TR.del t e (n := p.getLastD 0) (fun m => by rw [← hsn]; exact hx m) upd_same old
  exact k _ _ _ (tr.same (Same.new hq)) (fun b o q n => Same.new hq _ _ (old b o q (n _ (by rw [e]; rfl)))) (fun b q => .inl (own_del e q)) (.tup upd_same (.cons (.str _) (.cons .non .nil)))
section
variable {P : Program} {w : World} {K : PySem.W.Frag} {mg : Str → Option Value} {base : Heap} {A_PARTS : Addr}
abbrev s_drop : Stmt := topS 24
abbrev ns_drop : List Str := ["tree", "path", "part", "around"]
theorem sc_drop : FnScope ns_drop ["tree", "path", "part"] (defScope s_drop) := ⟨rfl, rfl, rfl, by decide +kernel, rfl, by decide +kernel, by decide +kernel⟩

theorem ok_drop {f : Addr} {fd : FuncData} (F : Fun K "_drop" "_drop" s_drop f fd) (T : Txt K mg  w A_PARTS) (D_part_at : Dfn P w K mg base CX0 2 "part_at" ["tree", "path"] spAt) (D_is_directory : Dfn P w K mg base CX0 1 "is_directory" ["part"] spIsDir) : FnOk P w K mg base CX0 3 f fd ["tree", "path", "part"] spDrop := by
  refine F.ok sc_drop (fun vs H Q E h => ?_) (fun cdv A outer s H vs Q E hr h => ?_)
  · obtain ⟨a0, F, α, v, p, rfl, _⟩ := h
    rfl
  · obtain ⟨a0, Fm, α, v, p, rfl, t, hpv, hs, k⟩ := h
    refine ⟨_, (pss_cons (ps_if (pt_not (pt_truth (pv 1) (by intro _; rfl))) (pss_one (ps_ret (pe_tup (pa_cons pe_str (pa_cons pe_str pa_nil))))) pss_nil)
  (pss_cons (ps_if (PW.pt (pw_and (pt_val (pe_dcall D_is_directory (hr.mono (by decide)) (by rfl) pass0 (pa_cons (pv 2) pa_nil))) (pw_and1 (pt_truth (pe_dget (units1 hr) (pv 2) pe_str (fun _ _ => rfl)) (by intro _; rfl))))) (pss_one (ps_ret (pe_tup (pa_cons pe_str (pa_cons pe_str pa_nil))))) pss_nil)
  (pss_cons (ps_set (i := 3) sc_drop.nd rfl (Or.inl rfl) (pe_dcall D_part_at (hr.mono (by decide)) (by rfl) pass0 (pa_cons (pv 0) (pa_cons (pe_slice (kSlT K) (pv 1) po_none (po_some (pe_un un_neg pe_int))) pa_nil))))
  (pss_cons (ps_ddel (pe_dget (units1 hr) (pv 3) pe_str (fun _ _ => rfl)) (pe_ix (kIxT K) (pv 1) (pe_un un_neg pe_int) (fun _ _ => rfl)))
  (pss_one (ps_ret (pe_tup (pa_cons pe_str (pa_cons pe_non pa_nil))))))))), ?_⟩
    obtain ⟨pa, rfl, hp⟩ := id hpv
    by_cases hpe : p = []
    · subst hpe
      rw [dueDrop_nil] at k
      refine ⟨_, rfl, false, .inr (.inl ⟨_, SqT.of hp, rfl⟩), iteT ⟨szl rfl, fun q hq => ?_⟩⟩
      exact Fin1.stay t k (Same.new hq) (Dt.tup upd_same (.cons (.str _) (.cons (.str _) .nil)))
    · have ne : (p.map V.int).isEmpty = false := by cases p with | nil => exact absurd rfl hpe | cons a r => rfl
      have hl := at_last hpe
      have hsn := last_snoc hpe
      refine ⟨_, rfl, true, .inr (.inl ⟨_, SqT.of hp, by rw [ne]; rfl⟩), iteF ?_⟩
      obtain ⟨ns, hup⟩ := t.up p.dropLast (p.getLastD 0) (by rw [← hsn]; exact hs)
      have hin := ((t.dir _ _ hup).2.2.2.2 (p.getLastD 0)).mpr (by rw [← hsn]; exact hs)
      have e1 : partV Fm α p.dropLast = .ref (α.nd p.dropLast) := by unfold partV; rw [hup]; rfl
      obtain ⟨x, e⟩ := Option.isSome_iff_exists.mp hs
      have last : ∀ (Hx : Hp), Same H Hx → Fin1 Q Hx a0 Fm α (okD, delF Fm p.dropLast (p.getLastD 0)) → (∀ m, Fm (p ++ [m]) = none) →
          DGet Hx (α.nd p.dropLast) (kV kN) (some (.ref (α.inn p.dropLast))) ∧ Hx (α.inn p.dropLast) = some (.dK (ns.map fun n => ((Sum.inl n : L2.Key), V.ref (α.nd (p.dropLast ++ [n]))))) ∧ (valV (ns.map fun n => ((Sum.inl n : L2.Key), V.ref (α.nd (p.dropLast ++ [n])))) (Sum.inl (p.getLastD 0))).isSome = true := fun Hx s kk hx => by
        obtain ⟨h1, h2, h3, h4, h5⟩ := (t.same s).dir _ _ hup
        have dg := DGet.k (k := kN) h1
        rw [show valV [(kN, V.ref (α.inn p.dropLast))] kN = some (.ref (α.inn p.dropLast)) from valV_pos rfl] at dg
        exact ⟨dg, h2, by rw [val_names, if_pos hin]; rfl⟩
      cases x with
      | file ws =>
        rw [dueDrop_file hpe e] at k
        obtain ⟨h1, h2, _⟩ := t.file _ _ e
        refine ⟨_, rfl, _, _, rfl, h1, _, rfl, ?_⟩
        rw [show valV [(kW, V.ref (α.inn p))] kN = none by rw [valV_neg kWN]; rfl]
        refine iteF (iteF ?_)
        refine ⟨_, rfl, _, rfl, _, rfl, _, rfl, r_cutlast hpv fun v' H1 s1 pv1 => ?_⟩
        refine ⟨a0, Fm, α, v', _, rfl, t.same s1, pv1, ?_⟩
        rw [e1]
        have hx : ∀ m, Fm (p ++ [m]) = none := fun m => pre_file t e m []
        obtain ⟨dg, dh, dv⟩ := last H1 s1 (k.at s1) hx
        refine ⟨_, rfl, _, _, rfl, dg, _, rfl, _, rfl, _, _, _, _, rfl, rfl, SqT.of (s1 _ _ hp), hl, _, _, _, rfl, dh, rfl, dv, szl rfl, ?_⟩
        exact drop_done (t.same s1) hpe hup hx (k.at s1)
      | dir ms =>
        obtain ⟨h1, h2, h3, h4, h5⟩ := t.dir _ _ e
        have dg := DGet.k (k := kN) h1
        rw [show valV [(kN, V.ref (α.inn p))] kN = some (.ref (α.inn p)) from valV_pos rfl] at dg
        refine ⟨_, rfl, _, _, rfl, h1, _, rfl, ?_⟩
        rw [show valV [(kN, V.ref (α.inn p))] kN = some (.ref (α.inn p)) from valV_pos rfl]
        refine iteT ⟨_, rfl, _, _, rfl, dg, ?_⟩
        cases ms with
        | cons m ms =>
          rw [dueDrop_full hpe e] at k
          refine ⟨true, .inr (.inr ⟨_, h2, rfl⟩), iteT ⟨szl rfl, fun q hq => ?_⟩⟩
          exact Fin1.stay t k (Same.new hq) (Dt.tup upd_same (.cons (.str _) (.cons (.str _) .nil)))
        | nil =>
          rw [dueDrop_dir hpe e] at k
          refine ⟨false, .inr (.inr ⟨_, h2, rfl⟩), iteF ?_⟩
          refine ⟨_, rfl, _, rfl, _, rfl, _, rfl, r_cutlast hpv fun v' H1 s1 pv1 => ?_⟩
          refine ⟨a0, Fm, α, v', _, rfl, t.same s1, pv1, ?_⟩
          rw [e1]
          have hx : ∀ m, Fm (p ++ [m]) = none := fun m => by
            cases z : Fm (p ++ [m]) with
            | none => rfl
            | some y => exact absurd ((h5 m).mpr (by rw [z]; rfl)) (by simp)
          obtain ⟨dg2, dh, dv⟩ := last H1 s1 (k.at s1) hx
          refine ⟨_, rfl, _, _, rfl, dg2, _, rfl, _, rfl, _, _, _, _, rfl, rfl, SqT.of (s1 _ _ hp), hl, _, _, _, rfl, dh, rfl, dv, szl rfl, ?_⟩
          exact drop_done (t.same s1) hpe hup hx (k.at s1)
end
end My

namespace My
open PySem L2
local macro_rules | `(tactic| walk_at "ne") => `(tactic| first | assumption | exact Ne.symm (by assumption) | exact ne_of_none (by assumption) (by assumption) | exact Ne.symm (ne_of_none (by assumption) (by assumption)))
local macro_rules | `(tactic| walk_at "hp") => `(tactic| first | assumption | with_reducible exact upd_same | (with_reducible refine Eq.trans (upd_ne ?_) ?_; rotate_left; walk_at "hp"; walk_at "ne"))
local macro_rules | `(tactic| walk_at "cnd") => `(tactic| first | omega | (show (0 : Int) < _; omega) | exact ⟨by omega, by omega⟩ | exact Or.inl ⟨by omega, by omega⟩ | exact Or.inr ⟨by omega, by omega⟩ | exact ⟨by omega, by omega, by decide⟩ | exact ⟨by omega, by omega, by omega⟩)
local macro_rules | `(tactic| walk_at "at") => `(tactic| first | exact atC 0 rfl rfl | exact atC 1 rfl rfl | exact atC 2 rfl rfl | exact atC 3 rfl rfl | exact atC 4 rfl rfl | exact atC 5 rfl rfl | exact atC 6 rfl rfl | exact atC 7 rfl rfl)
local macro_rules | `(tactic| walk_at "ix") => `(tactic| first | exact ixC 0 rfl (Nat.le_of_ble_eq_true rfl) | exact ixC 1 rfl (Nat.le_of_ble_eq_true rfl) | exact ixC 2 rfl (Nat.le_of_ble_eq_true rfl) | exact ixC 3 rfl (Nat.le_of_ble_eq_true rfl) | exact ixC 4 rfl (Nat.le_of_ble_eq_true rfl) | exact ixC 5 rfl (Nat.le_of_ble_eq_true rfl))
local macro_rules | `(tactic| walk_at "st") => `(tactic| first
  | refine ⟨_, rfl, ?_⟩
  | refine ⟨_, _, rfl, rfl, (by walk_at "cnd" : (_ : Prop)), ?_⟩
  | refine ⟨_, _, rfl, rfl, ?_⟩
  | refine ⟨rfl, ?_⟩
  | refine Or.inl ⟨_, rfl, ?_⟩
  | refine ⟨_, _, _, _, rfl, rfl, by exact SqL.of (by walk_at "hp"), by walk_at "at", ?_⟩
  | refine ⟨_, _, _, _, rfl, rfl, by exact SqT.of (by walk_at "hp"), by walk_at "at", ?_⟩
  | refine ⟨_, _, _, _, rfl, rfl, by walk_at "hp", by walk_at "ix", ?_⟩
  | refine ⟨_, _, rfl, Or.inl (by exact SqL.of (by walk_at "hp")), ?_⟩
  | refine ⟨_, _, rfl, Or.inr (by exact SqT.of (by walk_at "hp")), ?_⟩)
local macro_rules | `(tactic| walk_at "so") => `(tactic| first
  | refine ⟨_, _, _, _, _, rfl, by walk_at "hp", by assumption, by assumption, rfl, ?_⟩
  | refine ⟨_, _, _, _, rfl, by walk_at "hp", by assumption, by assumption, Nat.le_of_ble_eq_true rfl, ?_⟩
  | refine ⟨_, _, _, rfl, by walk_at "hp", rfl, ?_⟩
  | walk_at "st")
local macro_rules | `(tactic| walk_at "ro") => `(tactic| repeat walk_at "so")
local macro_rules | `(tactic| walk_at "run") => `(tactic| repeat walk_at "st")

def isFileRq : Rq → Prop
  | .put _ _ => True
  | .get _ _ => True
  | .shrink _ => True
  | .size => True
  | _ => False
theorem cut_int (ws : List Int) (a n : Nat) : cutV (ws.map V.int) (some (a : Int)) (some ((a : Int) + (n : Int))) = ((ws.drop a).take n).map V.int := by
  unfold cutV
  rw [show (a : Int) + (n : Int) = ((a + n : Nat) : Int) by omega, HT.sIx_nat, HT.sIx_nat, List.length_map, List.map_take, List.map_drop]
  rcases Nat.le_total a ws.length with q | q
  · rw [Nat.min_eq_left q]
    rcases Nat.le_total (a + n) ws.length with r | r
    · rw [Nat.min_eq_left r, Nat.add_sub_cancel_left]
    · rw [Nat.min_eq_right r, List.take_of_length_le (by simp), List.take_of_length_le (by simp; omega)]
  · rw [Nat.min_eq_right q, List.drop_eq_nil_of_le (by simp), List.drop_eq_nil_of_le (by simpa using q), List.take_nil, List.take_nil]
def spAskFile : Sp := fun vs H Q _ => ∃ (a0 : Addr) (F : Fm) (α : TA) (v : V) (p : List Int) (r : Rq) (ws : List Int), vs = [.ref (α.inn p), .str (rqW r), v] ∧ TR H a0 F α ∧ F p = some (.file ws) ∧ Dt H v (.tuple (rqP r)) ∧ okRq r ∧ isFileRq r ∧ Fin1 Q H a0 F α (fileG F p r ws)
section
variable {P : Program} {w : World} {K : PySem.W.Frag} {mg : Str → Option Value} {base : Heap} {A_PARTS : Addr}
abbrev s_ask_file : Stmt := topS 26
abbrev ns_ask_file : List Str := ["words", "word", "parts"]
theorem sc_ask_file : FnScope ns_ask_file ["words", "word", "parts"] (defScope s_ask_file) := ⟨rfl, rfl, rfl, by decide +kernel, rfl, by decide +kernel, by decide +kernel⟩

theorem ok_ask_file {f : Addr} {fd : FuncData} (F : Fun K "_ask_file" "_ask_file" s_ask_file f fd) (T : Txt K mg  w A_PARTS) (D_put : Dfn P w K mg base CX0 1 "_put" ["words", "offset", "new"] spPut) : FnOk P w K mg base CX0 2 f fd ["words", "word", "parts"] spAskFile := by
  refine F.ok sc_ask_file (fun vs H Q E h => ?_) (fun cdv A outer s H vs Q E hr h => ?_)
  · obtain ⟨a0, F, α, v, p, r, ws, rfl, _⟩ := h
    rfl
  · obtain ⟨a0, Fm, α, v, p, r, ws, rfl, t, e, hd, okr, isf, k⟩ := h
    refine ⟨_, (pss_cons (ps_if (pt_cmpR op_eq (pv 1) pe_str (nomark _)) (pss_one (ps_ret (pe_dcall D_put (hr.mono (by decide)) (by rfl) pass0 (pa_cons (pv 0) (pa_cons (pe_ix (kIxT K) (pv 2) pe_int (fun _ _ => rfl)) (pa_cons (pe_ix (kIxT K) (pv 2) pe_int (fun _ _ => rfl)) pa_nil)))))) pss_nil)
  (pss_cons (ps_if (pt_cmpR op_eq (pv 1) pe_str (nomark _)) (pss_one (ps_ret (pe_tup (pa_cons pe_str (pa_cons (pe_callTy (kTupOf K) (by rfl) T.b_tuple (by decide +kernel) (pa_cons (pe_slice (kSlL K) (pv 0) (po_some (pe_ix (kIxT K) (pv 2) pe_int (fun _ _ => rfl))) (po_some (pe_op op_add (pe_ix (kIxT K) (pv 2) pe_int (fun _ _ => rfl)) (pe_ix (kIxT K) (pv 2) pe_int (fun _ _ => rfl))))) pa_nil)) pa_nil))))) pss_nil)
  (pss_cons (ps_if (pt_cmpR op_eq (pv 1) pe_str (nomark _)) (pss_cons (ps_delF (pv 0) (pe_ix (kIxT K) (pv 2) pe_int (fun _ _ => rfl)))
  (pss_one (ps_ret (pe_tup (pa_cons pe_str (pa_cons pe_non pa_nil)))))) pss_nil)
  (pss_one (ps_ret (pe_tup (pa_cons pe_str (pa_cons (pe_callB (kLen K) (by rfl) T.b_len (by decide +kernel) (pa_cons (pv 0) pa_nil)) pa_nil)))))))), ?_⟩
    obtain ⟨h1, h2, h3⟩ := t.file p ws e
    cases r with
    | make b => exact isf.elim
    | drop => exact isf.elim
    | list => exact isf.elim
    | put off new =>
      obtain ⟨pa, x, y, rfl, hpa, hx, hy⟩ := hd.tup2
      cases hx
      refine ⟨_, rfl, rfl, _, rfl, iteT ?_⟩
      refine ⟨_, rfl, _, rfl, _, _, _, _, rfl, rfl, SqT.of hpa, atC 0 rfl rfl, _, rfl, _, _, _, _, rfl, rfl, SqT.of hpa, atC 1 rfl rfl, ?_⟩
      refine ⟨_, ws, off, _, new, rfl, h2, path_of hy, h3, okr.1, okr.2, fun hh r H' s hr => ?_, fun hh r H' hl hi hr => ?_⟩
      · have e0 : fileG Fm p (.put off new) ws = (noD "long", Fm) := if_pos hh
        rw [e0] at k
        exact Fin1.stay t k s hr
      · have e0 : fileG Fm p (.put off new) ws = (okD, setF Fm p (putW ws off new)) := if_neg (by omega)
        rw [e0] at k
        refine k r H' α (TR.setW t e ?_ hi hl) (fun b o q n => hl b o q (n p (by rw [e]; rfl))) (fun b q => .inl (own_set e q)) hr
        have := okr.1
        unfold putW
        simp only [List.length_append, List.length_take, List.length_drop, List.length_replicate]
        omega
    | get a n =>
      obtain ⟨pa, x, y, rfl, hpa, hx, hy⟩ := hd.tup2
      cases hx
      cases hy
      refine ⟨_, rfl, rfl, _, rfl, iteF ⟨_, rfl, rfl, _, rfl, iteT ?_⟩⟩
      refine ⟨_, rfl, _, rfl, _, _, _, _, rfl, rfl, SqT.of hpa, atC 0 rfl rfl, _, rfl, _, rfl, _, _, _, _, rfl, rfl, SqT.of hpa, atC 0 rfl rfl, _, rfl, _, _, _, _, rfl, rfl, SqT.of hpa, atC 1 rfl rfl, _, _, rfl, rfl, _, rfl, _, _, rfl, SqL.of h2, fun q hq => ?_⟩
      have ec : cutV (ws.map V.int) (some (a : Int)) (some ((a : Int) + (n : Int))) = ((ws.drop a).take n).map V.int := cut_int ws a n
      rw [ec]
      refine ⟨_, _, rfl, .inl ⟨SqL.of upd_same, fun r hr => ⟨szl rfl, fun u hu => ?_⟩⟩⟩
      refine Fin1.stay t k (((Same.new hq).trans (Same.new hr)).trans (Same.new hu)) ?_
      exact Dt.tup upd_same (.cons (.str _) (.cons ((dt_path ⟨_, rfl, upd_same⟩).same (Same.new hu)) .nil))
    | shrink a =>
      obtain ⟨pa, x, rfl, hpa, hx⟩ := hd.tup1
      cases hx
      refine ⟨_, rfl, rfl, _, rfl, iteF ⟨_, rfl, rfl, _, rfl, iteF ⟨_, rfl, rfl, _, rfl, iteT ?_⟩⟩⟩
      refine ⟨_, rfl, _, rfl, _, _, _, _, rfl, rfl, SqT.of hpa, atC 0 rfl rfl, _, _, _, rfl, rfl, by omega, h2, ?_⟩
      have ee : (ws.map V.int).take ((a : Int)).toNat = (ws.take a).map V.int := by rw [Int.toNat_natCast, List.map_take]
      rw [ee]
      refine ⟨szl rfl, fun q hq => ?_⟩
      have old : ∀ b o, H b = some o → b ≠ α.inn p → (upd H (α.inn p) (.lst ((ws.take a).map V.int))) b = some o := fun b o q n => by rw [upd_ne n]; exact q
      refine k _ _ α ((TR.setW t e (by rw [List.length_take]; omega) upd_same old).same (Same.new hq)) (fun b o q n => Same.new hq _ _ (old b o q (n p (by rw [e]; rfl)))) (fun b q => .inl (own_set e q)) (.tup upd_same (.cons (.str _) (.cons .non .nil)))
    | size =>
      refine ⟨_, rfl, rfl, _, rfl, iteF ⟨_, rfl, rfl, _, rfl, iteF ⟨_, rfl, rfl, _, rfl, iteF ?_⟩⟩⟩
      refine ⟨_, rfl, _, _, rfl, .inl (SqL.of h2), szl rfl, fun q hq => ?_⟩
      refine Fin1.stay t k (Same.new hq) ?_
      refine Dt.tup upd_same (.cons (.str _) (.cons ?_ .nil))
      rw [List.length_map]
      exact .int _
end
end My

namespace My
open PySem L2
local macro_rules | `(tactic| walk_at "ne") => `(tactic| first | assumption | exact Ne.symm (by assumption) | exact ne_of_none (by assumption) (by assumption) | exact Ne.symm (ne_of_none (by assumption) (by assumption)))
local macro_rules | `(tactic| walk_at "hp") => `(tactic| first | assumption | with_reducible exact upd_same | (with_reducible refine Eq.trans (upd_ne ?_) ?_; rotate_left; walk_at "hp"; walk_at "ne"))
local macro_rules | `(tactic| walk_at "cnd") => `(tactic| first | omega | (show (0 : Int) < _; omega) | exact ⟨by omega, by omega⟩ | exact Or.inl ⟨by omega, by omega⟩ | exact Or.inr ⟨by omega, by omega⟩ | exact ⟨by omega, by omega, by decide⟩ | exact ⟨by omega, by omega, by omega⟩)
local macro_rules | `(tactic| walk_at "at") => `(tactic| first | exact atC 0 rfl rfl | exact atC 1 rfl rfl | exact atC 2 rfl rfl | exact atC 3 rfl rfl | exact atC 4 rfl rfl | exact atC 5 rfl rfl | exact atC 6 rfl rfl | exact atC 7 rfl rfl)
local macro_rules | `(tactic| walk_at "ix") => `(tactic| first | exact ixC 0 rfl (Nat.le_of_ble_eq_true rfl) | exact ixC 1 rfl (Nat.le_of_ble_eq_true rfl) | exact ixC 2 rfl (Nat.le_of_ble_eq_true rfl) | exact ixC 3 rfl (Nat.le_of_ble_eq_true rfl) | exact ixC 4 rfl (Nat.le_of_ble_eq_true rfl) | exact ixC 5 rfl (Nat.le_of_ble_eq_true rfl))
local macro_rules | `(tactic| walk_at "st") => `(tactic| first
  | refine ⟨_, rfl, ?_⟩
  | refine ⟨_, _, rfl, rfl, (by walk_at "cnd" : (_ : Prop)), ?_⟩
  | refine ⟨_, _, rfl, rfl, ?_⟩
  | refine ⟨rfl, ?_⟩
  | refine Or.inl ⟨_, rfl, ?_⟩
  | refine ⟨_, _, _, _, rfl, rfl, by exact SqL.of (by walk_at "hp"), by walk_at "at", ?_⟩
  | refine ⟨_, _, _, _, rfl, rfl, by exact SqT.of (by walk_at "hp"), by walk_at "at", ?_⟩
  | refine ⟨_, _, _, _, rfl, rfl, by walk_at "hp", by walk_at "ix", ?_⟩
  | refine ⟨_, _, rfl, Or.inl (by exact SqL.of (by walk_at "hp")), ?_⟩
  | refine ⟨_, _, rfl, Or.inr (by exact SqT.of (by walk_at "hp")), ?_⟩)
local macro_rules | `(tactic| walk_at "so") => `(tactic| first
  | refine ⟨_, _, _, _, _, rfl, by walk_at "hp", by assumption, by assumption, rfl, ?_⟩
  | refine ⟨_, _, _, _, rfl, by walk_at "hp", by assumption, by assumption, Nat.le_of_ble_eq_true rfl, ?_⟩
  | refine ⟨_, _, _, rfl, by walk_at "hp", rfl, ?_⟩
  | walk_at "st")
local macro_rules | `(tactic| walk_at "ro") => `(tactic| repeat walk_at "so")
local macro_rules | `(tactic| walk_at "run") => `(tactic| repeat walk_at "st")

theorem strNe {a b : Str} (h : a ≠ b) : ¬ V.str a = V.str b := fun e => h (by injection e)
def spAsk : Sp := fun vs H Q _ => ∃ (a0 : Addr) (F : Fm) (α : TA) (v : V) (p : List Int) (r : Rq), vs = [.ref a0, v] ∧ TR H a0 F α ∧ Few F ∧ Dt H v (rqD p r) ∧ okRq r ∧ Fin1 Q H a0 F α (due F p r)
theorem rq_of {H : Hp} {v : V} {p : List Int} {r : Rq} (h : Dt H v (rqD p r)) : ∃ a y rs, v = .ref a ∧ H a = some (.tup (.str (rqW r) :: y :: rs)) ∧ PathV H y p ∧ DtAll H rs (rqP r) := by
  cases h with
  | @tup a xs ds ha hs =>
    match xs, hs with
    | x :: y :: rs, .cons h1 (.cons h2 h3) =>
      cases h1
      exact ⟨a, y, rs, rfl, ha, path_of h2, h3⟩
section
variable {P : Program} {w : World} {K : PySem.W.Frag} {mg : Str → Option Value} {base : Heap} {A_PARTS : Addr}
abbrev s_ask : Stmt := topS 22
abbrev ns_ask : List Str := ["tree", "request", "word", "path", "parts", "part"]
theorem sc_ask : FnScope ns_ask ["tree", "request"] (defScope s_ask) := ⟨rfl, rfl, rfl, by decide +kernel, rfl, by decide +kernel, by decide +kernel⟩

theorem ok_ask {f : Addr} {fd : FuncData} (F : Fun K "ask" "ask" s_ask f fd) (T : Txt K mg  w A_PARTS) (D_make : Dfn P w K mg base CX0 3 "_make" ["tree", "path", "kind"] spMake) (D_part_at : Dfn P w K mg base CX0 2 "part_at" ["tree", "path"] spAt) (D_drop : Dfn P w K mg base CX0 3 "_drop" ["tree", "path", "part"] spDrop) (D_list : Dfn P w K mg base CX0 2 "_list" ["part"] spLst) (D_is_directory : Dfn P w K mg base CX0 1 "is_directory" ["part"] spIsDir) (D_ask_file : Dfn P w K mg base CX0 2 "_ask_file" ["words", "word", "parts"] spAskFile) : FnOk P w K mg base CX0 4 f fd ["tree", "request"] spAsk := by
  refine F.ok sc_ask (fun vs H Q E h => ?_) (fun cdv A outer s H vs Q E hr h => ?_)
  · obtain ⟨a0, F, α, v, p, r, rfl, _⟩ := h
    rfl
  · obtain ⟨a0, Fm, α, v, p, r, rfl, t, few, hd, okr, k⟩ := h
    refine ⟨_, (pss_cons (ps_par3 (i := 2) (j := 3) (l := 4) (by rfl) sc_ask.nd rfl rfl rfl (by decide) (by decide) (by decide) rfl rfl rfl (pa_cons (pe_ix (kIxT K) (pv 1) pe_int (fun _ _ => rfl)) (pa_cons (pe_ix (kIxT K) (pv 1) pe_int (fun _ _ => rfl)) (pa_cons (pe_slice (kSlT K) (pv 1) (po_some pe_int) po_none) pa_nil))) (by rfl))
  (pss_cons (ps_if (pt_cmpR op_eq (pv 2) pe_str (nomark _)) (pss_one (ps_ret (pe_dcall D_make (hr.mono (by decide)) (by rfl) pass0 (pa_cons (pv 0) (pa_cons (pv 3) (pa_cons (pe_ix (kIxT K) (pv 4) pe_int (fun _ _ => rfl)) pa_nil)))))) pss_nil)
  (pss_cons (ps_set (i := 5) sc_ask.nd rfl (Or.inl rfl) (pe_dcall D_part_at (hr.mono (by decide)) (by rfl) pass0 (pa_cons (pv 0) (pa_cons (pv 3) pa_nil))))
  (pss_cons (ps_if (pt_cmpR op_isN (pv 5) pe_non (nomark _)) (pss_one (ps_ret (pe_tup (pa_cons pe_str (pa_cons pe_str pa_nil))))) pss_nil)
  (pss_cons (ps_if (pt_cmpR op_eq (pv 2) pe_str (nomark _)) (pss_one (ps_ret (pe_dcall D_drop (hr.mono (by decide)) (by rfl) pass0 (pa_cons (pv 0) (pa_cons (pv 3) (pa_cons (pv 5) pa_nil)))))) pss_nil)
  (pss_cons (ps_if (pt_cmpR op_eq (pv 2) pe_str (nomark _)) (pss_one (ps_ret (pe_dcall D_list (hr.mono (by decide)) (by rfl) pass0 (pa_cons (pv 5) pa_nil)))) pss_nil)
  (pss_cons (ps_if (pt_val (pe_dcall D_is_directory (hr.mono (by decide)) (by rfl) pass0 (pa_cons (pv 5) pa_nil))) (pss_one (ps_ret (pe_tup (pa_cons pe_str (pa_cons pe_str pa_nil))))) pss_nil)
  (pss_one (ps_ret (pe_dcall D_ask_file (hr.mono (by decide)) (by rfl) pass0 (pa_cons (pe_dget (units1 hr) (pv 5) pe_str (fun _ _ => rfl)) (pa_cons (pv 2) (pa_cons (pv 4) pa_nil))))))))))))), ?_⟩
    obtain ⟨a, y, rs, rfl, ha, hy, hrs⟩ := rq_of hd
    refine ⟨_, rfl, _, _, _, _, rfl, rfl, SqT.of ha, atC 0 rfl rfl, _, rfl, _, _, _, _, rfl, rfl, SqT.of ha, atC 1 rfl rfl, _, rfl, _, rfl, a, _, rfl, SqT.of ha, fun h => absurd h.1 (sl2 _ _ _), fun _ q hq => ?_⟩
    rw [cut2]
    have s1 := Same.new (o := .tup rs) hq
    have hqs : (upd H q (.tup rs)) q = some (.tup rs) := upd_same
    generalize upd H q (.tup rs) = H1 at s1 hqs
    have t1 := t.same s1
    have hy1 := hy.same s1
    have k1 := k.at s1
    have hp1 : Dt H1 (.ref q) (.tuple (rqP r)) := .tup hqs (hrs.same s1)
    refine ⟨_, _, _, rfl, ?_⟩
    have fwd : ∀ (r : Rq), isFileRq r → due Fm p r = dueFile Fm p (fileG Fm p r) ∧ ¬ V.str (rqW r) = V.str "make" ∧ ¬ V.str (rqW r) = V.str "drop" ∧ ¬ V.str (rqW r) = V.str "list" := fun r h => by
      cases r with
      | make b => exact h.elim
      | drop => exact h.elim
      | list => exact h.elim
      | put _ _ => exact ⟨rfl, strNe (show (("put" : Str)) ≠ "make" by decide +kernel), strNe (show (("put" : Str)) ≠ "drop" by decide +kernel), strNe (show (("put" : Str)) ≠ "list" by decide +kernel)⟩
      | get _ _ => exact ⟨rfl, strNe (show (("get" : Str)) ≠ "make" by decide +kernel), strNe (show (("get" : Str)) ≠ "drop" by decide +kernel), strNe (show (("get" : Str)) ≠ "list" by decide +kernel)⟩
      | shrink _ => exact ⟨rfl, strNe (show (("shrink" : Str)) ≠ "make" by decide +kernel), strNe (show (("shrink" : Str)) ≠ "drop" by decide +kernel), strNe (show (("shrink" : Str)) ≠ "list" by decide +kernel)⟩
      | size => exact ⟨rfl, strNe (show (("size" : Str)) ≠ "make" by decide +kernel), strNe (show (("size" : Str)) ≠ "drop" by decide +kernel), strNe (show (("size" : Str)) ≠ "list" by decide +kernel)⟩
    have cs : (∃ b, r = .make b) ∨ r = .drop ∨ r = .list ∨ isFileRq r := by
      cases r with
      | make b => exact .inl ⟨b, rfl⟩
      | drop => exact .inr (.inl rfl)
      | list => exact .inr (.inr (.inl rfl))
      | _ => exact .inr (.inr (.inr trivial))
    rcases cs with ⟨b, rfl⟩ | rfl | rfl | isf
    · cases hrs with
      | cons h1 h2 =>
        cases h2
        cases h1
        refine ⟨_, rfl, rfl, _, rfl, iteT ?_⟩
        exact ⟨_, rfl, _, rfl, _, rfl, _, _, _, _, rfl, rfl, SqT.of hqs, atC 0 rfl rfl, a0, Fm, α, y, p, b, rfl, t1, few, hy1, k1⟩
    · refine ⟨_, rfl, rfl, _, rfl, iteF ⟨_, rfl, _, rfl, a0, Fm, α, y, p, rfl, t1, hy1, ?_⟩⟩
      have k2 : Fin1 Q H1 a0 Fm α (dueDrop Fm p) := k1
      cases e : Fm p with
      | none =>
        rw [show partV Fm α p = .non by unfold partV; rw [e]; rfl]
        have nn : p ≠ [] := fun z => by
          obtain ⟨ns, h0⟩ := t.top
          rw [← z, e] at h0
          cases h0
        rw [dueDrop_none nn e] at k2
        refine ⟨_, rfl, rfl, _, rfl, iteT ⟨szl rfl, fun q hq => ?_⟩⟩
        exact Fin1.stay t1 k2 (Same.new hq) (Dt.tup upd_same (.cons (.str _) (.cons (.str _) .nil)))
      | some x =>
        rw [show partV Fm α p = .ref (α.nd p) by unfold partV; rw [e]; rfl]
        refine ⟨_, rfl, rfl, _, rfl, iteF ⟨_, rfl, rfl, _, rfl, iteT ?_⟩⟩
        exact ⟨_, rfl, _, rfl, _, rfl, a0, Fm, α, y, p, rfl, t1, hy1, by rw [e]; rfl, k2⟩
    · refine ⟨_, rfl, rfl, _, rfl, iteF ⟨_, rfl, _, rfl, a0, Fm, α, y, p, rfl, t1, hy1, ?_⟩⟩
      have k2 : Fin1 Q H1 a0 Fm α (dueList Fm p) := k1
      cases e : Fm p with
      | none =>
        rw [show partV Fm α p = .non by unfold partV; rw [e]; rfl]
        rw [dueList_none e] at k2
        refine ⟨_, rfl, rfl, _, rfl, iteT ⟨szl rfl, fun q hq => ?_⟩⟩
        exact Fin1.stay t1 k2 (Same.new hq) (Dt.tup upd_same (.cons (.str _) (.cons (.str _) .nil)))
      | some x =>
        rw [show partV Fm α p = .ref (α.nd p) by unfold partV; rw [e]; rfl]
        refine ⟨_, rfl, rfl, _, rfl, iteF ⟨_, rfl, rfl, _, rfl, iteF ⟨_, rfl, rfl, _, rfl, iteT ?_⟩⟩⟩
        refine ⟨_, rfl, a0, Fm, α, p, rfl, t1, fun ⟨ws, z⟩ r H' s h => ?_, fun ns z r H' ys hp hsd s h => ?_, by rw [e]; rfl⟩
        · rw [dueList_file z] at k2
          exact Fin1.stay t1 k2 s h
        · rw [dueList_dir z] at k2
          obtain ⟨_, _, h3, _, h5⟩ := t1.dir _ _ z
          have es : lsOf Fm p = ys := lsOf_eq ⟨le_strict hsd (hp.nodup_iff.mpr h3), fun n => by rw [hp.mem_iff]; exact h5 n⟩
          rw [es] at k2
          exact Fin1.stay t1 k2 s h
    · obtain ⟨ed, nm, nd, nl⟩ := fwd r isf
      rw [ed] at k1
      refine ⟨_, rfl, rfl, _, rfl, iteD (fun z => absurd z nm) fun _ => ⟨_, rfl, _, rfl, a0, Fm, α, y, p, rfl, t1, hy1, ?_⟩⟩
      cases e : Fm p with
      | none =>
        rw [show partV Fm α p = .non by unfold partV; rw [e]; rfl]
        rw [dueFile_none e] at k1
        refine ⟨_, rfl, rfl, _, rfl, iteT ⟨szl rfl, fun q hq => ?_⟩⟩
        exact Fin1.stay t1 k1 (Same.new hq) (Dt.tup upd_same (.cons (.str _) (.cons (.str _) .nil)))
      | some x =>
        rw [show partV Fm α p = .ref (α.nd p) by unfold partV; rw [e]; rfl]
        refine ⟨_, rfl, rfl, _, rfl, iteF ⟨_, rfl, rfl, _, rfl, iteD (fun z => absurd z nd) fun _ => ⟨_, rfl, rfl, _, rfl, iteD (fun z => absurd z nl) fun _ => ?_⟩⟩⟩
        cases x with
        | dir ns =>
          rw [dueFile_dir e] at k1
          obtain ⟨h1, h2, _⟩ := t1.dir _ _ e
          refine ⟨_, rfl, _, _, rfl, h1, _, rfl, ?_⟩
          rw [show valV [(kN, V.ref (α.inn p))] kN = some (.ref (α.inn p)) from valV_pos rfl]
          refine iteT ⟨szl rfl, fun q hq => ?_⟩
          exact Fin1.stay t1 k1 (Same.new hq) (Dt.tup upd_same (.cons (.str _) (.cons (.str _) .nil)))
        | file ws =>
          rw [dueFile_file e] at k1
          obtain ⟨h1, h2, _⟩ := t1.file _ _ e
          refine ⟨_, rfl, _, _, rfl, h1, _, rfl, ?_⟩
          rw [show valV [(kW, V.ref (α.inn p))] kN = none by rw [valV_neg kWN]; rfl]
          refine iteF ?_
          have dg := DGet.k (k := kW) h1
          rw [show valV [(kW, V.ref (α.inn p))] kW = some (.ref (α.inn p)) from valV_pos rfl] at dg
          exact ⟨_, rfl, _, _, rfl, dg, _, rfl, _, rfl, a0, Fm, α, _, p, r, ws, rfl, t1, e, hp1, okr, isf, k1⟩
end
end My

namespace My
open PySem L2
local macro_rules | `(tactic| walk_at "ne") => `(tactic| first | assumption | exact Ne.symm (by assumption) | exact ne_of_none (by assumption) (by assumption) | exact Ne.symm (ne_of_none (by assumption) (by assumption)))
local macro_rules | `(tactic| walk_at "hp") => `(tactic| first | assumption | with_reducible exact upd_same | (with_reducible refine Eq.trans (upd_ne ?_) ?_; rotate_left; walk_at "hp"; walk_at "ne"))
local macro_rules | `(tactic| walk_at "cnd") => `(tactic| first | omega | (show (0 : Int) < _; omega) | exact ⟨by omega, by omega⟩ | exact Or.inl ⟨by omega, by omega⟩ | exact Or.inr ⟨by omega, by omega⟩ | exact ⟨by omega, by omega, by decide⟩ | exact ⟨by omega, by omega, by omega⟩)
local macro_rules | `(tactic| walk_at "at") => `(tactic| first | exact atC 0 rfl rfl | exact atC 1 rfl rfl | exact atC 2 rfl rfl | exact atC 3 rfl rfl | exact atC 4 rfl rfl | exact atC 5 rfl rfl | exact atC 6 rfl rfl | exact atC 7 rfl rfl)
local macro_rules | `(tactic| walk_at "ix") => `(tactic| first | exact ixC 0 rfl (Nat.le_of_ble_eq_true rfl) | exact ixC 1 rfl (Nat.le_of_ble_eq_true rfl) | exact ixC 2 rfl (Nat.le_of_ble_eq_true rfl) | exact ixC 3 rfl (Nat.le_of_ble_eq_true rfl) | exact ixC 4 rfl (Nat.le_of_ble_eq_true rfl) | exact ixC 5 rfl (Nat.le_of_ble_eq_true rfl))
local macro_rules | `(tactic| walk_at "st") => `(tactic| first
  | refine ⟨_, rfl, ?_⟩
  | refine ⟨_, _, rfl, rfl, (by walk_at "cnd" : (_ : Prop)), ?_⟩
  | refine ⟨_, _, rfl, rfl, ?_⟩
  | refine ⟨rfl, ?_⟩
  | refine Or.inl ⟨_, rfl, ?_⟩
  | refine ⟨_, _, _, _, rfl, rfl, by exact SqL.of (by walk_at "hp"), by walk_at "at", ?_⟩
  | refine ⟨_, _, _, _, rfl, rfl, by exact SqT.of (by walk_at "hp"), by walk_at "at", ?_⟩
  | refine ⟨_, _, _, _, rfl, rfl, by walk_at "hp", by walk_at "ix", ?_⟩
  | refine ⟨_, _, rfl, Or.inl (by exact SqL.of (by walk_at "hp")), ?_⟩
  | refine ⟨_, _, rfl, Or.inr (by exact SqT.of (by walk_at "hp")), ?_⟩)
local macro_rules | `(tactic| walk_at "so") => `(tactic| first
  | refine ⟨_, _, _, _, _, rfl, by walk_at "hp", by assumption, by assumption, rfl, ?_⟩
  | refine ⟨_, _, _, _, rfl, by walk_at "hp", by assumption, by assumption, Nat.le_of_ble_eq_true rfl, ?_⟩
  | refine ⟨_, _, _, rfl, by walk_at "hp", rfl, ?_⟩
  | walk_at "st")
local macro_rules | `(tactic| walk_at "ro") => `(tactic| repeat walk_at "so")
local macro_rules | `(tactic| walk_at "run") => `(tactic| repeat walk_at "st")

theorem nodup_lenD {α : Type} [DecidableEq α] : ∀ {l ns : List α}, l.Nodup → (∀ x ∈ l, x ∈ ns) → l.length ≤ ns.length
  | [], _, _, _ => Nat.zero_le _
  | x :: l, ns, h, s => by
    obtain ⟨h1, h2⟩ := List.nodup_cons.mp h
    have hx := s x List.mem_cons_self
    have := nodup_lenD (l := l) (ns := ns.erase x) h2 fun y hy => (List.mem_erase_of_ne (fun e => h1 (by rw [← e]; exact hy))).mpr (s y (List.mem_cons_of_mem _ hy))
    rw [List.length_erase_of_mem hx] at this
    have : 0 < ns.length := List.length_pos_of_mem hx
    rw [List.length_cons]; omega
/-- the copy under way: ds are made, ps are to be made -/
structure CI (H H1 : Hp) (F : Fm) (α β : TA) (c A : Addr) (ds ps : List (List Int)) : Prop where
  same : Same H H1
  lst : ∃ ts : List Addr, H1 A = some (.lst (ts.map V.ref)) ∧ ts.length = ps.length ∧ ∀ (i : Nat) t p, ts[i]? = some t → ps[i]? = some p → H1 t = some (.tup [.ref (α.nd p), .ref (β.nd p)])
  root : β.nd [] = c
  nod : (ds ++ ps).Nodup
  inF : ∀ p ∈ ds ++ ps, (F p).isSome = true
  par : ∀ p n, p ++ [n] ∈ ds ++ ps → p ∈ ds
  cov : ∀ p, (F p).isSome = true → p ∈ ds ∨ ∃ q ∈ ps, ∃ r, p = q ++ r
  pend : ∀ q ∈ ps, H1 (β.nd q) = some (.dK [])
  dir : ∀ p ∈ ds, ∀ ns, F p = some (.dir ns) → H1 (β.nd p) = some (.dK [(kN, .ref (β.inn p))]) ∧ H1 (β.inn p) = some (.dK (ns.map fun n => ((Sum.inl n : L2.Key), V.ref (β.nd (p ++ [n])))))
  file : ∀ p ∈ ds, ∀ ws, F p = some (.file ws) → H1 (β.nd p) = some (.dK [(kW, .ref (β.inn p))]) ∧ H1 (β.inn p) = some (.lst (ws.map V.int))
  kid : ∀ p ∈ ds, ∀ n, (F (p ++ [n])).isSome = true → p ++ [n] ∈ ds ++ ps
  frN : ∀ p ∈ ds ++ ps, H (β.nd p) = none
  frI : ∀ p ∈ ds, H (β.inn p) = none
  frA : H A = none
  nA : ∀ p ∈ ds, β.inn p ≠ A
  i1 : ∀ p ∈ ds ++ ps, ∀ q ∈ ds ++ ps, β.nd p = β.nd q → p = q
  i2 : ∀ p ∈ ds, ∀ q ∈ ds, β.inn p = β.inn q → p = q
  i3 : ∀ p ∈ ds ++ ps, ∀ q ∈ ds, β.nd p ≠ β.inn q
def kidsOf : Part → List Int
  | .dir ns => ns
  | .file _ => []
def copA (β : TA) (q : List Int) (g : Int → Addr) (L : Addr) : TA := ⟨fun p => if p ≠ [] ∧ p.dropLast = q then g (p.getLastD 0) else β.nd p, fun p => if p = q then L else β.inn p⟩
section
variable {H H1 H4 : Hp} {F : Fm} {α β : TA} {a0 c A L : Addr} {ds ps : List (List Int)} {q : List Int} {x : Part} {g : Int → Addr}
theorem copA_old (h : CI H H1 F α β c A ds (ps ++ [q])) {p : List Int} (hp : p ∈ ds ++ (ps ++ [q])) : (copA β q g L).nd p = β.nd p := by
  refine if_neg fun ⟨h1, h2⟩ => ?_
  have e := last_snoc h1
  rw [h2] at e
  rw [e] at hp
  have := h.par q _ hp
  exact (List.nodup_append.mp h.nod).2.2 q this q (by simp) rfl
theorem copA_kid (p : List Int) (n : Int) : (copA β p g L).nd (p ++ [n]) = g n := by
  refine (if_pos ⟨by simp, by simp⟩).trans ?_
  rw [show (p ++ [n]).getLastD 0 = n by simp]
theorem CI.live (h : CI H H1 F α β c A ds ps) : (∀ p ∈ ds ++ ps, ∃ o, H1 (β.nd p) = some o) ∧ ∀ p ∈ ds, ∃ o, H1 (β.inn p) = some o := by
  have k : ∀ p ∈ ds, (∃ o, H1 (β.nd p) = some o) ∧ ∃ o, H1 (β.inn p) = some o := fun p hp => by
    obtain ⟨y, e⟩ := Option.isSome_iff_exists.mp (h.inF p (List.mem_append_left _ hp))
    cases y with
    | dir ns => exact ⟨⟨_, (h.dir p hp ns e).1⟩, ⟨_, (h.dir p hp ns e).2⟩⟩
    | file ws => exact ⟨⟨_, (h.file p hp ws e).1⟩, ⟨_, (h.file p hp ws e).2⟩⟩
  refine ⟨fun p hp => ?_, fun p hp => (k p hp).2⟩
  rcases List.mem_append.mp hp with r | r
  · exact (k p r).1
  · exact ⟨_, h.pend p r⟩
theorem CI.step (t : TR H a0 F α) (h : CI H H1 F α β c A ds (ps ++ [q])) (hq : F q = some x) (hL : H1 L = none) (hg : ∀ n ∈ kidsOf x, H1 (g n) = none) (gi : ∀ n ∈ kidsOf x, ∀ m ∈ kidsOf x, g n = g m → n = m) (gL : ∀ n ∈ kidsOf x, g n ≠ L)
    (old : ∀ b o, H1 b = some o → b ≠ A → b ≠ β.nd q → H4 b = some o)
    (hA : ∃ ts : List Addr, H4 A = some (.lst (ts.map V.ref)) ∧ ts.length = (ps ++ (kidsOf x).map fun n => q ++ [n]).length ∧ ∀ (i : Nat) t p, ts[i]? = some t → (ps ++ (kidsOf x).map fun n => q ++ [n])[i]? = some p → H4 t = some (.tup [.ref (α.nd p), .ref ((copA β q g L).nd p)]))
    (hx : (∃ ws, x = .file ws ∧ H4 (β.nd q) = some (.dK [(kW, .ref L)]) ∧ H4 L = some (.lst (ws.map V.int))) ∨ ∃ ns, x = .dir ns ∧ H4 (β.nd q) = some (.dK [(kN, .ref L)]) ∧ H4 L = some (.dK (ns.map fun n => ((Sum.inl n : L2.Key), V.ref (g n)))))
    (hk : ∀ n ∈ kidsOf x, H4 (g n) = some (.dK [])) : CI H H4 F α (copA β q g L) c A (ds ++ [q]) (ps ++ (kidsOf x).map fun n => q ++ [n]) := by
  have qin : q ∈ ds ++ (ps ++ [q]) := by simp
  have nod := h.nod
  have qnd : q ∉ ds := fun z => (List.nodup_append.mp nod).2.2 q z q (by simp) rfl
  have qnp : q ∉ ps := fun z => (List.nodup_append.mp (List.nodup_append.mp nod).2.1).2.2 q z q (by simp) rfl
  have knd : (kidsOf x).Nodup ∧ ∀ n, n ∈ kidsOf x ↔ (F (q ++ [n])).isSome = true := by
    cases x with
    | dir ns => exact ⟨(t.dir q ns hq).2.2.1, (t.dir q ns hq).2.2.2.2⟩
    | file ws => exact ⟨List.nodup_nil, fun n => ⟨fun z => absurd z (by simp [kidsOf]), fun z => by rw [pre_file t hq n []] at z; cases z⟩⟩
  have kidN : ∀ n, q ++ [n] ∉ ds ++ (ps ++ [q]) := fun n z => qnd (h.par q n z)
  have sub : ∀ p, p ∈ ds ++ [q] ++ (ps ++ (kidsOf x).map fun n => q ++ [n]) ↔ p ∈ ds ++ (ps ++ [q]) ∨ ∃ n ∈ kidsOf x, p = q ++ [n] := fun p => by
    simp only [List.mem_append, List.mem_map, List.mem_singleton]
    constructor
    · rintro ((z | z) | z | ⟨n, hn, z⟩)
      · exact .inl (.inl z)
      · exact .inl (.inr (.inr z))
      · exact .inl (.inr (.inl z))
      · exact .inr ⟨n, hn, z.symm⟩
    · rintro ((z | z | z) | ⟨n, hn, z⟩)
      · exact .inl (.inl z)
      · exact .inr (.inl z)
      · exact .inl (.inr z)
      · exact .inr (.inr ⟨n, hn, z.symm⟩)
  have subd : ∀ p, p ∈ ds ++ [q] → p ∈ ds ++ (ps ++ [q]) := fun p hp => by
    rcases List.mem_append.mp hp with z | z
    · exact List.mem_append_left _ z
    · rw [List.mem_singleton.mp z]; exact qin
  obtain ⟨ts0, a1, a2, a3⟩ := h.lst
  obtain ⟨lvN, lvI⟩ := h.live
  have pq := h.pend q (by simp)
  have nqA : β.nd q ≠ A := ne_of pq a1 (by intro z; cases z)
  have s14 : Same H H4 := fun b o e => by
    refine old b o (h.same b o e) (ne_of_none e h.frA) (ne_of_none e (h.frN q qin))
  have inE : ∀ p ∈ ds, (copA β q g L).inn p = β.inn p := fun p hp => if_neg (fun z => qnd (by rw [← z]; exact hp))
  have inQ : (copA β q g L).inn q = L := if_pos rfl
  have ndO : ∀ p, p ∈ ds ++ (ps ++ [q]) → (copA β q g L).nd p = β.nd p := fun p hp => copA_old h hp
  have ndK : ∀ n, (copA β q g L).nd (q ++ [n]) = g n := fun n => copA_kid q n
  have ndA : ∀ p ∈ ds ++ (ps ++ [q]), β.nd p ≠ A := fun p hp => by
    rcases List.mem_append.mp hp with z | z
    · obtain ⟨y, e⟩ := Option.isSome_iff_exists.mp (h.inF p hp)
      cases y with
      | dir ns => exact ne_of (h.dir p z ns e).1 a1 (by intro z; cases z)
      | file ws => exact ne_of (h.file p z ws e).1 a1 (by intro z; cases z)
    · exact ne_of (h.pend p z) a1 (by intro z; cases z)
  have ndne : ∀ p ∈ ds ++ (ps ++ [q]), p ≠ q → β.nd p ≠ β.nd q := fun p hp n e => n (h.i1 p hp q qin e)
  have kidsame : ∀ p ∈ ds, ∀ n, (F (p ++ [n])).isSome = true → (copA β q g L).nd (p ++ [n]) = β.nd (p ++ [n]) := fun p hp n hn => ndO _ (h.kid p hp n hn)
  refine ⟨s14, hA, ?_, ?_, ?_, ?_, ?_, ?_, ?_, ?_, ?_, ?_, ?_, h.frA, ?_, ?_, ?_, ?_⟩
  · by_cases z : ([] : List Int) ∈ ds ++ (ps ++ [q])
    · rw [ndO _ z]; exact h.root
    · have e0 : (copA β q g L).nd [] = β.nd [] := by simp [copA]
      rw [e0]
      exact h.root
  · have n2 : ((kidsOf x).map fun n => q ++ [n]).Nodup := by
      exact List.pairwise_map.mpr (knd.1.imp fun {a b} ne e => ne (snoc_inj e).2)
    have n1 : (ds ++ [q] ++ ps).Nodup := (List.Perm.nodup_iff (by rw [List.append_assoc]; exact (List.perm_append_comm (l₁ := ps) (l₂ := [q])).append_left ds |>.symm)).mpr nod
    rw [← List.append_assoc]
    refine List.nodup_append.mpr ⟨n1, n2, fun a ha b hb e => ?_⟩
    obtain ⟨n, _, rfl⟩ := List.mem_map.mp hb
    subst e
    refine kidN n ?_
    simp only [List.mem_append, List.mem_singleton] at ha ⊢
    rcases ha with (z | z) | z
    · exact .inl z
    · exact .inr (.inr z)
    · exact .inr (.inl z)
  · intro p hp
    rcases (sub p).mp hp with z | ⟨n, hn, rfl⟩
    · exact h.inF p z
    · exact (knd.2 n).mp hn
  · intro p n hp
    rcases (sub _).mp hp with z | ⟨m, hm, e⟩
    · exact List.mem_append_left _ (h.par p n z)
    · rw [(snoc_inj e).1]; simp
  · intro p hp
    rcases h.cov p hp with z | ⟨r, hr, s, e⟩
    · exact .inl (List.mem_append_left _ z)
    · rcases List.mem_append.mp hr with z | z
      · exact .inr ⟨r, List.mem_append_left _ z, s, e⟩
      · have er : r = q := by simpa using z
        subst er
        cases s with
        | nil => exact .inl (by rw [e]; simp)
        | cons n s =>
          refine .inr ⟨r ++ [n], List.mem_append_right _ (List.mem_map.mpr ⟨n, (knd.2 n).mpr ?_, rfl⟩), s, by rw [e]; simp⟩
          cases w : F (r ++ [n]) with
          | some y => rfl
          | none =>
            have := pre_none t s _ w
            rw [e, show r ++ n :: s = r ++ [n] ++ s by simp, this] at hp
            cases hp
  · intro p hp
    rcases List.mem_append.mp hp with z | z
    · have hp' : p ∈ ds ++ (ps ++ [q]) := by simp [z]
      rw [ndO p hp']
      exact old _ _ (h.pend p (by simp [z])) (ndA p hp') (ndne p hp' (fun w => qnp (by rw [← w]; exact z)))
    · obtain ⟨n, hn, rfl⟩ := List.mem_map.mp z
      rw [ndK]
      exact hk n hn
  · intro p hp ns e
    rcases List.mem_append.mp hp with z | z
    · have hp' : p ∈ ds ++ (ps ++ [q]) := List.mem_append_left _ z
      obtain ⟨d1, d2⟩ := h.dir p z ns e
      rw [ndO p hp', inE p z]
      refine ⟨old _ _ d1 (ndA p hp') (ndne p hp' (fun w => qnd (by rw [← w]; exact z))), ?_⟩
      rw [old _ _ d2 (h.nA p z) (fun w => h.i3 q qin p z w.symm)]
      congr 2
      refine List.map_congr_left fun n hn => ?_
      rw [kidsame p z n (((t.dir p ns e).2.2.2.2 n).mp hn)]
    · have ep : p = q := by simpa using z
      subst ep
      rw [hq] at e
      cases e
      rcases hx with ⟨ws, e1, _⟩ | ⟨ns', e1, e2, e3⟩
      · cases e1
      · cases e1
        rw [ndO p qin, inQ]
        refine ⟨e2, ?_⟩
        rw [e3]
        congr 2
        refine List.map_congr_left fun n hn => ?_
        rw [ndK]
  · intro p hp ws e
    rcases List.mem_append.mp hp with z | z
    · have hp' : p ∈ ds ++ (ps ++ [q]) := List.mem_append_left _ z
      obtain ⟨d1, d2⟩ := h.file p z ws e
      rw [ndO p hp', inE p z]
      exact ⟨old _ _ d1 (ndA p hp') (ndne p hp' (fun w => qnd (by rw [← w]; exact z))), old _ _ d2 (h.nA p z) (fun w => h.i3 q qin p z w.symm)⟩
    · have ep : p = q := by simpa using z
      subst ep
      rw [hq] at e
      cases e
      rcases hx with ⟨ws', e1, e2, e3⟩ | ⟨ns', e1, _⟩
      · cases e1
        rw [ndO p qin, inQ]
        exact ⟨e2, e3⟩
      · cases e1
  · intro p hp n hn
    rcases List.mem_append.mp hp with z | z
    · exact (sub _).mpr (.inl (h.kid p z n hn))
    · have ep : p = q := by simpa using z
      subst ep
      exact (sub _).mpr (.inr ⟨n, (knd.2 n).mpr hn, rfl⟩)
  · intro p hp
    rcases (sub p).mp hp with z | ⟨n, hn, rfl⟩
    · rw [ndO p z]; exact h.frN p z
    · rw [ndK]; exact h.same.free (hg n hn)
  · intro p hp
    rcases List.mem_append.mp hp with z | z
    · rw [inE p z]; exact h.frI p z
    · have ep : p = q := by simpa using z
      rw [ep, inQ]; exact h.same.free hL
  · intro p hp
    rcases List.mem_append.mp hp with z | z
    · rw [inE p z]; exact h.nA p z
    · have ep : p = q := by simpa using z
      rw [ep, inQ]; exact (ne_of_none a1 hL).symm
  · intro p hp r hr e
    rcases (sub p).mp hp with z | ⟨n, hn, rfl⟩ <;> rcases (sub r).mp hr with w | ⟨m, hm, rfl⟩
    · rw [ndO p z, ndO r w] at e; exact h.i1 p z r w e
    · rw [ndO p z, ndK] at e
      obtain ⟨o, ho⟩ := lvN p z
      exact absurd e (ne_of_none ho (hg m hm))
    · rw [ndK, ndO r w] at e
      obtain ⟨o, ho⟩ := lvN r w
      exact absurd e.symm (ne_of_none ho (hg n hn))
    · rw [ndK, ndK] at e
      rw [gi n hn m hm e]
  · intro p hp r hr e
    rcases List.mem_append.mp hp with z | z <;> rcases List.mem_append.mp hr with w | w
    · rw [inE p z, inE r w] at e; exact h.i2 p z r w e
    · have er : r = q := by simpa using w
      rw [inE p z, er, inQ] at e
      obtain ⟨o, ho⟩ := lvI p z
      exact absurd e (ne_of_none ho hL)
    · have ep : p = q := by simpa using z
      rw [inE r w, ep, inQ] at e
      obtain ⟨o, ho⟩ := lvI r w
      exact absurd e.symm (ne_of_none ho hL)
    · have ep : p = q := by simpa using z
      have er : r = q := by simpa using w
      rw [ep, er]
  · intro p hp r hr e
    rcases (sub p).mp hp with z | ⟨n, hn, rfl⟩ <;> rcases List.mem_append.mp hr with w | w
    · rw [ndO p z, inE r w] at e; exact h.i3 p z r w e
    · have er : r = q := by simpa using w
      rw [ndO p z, er, inQ] at e
      obtain ⟨o, ho⟩ := lvN p z
      exact ne_of_none ho hL e
    · rw [ndK, inE r w] at e
      obtain ⟨o, ho⟩ := lvI r w
      exact ne_of_none ho (hg n hn) e.symm
    · have er : r = q := by simpa using w
      rw [ndK, er, inQ] at e
      exact gL n hn e
theorem CI.done (t : TR H a0 F α) (h : CI H H1 F α β c A ds []) : TR H1 c F β := by
  have all : ∀ p, (F p).isSome = true → p ∈ ds := fun p hp => by
    rcases h.cov p hp with z | ⟨q, hq, _⟩
    · exact z
    · cases hq
  have all2 : ∀ p, (F p).isSome = true → p ∈ ds ++ [] := fun p hp => by rw [List.append_nil]; exact all p hp
  refine ⟨h.root, t.top, fun p ns e => ?_, fun p ws e => ?_, t.up, fun p q hp hq e => h.i1 p (all2 p hp) q (all2 q hq) e, fun p q hp hq e => h.i2 p (all p hp) q (all q hq) e, fun p q hp hq e => h.i3 p (all2 p hp) q (all q hq) e⟩
  · obtain ⟨d1, d2⟩ := h.dir p (all p (by rw [e]; rfl)) ns e
    exact ⟨d1, d2, (t.dir p ns e).2.2⟩
  · obtain ⟨d1, d2⟩ := h.file p (all p (by rw [e]; rfl)) ws e
    exact ⟨d1, d2, (t.file p ws e).2.2⟩
end
end My

namespace My
open PySem L2
local macro_rules | `(tactic| walk_at "ne") => `(tactic| first | assumption | exact Ne.symm (by assumption) | exact ne_of_none (by assumption) (by assumption) | exact Ne.symm (ne_of_none (by assumption) (by assumption)))
local macro_rules | `(tactic| walk_at "hp") => `(tactic| first | assumption | with_reducible exact upd_same | (with_reducible refine Eq.trans (upd_ne ?_) ?_; rotate_left; walk_at "hp"; walk_at "ne"))
local macro_rules | `(tactic| walk_at "cnd") => `(tactic| first | omega | (show (0 : Int) < _; omega) | exact ⟨by omega, by omega⟩ | exact Or.inl ⟨by omega, by omega⟩ | exact Or.inr ⟨by omega, by omega⟩ | exact ⟨by omega, by omega, by decide⟩ | exact ⟨by omega, by omega, by omega⟩)
local macro_rules | `(tactic| walk_at "at") => `(tactic| first | exact atC 0 rfl rfl | exact atC 1 rfl rfl | exact atC 2 rfl rfl | exact atC 3 rfl rfl | exact atC 4 rfl rfl | exact atC 5 rfl rfl | exact atC 6 rfl rfl | exact atC 7 rfl rfl)
local macro_rules | `(tactic| walk_at "ix") => `(tactic| first | exact ixC 0 rfl (Nat.le_of_ble_eq_true rfl) | exact ixC 1 rfl (Nat.le_of_ble_eq_true rfl) | exact ixC 2 rfl (Nat.le_of_ble_eq_true rfl) | exact ixC 3 rfl (Nat.le_of_ble_eq_true rfl) | exact ixC 4 rfl (Nat.le_of_ble_eq_true rfl) | exact ixC 5 rfl (Nat.le_of_ble_eq_true rfl))
local macro_rules | `(tactic| walk_at "st") => `(tactic| first
  | refine ⟨_, rfl, ?_⟩
  | refine ⟨_, _, rfl, rfl, (by walk_at "cnd" : (_ : Prop)), ?_⟩
  | refine ⟨_, _, rfl, rfl, ?_⟩
  | refine ⟨rfl, ?_⟩
  | refine Or.inl ⟨_, rfl, ?_⟩
  | refine ⟨_, _, _, _, rfl, rfl, by exact SqL.of (by walk_at "hp"), by walk_at "at", ?_⟩
  | refine ⟨_, _, _, _, rfl, rfl, by exact SqT.of (by walk_at "hp"), by walk_at "at", ?_⟩
  | refine ⟨_, _, _, _, rfl, rfl, by walk_at "hp", by walk_at "ix", ?_⟩
  | refine ⟨_, _, rfl, Or.inl (by exact SqL.of (by walk_at "hp")), ?_⟩
  | refine ⟨_, _, rfl, Or.inr (by exact SqT.of (by walk_at "hp")), ?_⟩)
local macro_rules | `(tactic| walk_at "so") => `(tactic| first
  | refine ⟨_, _, _, _, _, rfl, by walk_at "hp", by assumption, by assumption, rfl, ?_⟩
  | refine ⟨_, _, _, _, rfl, by walk_at "hp", by assumption, by assumption, Nat.le_of_ble_eq_true rfl, ?_⟩
  | refine ⟨_, _, _, rfl, by walk_at "hp", rfl, ?_⟩
  | walk_at "st")
local macro_rules | `(tactic| walk_at "ro") => `(tactic| repeat walk_at "so")
local macro_rules | `(tactic| walk_at "run") => `(tactic| repeat walk_at "st")

def Nodes (F : Fm) (N : Nat) : Prop := ∃ L : List (List Int), L.length ≤ N ∧ ∀ p, (F p).isSome = true → p ∈ L
def spCopied : Sp := fun vs H Q _ => ∃ (a0 : Addr) (F : Fm) (α : TA), vs = [.ref a0] ∧ TR H a0 F α ∧ Nodes F 1000 ∧ ∀ c β H', Same H H' → H c = none → TR H' c F β → (∀ b, Own F β b → H b = none) → Q (.ref c) H'
theorem upd_none_of {H : Hp} {a b : Addr} {o : HO} (h : upd H a o b = none) : H b = none := by
  by_cases z : b = a
  · rw [z, upd_same] at h; cases h
  · rw [upd_ne z] at h; exact h
/-- a dict under way: the names so far, each with a new dict -/
def DN (Hl Hx : Hp) (D : Addr) (xs : List Int) : Prop := ∃ g : Int → Addr, Hx D = some (.dK (xs.map fun n => ((Sum.inl n : L2.Key), V.ref (g n)))) ∧ (∀ n ∈ xs, Hl (g n) = none ∧ g n ≠ D ∧ Hx (g n) = some (.dK [])) ∧ (∀ n ∈ xs, ∀ m ∈ xs, g n = g m → n = m) ∧ Same Hl Hx
theorem val_none {f : Int → V} {n : Int} : ∀ {xs : List Int}, n ∉ xs → valV (xs.map fun n => ((Sum.inl n : L2.Key), f n)) (Sum.inl n : L2.Key) = none
  | [], _ => rfl
  | m :: xs, h => by
    rw [List.map_cons, valV_neg (fun z => h (by rw [Sum.inl.inj z]; exact List.mem_cons_self))]
    exact val_none fun z => h (List.mem_cons_of_mem _ z)
theorem DN.step {Hl Hx : Hp} {D p : Addr} {xs : List Int} {n : Int} (h : DN Hl Hx D xs) (hD : Hl D = none) (nn : n ∉ xs) (hp : Hx p = none) : ∃ kvs, (upd Hx p (.dK [])) D = some (.dK kvs) ∧ kvs.length = xs.length ∧ DN Hl (upd (upd Hx p (.dK [])) D (.dK (putK kvs (Sum.inl n) (.ref p)))) D (xs ++ [n]) := by
  obtain ⟨g, h1, h2, h3, h4⟩ := h
  have npD : p ≠ D := (ne_of_none h1 hp).symm
  refine ⟨_, by rw [upd_ne npD.symm]; exact h1, List.length_map .., ?_⟩
  rw [putK_new _ (val_none (f := fun n => V.ref (g n)) nn)]
  have gn : ∀ m ∈ xs, g m ≠ p := fun m hm => ne_of_none (h2 m hm).2.2 hp
  obtain ⟨G, gE, gN⟩ : ∃ G : Int → Addr, (∀ m ∈ xs, G m = g m) ∧ G n = p := ⟨fun m => if m = n then p else g m, fun m hm => if_neg (fun z => nn (by rw [← z]; exact hm)), if_pos rfl⟩
  refine ⟨G, ?_, ?_, ?_, Same.mut (h4.trans (Same.new hp)) hD⟩
  · rw [upd_same, List.map_append]
    congr 3
    · refine List.map_congr_left fun m hm => ?_
      rw [gE m hm]
    · show [((Sum.inl n : L2.Key), V.ref p)] = [((Sum.inl n : L2.Key), V.ref (G n))]
      rw [gN]
  · intro m hm
    rcases List.mem_append.mp hm with z | z
    · obtain ⟨a1, a2, a3⟩ := h2 m z
      rw [gE m z]
      exact ⟨a1, a2, by rw [upd_ne a2, upd_ne (gn m z)]; exact a3⟩
    · have mn : m = n := by simpa using z
      rw [mn, gN]
      exact ⟨h4.free hp, npD, by rw [upd_ne npD, upd_same]⟩
  · intro m hm r hr e
    rcases List.mem_append.mp hm with z | z <;> rcases List.mem_append.mp hr with y | y
    · rw [gE m z, gE r y] at e
      exact h3 m z r y e
    · have rn : r = n := by simpa using y
      rw [gE m z, rn, gN] at e
      exact absurd e (gn m z)
    · have mn : m = n := by simpa using z
      rw [gE r y, mn, gN] at e
      exact absurd e.symm (gn r y)
    · have rn : r = n := by simpa using y
      have mn : m = n := by simpa using z
      rw [rn, mn]
theorem val_some {f : Int → V} {n : Int} : ∀ {xs : List Int}, n ∈ xs → valV (xs.map fun n => ((Sum.inl n : L2.Key), f n)) (Sum.inl n : L2.Key) = some (f n)
  | m :: xs, h => by
    rw [List.map_cons]
    by_cases z : m = n
    · rw [z, valV_pos rfl]
    · rw [valV_neg (fun w => z (Sum.inl.inj w))]
      exact val_some ((List.mem_cons.mp h).resolve_left fun w => z w.symm)
theorem take_nin {xs : List Int} {j : Nat} {n : Int} (h : xs.Nodup) (e : xs[j]? = some n) : n ∉ xs.take j := fun z => by
  have h2 : (xs.take (j + 1)).Nodup := h.sublist (List.take_sublist _ _)
  rw [← take_snoc e] at h2
  exact (List.nodup_append.mp h2).2.2 n z n (by simp) rfl
theorem unlockS {H Hx : Hp} {d : Addr} {od : PySem.Obj} {u : HO} (h : H d = some u) (s : Same (upd H d (.frz od u)) Hx) : Same H (upd Hx d u) := fun b o e => by
  by_cases z : b = d
  · rw [z, upd_same, ← e, z, h]
  · rw [upd_ne z]; exact s b o (by rw [upd_ne z]; exact e)
section
variable {P : Program} {w : World} {K : PySem.W.Frag} {mg : Str → Option Value} {base : Heap} {A_PARTS : Addr}
abbrev s_copied : Stmt := topS 28
abbrev ns_copied : List Str := ["tree", "copy", "ahead", "old", "new", "name"]
theorem sc_copied : FnScope ns_copied ["tree"] (defScope s_copied) := ⟨rfl, rfl, rfl, by decide +kernel, rfl, by decide +kernel, by decide +kernel⟩

theorem ok_copied {f : Addr} {fd : FuncData} (F : Fun K "copied" "copied" s_copied f fd) (T : Txt K mg  w A_PARTS) (D_is_directory : Dfn P w K mg base CX0 1 "is_directory" ["part"] spIsDir) : FnOk P w K mg base CX0 2 f fd ["tree"] spCopied := by
  refine F.ok sc_copied (fun vs H Q E h => ?_) (fun cdv A outer s H vs Q E hr h => ?_)
  · obtain ⟨a0, F, α, rfl, _⟩ := h
    rfl
  · obtain ⟨a0, Fm, α, rfl, t, ⟨L, hL, hN⟩, k⟩ := h
    refine ⟨_, (pss_cons (ps_set (i := 1) sc_copied.nd rfl (Or.inl rfl) pe_dnewK)
  (pss_cons (ps_set (i := 2) sc_copied.nd rfl (Or.inl rfl) (pe_lst (pa_cons (pe_tup (pa_cons (pv 0) (pa_cons (pv 1) pa_nil))) pa_nil)))
  (pss_cons (ps_while PassesOwn.never (pt_truth (pv 2) (by intro _; rfl)) (pss_cons (ps_asg (kBM0 K PySem.F.plainAttrs_list PySem.F.slot_list_pop PySem.F.type_list_pop mt_pop (pv 2)) (kpgT K (n := 2) (by rfl) (pgs_cons (pg_name (i := 3) sc_copied.nd rfl (Or.inr rfl)) (pgs_cons (pg_name (i := 4) sc_copied.nd rfl (Or.inr rfl)) pgs_nil))))
  (pss_cons (ps_if (pt_not (pt_val (pe_dcall D_is_directory (hr.mono (by decide)) (by rfl) pass0 (pa_cons (pv 3) pa_nil)))) (pss_cons (ps_dput (units1 hr) (pv 4) pe_str (pe_callTy (kListOf K) (by rfl) T.b_list (by decide +kernel) (pa_cons (pe_dget (units1 hr) (pv 3) pe_str (fun _ _ => rfl)) pa_nil)) rfl)
  (pss_one ps_continue)) pss_nil)
  (pss_cons (ps_dput (units1 hr) (pv 4) pe_str (pe_lock (pe_dc (own := [("name", 5)]) (by rfl) sc_copied.nd (pi_keys (pe_dget (units1 hr) (pv 3) pe_str (fun _ _ => rfl))) (blkOk_by (N := ns_copied) (sc := defScope s_copied) (by decide +kernel)) (fun _ _ _ _ _ => (pg_name (i := 5) sc_copied.nd rfl (Or.inl rfl))) (fun _ _ _ _ _ => pts_nil) (fun _ _ _ _ _ => (pv 5)) (fun _ _ _ _ _ => pe_dnewK))) rfl)
  (pss_one (ps_expr (kBM K PySem.F.plainAttrs_list PySem.F.slot_list_extend PySem.F.type_list_extend mt_extend (pv 2) (pa_cons (pe_lock (pe_lc (own := [("name", 5)]) (by rfl) sc_copied.nd (pi_keys (pe_dget (units1 hr) (pv 3) pe_str (fun _ _ => rfl))) (blkOk_by (N := ns_copied) (sc := defScope s_copied) (by decide +kernel)) (fun _ _ _ _ _ => (pg_name (i := 5) sc_copied.nd rfl (Or.inl rfl))) (fun _ _ _ _ _ => pts_nil) (fun _ _ _ _ _ => (pe_tup (pa_cons (pe_dget (units1 hr) (pe_dget (units1 hr) (pv 3) pe_str (fun _ _ => rfl)) (pv 5) (fun _ _ => rfl)) (pa_cons (pe_dget (units1 hr) (pe_dget (units1 hr) (pv 4) pe_str (fun _ _ => rfl)) (pv 5) (fun _ _ => rfl)) pa_nil)))))) pa_nil))))))))
  (pss_one (ps_ret (pv 1)))))), ?_⟩
    refine fun c hc => ?_
    have s1 := Same.new (o := .dK []) hc
    have hc1 : (upd H c (.dK [])) c = some (.dK []) := upd_same
    generalize upd H c (.dK []) = H1 at s1 hc1
    walk_at "run"
    refine ⟨szl rfl, fun tp htp => ⟨szl rfl, fun A0 hA0 => ?_⟩⟩
    have s2 := s1.trans (Same.new (o := .tup [.ref a0, .ref c]) htp)
    have hc2 := Same.new (o := .tup [.ref a0, .ref c]) htp _ _ hc1
    have htp2 : (upd H1 tp (.tup [.ref a0, .ref c])) tp = some (.tup [.ref a0, .ref c]) := upd_same
    generalize upd H1 tp (.tup [.ref a0, .ref c]) = H2 at s2 hc2 htp2 hA0
    have s3 := s2.trans (Same.new (o := .lst [.ref tp]) hA0)
    have hc3 := Same.new (o := .lst [.ref tp]) hA0 _ _ hc2
    have htp3 := Same.new (o := .lst [.ref tp]) hA0 _ _ htp2
    have hA3 : (upd H2 A0 (.lst [.ref tp])) A0 = some (.lst [.ref tp]) := upd_same
    have fA := s2.free hA0
    generalize upd H2 A0 (.lst [.ref tp]) = H3 at s3 hc3 htp3 hA3
    have ci0 : CI H H3 Fm α ⟨fun _ => c, fun _ => c⟩ c A0 [] [[]] := by
      refine ⟨s3, ⟨[tp], hA3, rfl, fun i t' p h1 h2 => ?_⟩, rfl, by simp, fun p hp => ?_, fun p n hp => ?_, fun p hp => .inr ⟨[], by simp, p, rfl⟩, fun q hq => hc3, fun p hp => (by cases hp), fun p hp => (by cases hp), fun p hp => (by cases hp), fun p hp => hc, fun p hp => (by cases hp), fA, fun p hp => (by cases hp), fun p hp q hq e => ?_, fun p hp => (by cases hp), fun p hp q hq => (by cases hq)⟩
      · cases i with
        | zero =>
          cases h1
          cases h2
          rw [t.root]
          exact htp3
        | succ i => cases h1
      · have : p = [] := by simpa using hp
        obtain ⟨ns, h0⟩ := t.top
        rw [this, h0]; rfl
      · have : p ++ [n] = [] := by simpa using hp
        simp at this
      · have e1 : p = [] := by simpa using hp
        have e2 : q = [] := by simpa using hq
        rw [e1, e2]
    refine ⟨fun m σ H' => ∃ β ds ps A v3 v4 v5, σ = [some (.ref a0), some (.ref c), some (.ref A), v3, v4, v5] ∧ CI H H' Fm α β c A ds ps ∧ m = 1000 - ds.length, ⟨_, _, [], [[]], A0, _, _, _, rfl, ci0, rfl⟩, ?_⟩
    rintro m σ H' ⟨β, ds, ps, A, v3, v4, v5, rfl, ci, rfl⟩
    obtain ⟨ts, hA, tl, ht⟩ := ci.lst
    refine ⟨_, rfl, _, .inl ⟨_, SqL.of hA, rfl⟩, ?_⟩
    by_cases hps : ps = []
    · subst hps
      have : ts = [] := List.length_eq_zero_iff.mp tl
      subst this
      refine iteF ⟨_, rfl, k c β H' ci.same hc (ci.done t) fun b ⟨q, hq, hb⟩ => ?_⟩
      have hd : q ∈ ds := by
        rcases ci.cov q hq with z | ⟨r, hr, _⟩
        · exact z
        · cases hr
      rcases hb with rfl | rfl
      · exact ci.frN q (by simpa using hd)
      · exact ci.frI q hd
    · have tne : ts ≠ [] := fun z => hps (List.length_eq_zero_iff.mp (by rw [← tl, z]; rfl))
      generalize eq : ps.getLast hps = q
      generalize et : ts.getLast tne = t0
      generalize eps : ps.dropLast = ps0
      generalize ets : ts.dropLast = ts0
      have e1 : ps = ps0 ++ [q] := by rw [← eps, ← eq]; exact (List.dropLast_concat_getLast hps).symm
      have e2 : ts = ts0 ++ [t0] := by rw [← ets, ← et]; exact (List.dropLast_concat_getLast tne).symm
      clear eq et eps ets
      subst e1
      subst e2
      have tl0 : ts0.length = ps0.length := by simpa using tl
      have htq := ht ts0.length t0 q (by simp) (by rw [tl0]; simp)
      have ht0 : ∀ (i : Nat) t' p, ts0[i]? = some t' → ps0[i]? = some p → H' t' = some (.tup [.ref (α.nd p), .ref (β.nd p)]) := fun i t' p h1 h2 => ht i t' p (by rw [List.getElem?_append_left (List.getElem?_eq_some_iff.mp h1).1]; exact h1) (by rw [List.getElem?_append_left (List.getElem?_eq_some_iff.mp h2).1]; exact h2)
      have etr : (!((ts0 ++ [t0]).map V.ref).isEmpty) = true := by simp
      rw [etr]
      have ndl : ds.length < 1000 := by
        have := nodup_lenD (l := ds ++ (ps0 ++ [q])) (ns := L) ci.nod fun p hp => hN p (ci.inF p hp)
        simp at this
        omega
      refine iteT ⟨fun σ' H'' => ∃ m', m' < 1000 - ds.length ∧ ∃ β ds ps A v3 v4 v5, σ' = [some (.ref a0), some (.ref c), some (.ref A), v3, v4, v5] ∧ CI H H'' Fm α β c A ds ps ∧ m' = 1000 - ds.length, fun _ _ h => h, ?_⟩
      have h2A : (upd H' A (.lst (ts0.map V.ref))) A = some (.lst (ts0.map V.ref)) := upd_same
      have o2 : ∀ b o, H' b = some o → b ≠ A → (upd H' A (.lst (ts0.map V.ref))) b = some o := fun b o e n => by rw [upd_ne n]; exact e
      have o0 : ∀ b o, H b = some o → (upd H' A (.lst (ts0.map V.ref))) b = some o := fun b o e => o2 b o (ci.same b o e) (ne_of_none e ci.frA)
      have n2 : ∀ b, (upd H' A (.lst (ts0.map V.ref))) b = none → H' b = none := fun b => upd_none_of
      have htq2 := o2 _ _ htq (ne_of htq hA (by intro z; cases z))
      have hbq2 := o2 _ _ (ci.pend q (by simp)) (ne_of (ci.pend q (by simp)) hA (by intro z; cases z))
      refine ⟨_, rfl, .inl ⟨rfl, _, SqL.of hA⟩, A, (ts0 ++ [t0]).map V.ref, .ref t0, rfl, rfl, hA, by simp, ?_⟩
      rw [show ((ts0 ++ [t0]).map V.ref).dropLast = ts0.map V.ref by simp]
      have ht02 : ∀ (i : Nat) t' p, ts0[i]? = some t' → ps0[i]? = some p → (upd H' A (.lst (ts0.map V.ref))) t' = some (.tup [.ref (α.nd p), .ref (β.nd p)]) := fun i t' p h1 h2 => o2 _ _ (ht0 i t' p h1 h2) (ne_of (ht0 i t' p h1 h2) hA (by intro z; cases z))
      generalize upd H' A (.lst (ts0.map V.ref)) = H2 at h2A o2 o0 n2 htq2 hbq2 ht02
      refine ⟨t0, _, rfl, SqT.of htq2, rfl, _, _, rfl, _, _, rfl, rfl, ?_⟩
      obtain ⟨x, hqx⟩ := Option.isSome_iff_exists.mp (ci.inF q (by simp))
      cases x with
      | file ws =>
        obtain ⟨h1, h2, h3⟩ := t.file q ws hqx
        refine ⟨_, rfl, α.nd q, _, rfl, o0 _ _ h1, _, rfl, ?_⟩
        rw [show valV [(kW, V.ref (α.inn q))] kN = none by rw [valV_neg kWN]; rfl]
        have dg := DGet.k (k := kW) (o0 _ _ h1)
        rw [show valV [(kW, V.ref (α.inn q))] kW = some (.ref (α.inn q)) from valV_pos rfl] at dg
        refine iteT ⟨_, rfl, α.nd q, _, rfl, dg, _, _, rfl, .inl (SqL.of (o0 _ _ h2)), fun l hl => ?_⟩
        have s5 := Same.new (o := .lst (ws.map V.int)) hl
        have hl5 : (upd H2 l (.lst (ws.map V.int))) l = some (.lst (ws.map V.int)) := upd_same
        generalize upd H2 l (.lst (ws.map V.int)) = H5 at s5 hl5
        refine ⟨_, rfl, _, _, rfl, DPut.k (k := kW) (s5 _ _ hbq2) (by decide), ?_⟩
        rw [putK_new _ (valV_nil)]
        have nlq : l ≠ β.nd q := (ne_of_none hbq2 hl).symm
        have nlA : l ≠ A := (ne_of_none h2A hl).symm
        have nqA : β.nd q ≠ A := ne_of hbq2 h2A (by intro z; cases z)
        have st := CI.step (H4 := upd H5 (β.nd q) (.dK ([] ++ [(kW, V.ref l)]))) (L := l) (g := fun _ => l) t ci hqx (n2 l hl) (fun n hn => (by cases hn)) (fun n hn => (by cases hn)) (fun n hn => (by cases hn)) (fun b o e z1 z2 => by rw [upd_ne z2]; exact s5 _ _ (o2 _ _ e z1))
          ⟨ts0, by rw [upd_ne nqA.symm]; exact s5 _ _ h2A, by simp [kidsOf, tl0], fun i t' p z1 z2 => ?_⟩ (.inl ⟨ws, rfl, by rw [upd_same]; rfl, by rw [upd_ne nlq]; exact hl5⟩) (fun n hn => (by cases hn))
        · simp only [kidsOf, List.map_nil, List.append_nil] at st
          exact ⟨_, by simp; omega, _, _, _, _, _, _, _, rfl, st, rfl⟩
        · have z2' : ps0[i]? = some p := by simpa [kidsOf] using z2
          have hp' : p ∈ ds ++ (ps0 ++ [q]) := by simp [List.mem_of_getElem? z2']
          rw [copA_old ci hp']
          have := ht02 i t' p z1 z2'
          rw [upd_ne (ne_of this hbq2 (by intro z; cases z))]
          exact s5 _ _ this
      | dir ns =>
        obtain ⟨h1, h2, h3, h4, h5⟩ := t.dir q ns hqx
        have hnd2 := o0 _ _ h1
        have hin2 := o0 _ _ h2
        have ev : valV [(kN, V.ref (α.inn q))] kN = some (.ref (α.inn q)) := valV_pos rfl
        have qs : (Fm q).isSome = true := by rw [hqx]; rfl
        have nqi : α.nd q ≠ α.inn q := t.inj3 q q qs qs
        refine ⟨_, rfl, α.nd q, _, rfl, hnd2, _, rfl, ?_⟩
        rw [ev]
        refine iteF ?_
        refine ⟨α.inn q, _, hin2, True.intro, fun od => ?_⟩
        have hlk : (upd H2 (α.inn q) (.frz od (.dK (ns.map fun n => ((Sum.inl n : L2.Key), V.ref (α.nd (q ++ [n]))))))) (α.inn q) = some (.frz od (.dK (ns.map fun n => ((Sum.inl n : L2.Key), V.ref (α.nd (q ++ [n])))))) := upd_same
        have dg1 : DGet (upd H2 (α.inn q) (.frz od (.dK (ns.map fun n => ((Sum.inl n : L2.Key), V.ref (α.nd (q ++ [n]))))))) (α.nd q) (kV kN) (some (.ref (α.inn q))) := by
          rw [← ev]; exact DGet.k (k := kN) (by rw [upd_ne nqi]; exact hnd2)
        refine ⟨_, rfl, α.nd q, _, rfl, dg1, α.inn q, od, rfl, .inl ⟨_, hlk, fun D hD => ?_⟩⟩
        refine ⟨fun j m Hx => m = ns.length - j ∧ j ≤ ns.length ∧ DN (upd H2 (α.inn q) (.frz od (.dK (ns.map fun n => ((Sum.inl n : L2.Key), V.ref (α.nd (q ++ [n]))))))) Hx D (ns.take j), ⟨_, rfl, Nat.zero_le _, fun _ => D, by rw [List.take_zero]; exact upd_same, fun n hn => by simp at hn, fun n hn => by simp at hn, Same.new hD⟩, ?_⟩
        rintro j m Hx ⟨rfl, hj, dn⟩
        have hxd : Hx (α.inn q) = some (.frz od (.dK (ns.map fun n => ((Sum.inl n : L2.Key), V.ref (α.nd (q ++ [n])))))) := by
          obtain ⟨g, _, _, _, g4⟩ := dn
          exact g4 _ _ hlk
        by_cases hlt : j < ns.length
        · refine .inr ⟨⟨hxd, by rw [List.length_map]; exact hlt⟩, fun H'' => DN (upd H2 (α.inn q) (.frz od (.dK (ns.map fun n => ((Sum.inl n : L2.Key), V.ref (α.nd (q ++ [n]))))))) H'' D (ns.take (j + 1)), fun H'' h => ⟨ns.length - (j + 1), by omega, rfl, hlt, h⟩, ?_⟩
          rintro u H'' ⟨rfl, kk, v, hkv, rfl⟩
          obtain ⟨n, hn, ee⟩ := map_get hkv
          cases ee
          refine ⟨rfl, ?_⟩
          walk_at "ro"
          refine fun p hp => ?_
          obtain ⟨kvs, e1, e2, e3⟩ := dn.step hD (take_nin h3 hn) hp
          exact ⟨kvs, .inl n, rfl, e1, by rw [e2, List.length_take]; exact szt (by omega), by rw [← take_snoc hn]; exact e3⟩
        · have ej : j = ns.length := by omega
          subst ej
          rw [List.take_length] at dn
          obtain ⟨g, g1, g2, g3, g4⟩ := dn
          refine .inl ⟨⟨hxd, by rw [List.length_map]; exact Nat.le_refl _⟩, hxd, ?_⟩
          have s3 : Same H2 (upd Hx (α.inn q) (.dK (ns.map fun n => ((Sum.inl n : L2.Key), V.ref (α.nd (q ++ [n])))))) := unlockS hin2 g4
          have nDi : D ≠ α.inn q := (ne_of_none hlk hD).symm
          have g1' : (upd Hx (α.inn q) (.dK (ns.map fun n => ((Sum.inl n : L2.Key), V.ref (α.nd (q ++ [n])))))) D = some (.dK (ns.map fun n => ((Sum.inl n : L2.Key), V.ref (g n)))) := by rw [upd_ne nDi]; exact g1
          have g2' : ∀ n ∈ ns, H2 (g n) = none ∧ g n ≠ D ∧ (upd Hx (α.inn q) (.dK (ns.map fun n => ((Sum.inl n : L2.Key), V.ref (α.nd (q ++ [n])))))) (g n) = some (.dK []) := fun n hn => by
            obtain ⟨a1, a2, a3⟩ := g2 n hn
            exact ⟨upd_none_of a1, a2, by rw [upd_ne (ne_of_none hlk a1).symm]; exact a3⟩
          have hD2 : H2 D = none := upd_none_of hD
          clear g4 g1 g2 hxd dg1 hlk hD
          generalize upd Hx (α.inn q) (.dK (ns.map fun n => ((Sum.inl n : L2.Key), V.ref (α.nd (q ++ [n]))))) = H3' at s3 g1' g2'
          refine ⟨_, rfl, _, _, rfl, DPut.k (k := kN) (s3 _ _ hbq2) (by decide), ?_⟩
          rw [putK_new _ (valV_nil)]
          have nDq : D ≠ β.nd q := (ne_of_none hbq2 hD2).symm
          have gq : ∀ n ∈ ns, g n ≠ β.nd q := fun n hn => (ne_of_none hbq2 (g2' n hn).1).symm
          have o4 : ∀ b o, H2 b = some o → b ≠ β.nd q → (upd H3' (β.nd q) (.dK ([] ++ [(kN, V.ref D)]))) b = some o := fun b o e n => by rw [upd_ne n]; exact s3 _ _ e
          have hB4 : (upd H3' (β.nd q) (.dK ([] ++ [(kN, V.ref D)]))) (β.nd q) = some (.dK [(kN, V.ref D)]) := by rw [upd_same]; rfl
          have hD4 : (upd H3' (β.nd q) (.dK ([] ++ [(kN, V.ref D)]))) D = some (.dK (ns.map fun n => ((Sum.inl n : L2.Key), V.ref (g n)))) := by rw [upd_ne nDq]; exact g1'
          have hg4 : ∀ n ∈ ns, (upd H3' (β.nd q) (.dK ([] ++ [(kN, V.ref D)]))) (g n) = some (.dK []) := fun n hn => by rw [upd_ne (gq n hn)]; exact (g2' n hn).2.2
          generalize upd H3' (β.nd q) (.dK ([] ++ [(kN, V.ref D)])) = H4 at o4 hB4 hD4 hg4
          have nqA : β.nd q ≠ A := ne_of hbq2 h2A (by intro z; cases z)
          have frq := ci.frN q (by simp)
          have hA4 := o4 _ _ h2A nqA.symm
          have hnd4 := o4 _ _ hnd2 (ne_of_none h1 frq)
          have hin4 := o4 _ _ hin2 (ne_of_none h2 frq)
          refine ⟨_, rfl, .inl ⟨rfl, _, SqL.of hA4⟩, α.inn q, _, hin4, True.intro, fun od2 => ?_⟩
          have hlk2 : (upd H4 (α.inn q) (.frz od2 (.dK (ns.map fun n => ((Sum.inl n : L2.Key), V.ref (α.nd (q ++ [n]))))))) (α.inn q) = some (.frz od2 (.dK (ns.map fun n => ((Sum.inl n : L2.Key), V.ref (α.nd (q ++ [n])))))) := upd_same
          have oL : ∀ b o, H4 b = some o → b ≠ α.inn q → (upd H4 (α.inn q) (.frz od2 (.dK (ns.map fun n => ((Sum.inl n : L2.Key), V.ref (α.nd (q ++ [n]))))))) b = some o := fun b o e n => by rw [upd_ne n]; exact e
          have hndL := oL _ _ hnd4 nqi
          have nBi : β.nd q ≠ α.inn q := (ne_of_none h2 frq).symm
          have hBL := oL _ _ hB4 nBi
          have hDL := oL _ _ hD4 nDi
          have hS4 : ∀ Hx, Same (upd H4 (α.inn q) (.frz od2 (.dK (ns.map fun n => ((Sum.inl n : L2.Key), V.ref (α.nd (q ++ [n]))))))) Hx → Same H4 (upd Hx (α.inn q) (.dK (ns.map fun n => ((Sum.inl n : L2.Key), V.ref (α.nd (q ++ [n])))))) := fun Hx s => unlockS hin4 s
          have nL : ∀ b, (upd H4 (α.inn q) (.frz od2 (.dK (ns.map fun n => ((Sum.inl n : L2.Key), V.ref (α.nd (q ++ [n]))))))) b = none → H4 b = none := fun b => upd_none_of
          generalize upd H4 (α.inn q) (.frz od2 (.dK (ns.map fun n => ((Sum.inl n : L2.Key), V.ref (α.nd (q ++ [n])))))) = HL at hlk2 oL hndL hBL hDL hS4 nL
          have dgA : ∀ Hx, Same HL Hx → DGet Hx (α.nd q) (kV kN) (some (.ref (α.inn q))) := fun Hx s => by
            rw [← ev]; exact DGet.k (k := kN) (s _ _ hndL)
          have dgC : ∀ Hx, Same HL Hx → DGet Hx (β.nd q) (kV kN) (some (.ref D)) := fun Hx s => by
            have := DGet.k (k := kN) (s _ _ hBL)
            rw [show valV [(kN, V.ref D)] kN = some (.ref D) from valV_pos rfl] at this
            exact this
          refine ⟨_, rfl, α.nd q, _, rfl, dgA HL (Same.refl _), α.inn q, od2, rfl, .inl ⟨_, hlk2, fun D2 hD2' => ?_⟩⟩
          refine ⟨fun j m Hx => m = ns.length - j ∧ j ≤ ns.length ∧ ∃ ts2 : List Addr, ts2.length = j ∧ Hx D2 = some (.lst (ts2.map V.ref)) ∧ (∀ (i : Nat) t' n, ts2[i]? = some t' → ns[i]? = some n → Hx t' = some (.tup [.ref (α.nd (q ++ [n])), .ref (g n)])) ∧ Same HL Hx, ⟨_, rfl, Nat.zero_le _, [], rfl, upd_same, fun i t' n h => (by cases h), Same.new hD2'⟩, ?_⟩
          rintro j m Hx ⟨rfl, hj, ts2, tl2, hx2, ht2, sx⟩
          have hxd := sx _ _ hlk2
          by_cases hlt : j < ns.length
          · refine .inr ⟨⟨hxd, by rw [List.length_map]; exact hlt⟩, fun Hx => ∃ ts2 : List Addr, ts2.length = j + 1 ∧ Hx D2 = some (.lst (ts2.map V.ref)) ∧ (∀ (i : Nat) t' n, ts2[i]? = some t' → ns[i]? = some n → Hx t' = some (.tup [.ref (α.nd (q ++ [n])), .ref (g n)])) ∧ Same HL Hx, fun H'' h => ⟨ns.length - (j + 1), by omega, rfl, hlt, h⟩, ?_⟩
            rintro u H'' ⟨rfl, kk, v, hkv, rfl⟩
            obtain ⟨n, hn, ee⟩ := map_get hkv
            cases ee
            have hnm := List.mem_of_getElem? hn
            have dgB : DGet H'' (α.inn q) (.int n) (some (.ref (α.nd (q ++ [n])))) := .inl ⟨_, .inl n, .inr ⟨od2, hxd⟩, rfl, (val_some (f := fun n => V.ref (α.nd (q ++ [n]))) hnm).symm⟩
            have dgD : DGet H'' D (.int n) (some (.ref (g n))) := .inl ⟨_, .inl n, .inl (sx _ _ hDL), rfl, (val_some (f := fun n => V.ref (g n)) hnm).symm⟩
            refine ⟨rfl, ?_⟩
            refine (show _ from ?_)
            refine ⟨_, rfl, α.nd q, _, rfl, dgA _ sx, _, rfl, α.inn q, _, rfl, dgB, _, rfl, β.nd q, _, rfl, dgC _ sx, _, rfl, D, _, rfl, dgD, szl rfl, fun tt htt => ?_⟩
            refine ⟨_, Same.new htt _ _ hx2, by rw [List.length_map, tl2]; exact szt (by omega), ts2 ++ [tt], by simp [tl2], by rw [upd_same, List.map_append]; rfl, fun i t' n' z1 z2 => ?_, Same.mut (sx.trans (Same.new htt)) hD2'⟩
            rcases Nat.lt_or_ge i ts2.length with r | r
            · rw [List.getElem?_append_left r] at z1
              have := ht2 i t' n' z1 z2
              have ht3 := Same.new (o := .tup [.ref (α.nd (q ++ [n])), .ref (g n)]) htt _ _ this
              rw [upd_ne (ne_of this hx2 (by intro z; cases z))]
              exact ht3
            · rw [List.getElem?_append_right r] at z1
              have i0 : i - ts2.length = 0 := by
                have := (List.getElem?_eq_some_iff.mp z1).1
                simp at this
                omega
              rw [i0] at z1
              cases z1
              have : i = j := by omega
              subst this
              rw [hn] at z2
              cases z2
              rw [upd_ne (ne_of_none hx2 htt).symm, upd_same]
          · have ej : j = ns.length := by omega
            subst ej
            refine .inl ⟨⟨hxd, by rw [List.length_map]; exact Nat.le_refl _⟩, hxd, ?_⟩
            have s6 := hS4 Hx sx
            have nD2i : D2 ≠ α.inn q := (ne_of_none hlk2 hD2').symm
            have hx2' : (upd Hx (α.inn q) (.dK (ns.map fun n => ((Sum.inl n : L2.Key), V.ref (α.nd (q ++ [n])))))) D2 = some (.lst (ts2.map V.ref)) := by rw [upd_ne nD2i]; exact hx2
            have ht2' : ∀ (i : Nat) t' n, ts2[i]? = some t' → ns[i]? = some n → (upd Hx (α.inn q) (.dK (ns.map fun n => ((Sum.inl n : L2.Key), V.ref (α.nd (q ++ [n])))))) t' = some (.tup [.ref (α.nd (q ++ [n])), .ref (g n)]) := fun i t' n z1 z2 => by
              have := ht2 i t' n z1 z2
              rw [upd_ne (ne_of this hxd (by intro z; cases z))]
              exact this
            generalize upd Hx (α.inn q) (.dK (ns.map fun n => ((Sum.inl n : L2.Key), V.ref (α.nd (q ++ [n]))))) = H6 at s6 hx2' ht2'
            have pl : ps0.length ≤ 1000 := by
              have := nodup_lenD (l := ds ++ (ps0 ++ [q])) (ns := L) ci.nod fun p hp => hN p (ci.inF p hp)
              simp at this
              omega
            refine ⟨A, D2, _, _, rfl, rfl, s6 _ _ hA4, hx2', szn (by simp; omega), ?_⟩
            rw [← List.map_append]
            have old : ∀ b o, H' b = some o → b ≠ A → b ≠ β.nd q → (upd H6 A (.lst ((ts0 ++ ts2).map V.ref))) b = some o := fun b o e z1 z2 => by
              rw [upd_ne z1]
              exact s6 _ _ (o4 _ _ (o2 _ _ e z1) z2)
            have nDA : D ≠ A := (ne_of_none h2A hD2).symm
            have gA : ∀ n ∈ ns, g n ≠ A := fun n hn => (ne_of_none h2A (g2' n hn).1).symm
            have st := CI.step (H4 := upd H6 A (.lst ((ts0 ++ ts2).map V.ref))) (L := D) (g := g) t ci hqx (n2 D hD2) (fun n hn => n2 _ (g2' n hn).1) g3 (fun n hn => (g2' n hn).2.1) old
              ⟨ts0 ++ ts2, upd_same, by simp [kidsOf, tl0, tl2], fun i t' p z1 z2 => ?_⟩ (.inr ⟨ns, rfl, by rw [upd_ne nqA]; exact s6 _ _ hB4, by rw [upd_ne nDA]; exact s6 _ _ hD4⟩) (fun n hn => by rw [upd_ne (gA n hn)]; exact s6 _ _ (hg4 n hn))
            · exact ⟨_, by simp; omega, _, _, _, _, _, _, _, rfl, st, rfl⟩
            · rcases Nat.lt_or_ge i ts0.length with r | r
              · rw [List.getElem?_append_left r] at z1
                rw [List.getElem?_append_left (by omega)] at z2
                have hp' : p ∈ ds ++ (ps0 ++ [q]) := by simp [List.mem_of_getElem? z2]
                rw [copA_old ci hp']
                have h := ht02 i t' p z1 z2
                rw [upd_ne (ne_of h h2A (by intro z; cases z))]
                exact s6 _ _ (o4 _ _ h (ne_of h hbq2 (by intro z; cases z)))
              · rw [List.getElem?_append_right r] at z1
                rw [List.getElem?_append_right (by omega)] at z2
                obtain ⟨n, hn, rfl⟩ := map_get z2
                have h := ht2' (i - ts0.length) t' n z1 (by rw [tl0]; exact hn)
                rw [copA_kid, upd_ne (ne_of h (s6 _ _ hA4) (by intro z; cases z))]
                exact h
end
end My

/-! d.pop(k), k a tuple that is there -/
namespace My
section
open PySem PySem.W PySem.Calls PyProof.Rows PyProof.V PySem.Spec DT
section
variable {prog : Program} {w : World} {K : Type} [DecidableEq K] {knd : HeapKind prog w K}
theorem my_meetsPop1 {d b : Addr} {k : K} (hd : (d == sysModules) = false) :
    MeetsIn prog w (Builtin.«dict.pop» ⟨[.ref d, .ref b], []⟩) (fun A R s => ∃ xs p, knd.room A.in1 ∧ knd.is s.heap k b ∧ s.heap.DictOfH knd d xs ∧ xs.length ≤ sizeLine ∧ atKey xs k = some p ∧
      ∀ h' tk, h'.DictOfH knd d (DT.dropH xs k) → Heap.SameBut d s.heap h' → R (.ok (.ret p.2)) { s with heap := h', toks := tk }) :=
  .of_wp fun A R s ⟨xs, p, hu, hkey, hm, hsz, hat, hsome⟩ => by
    obtain ⟨o, es, ep, ho, hc, hdat, he, his, hn⟩ := id hm
    have hes : es.size = xs.length := size_of_entries he
    have hpart : (keyPart (Value.ref b)).isSome = false := rfl
    unfold Builtin.«dict.pop»
    refine wpAny_bind ?_
    unfold Builtin.Dict.keyAndDefault
    refine wpAny_bind (wpAny_notOrdered_dict hm.typeIs ?_)
    show wpAny _ _ (pure (d, Value.ref b, none)) _ _ s
    refine wpAny_pure ?_
    simp only [hpart, Bool.false_eq_true, if_false]
    refine wpAny_bind (wpAny_dictEntries ho hdat (wpAny_bind (wpAny_pure ?_)))
    cases hem : es.isEmpty with
    | true =>
      have h0 : xs = [] := by
        have z : es.size = 0 := by simpa using hem
        exact List.length_eq_zero_iff.mp (by omega)
      rw [h0] at hat
      cases hat
    | false =>
      simp only [Bool.false_eq_true, if_false]
      refine wpAny_bind (DT.takeH hu hkey hm hsz (fun hno => ?_) fun p' e hp hev h' hm' hs' => ?_)
      · rw [hat] at hno; cases hno
      · rw [hat] at hp
        cases hp
        simp only [Option.isNone_some, Bool.false_eq_true, if_false]
        exact wpAny_bind (wpAny_letGo (wpAny_pure ⟨e.val, rfl, by rw [hev]; exact hsome h' _ hm' hs'⟩))
end
end
end My
namespace My
open PySem L2
def rPopT1 : V → List V → Hp → VK → Prop := fun x xs H Q => ∃ (a : Addr) (kvs : List (List L2.Key × V)) (k : List L2.Key) (b : Addr) (v : V), x = .ref a ∧ xs = [.ref b] ∧ H a = some (.dT kvs) ∧ H b = some (.tup (k.map kV)) ∧ valV kvs k = some v ∧ Q v (upd H a (.dT (dropK kvs k)))
open PySem.Spec PyProof.Rows in
theorem mt_popT1 {X : Cx} (hu : X.A.units + 1 < cLine) : MtR X "dict.pop" rPopT1 := by
  intro pins s σ H x xs v us Q I rx rxs h
  obtain ⟨a, kvs, k, b, v0, rfl, rfl, ha, hb, ev, q⟩ := h
  cases rx
  obtain ⟨u1, rfl, r1⟩ := rxs.one
  cases r1
  obtain ⟨z, hd, xs', rel, dd⟩ := dt_of I.hok ha
  have hz : xs'.length ≤ sizeLine := by rw [← Paired.length rel]; exact z
  have r := rel.val k
  rw [ev] at r
  cases hp : atKey xs' k with
  | none => rw [hp] at r; exact (show False from r).elim
  | some p =>
    rw [hp] at r
    have rv : RelV v0 p.2 := r
    refine call_meetsIn PySem.F.slot_dict_pop dd.typeIs PySem.F.entry_dict_pop (PySem.F.args_dict_pop_2 _ _) (my_meetsPop1 (knd := tupleKind (mixKind X.prog X.w)) (k := k) hd)
      ⟨xs', p, tupleKind_room_in1 hu, key_of I.hok hb, dd, hz, hp, fun h' tk dd' hs => ?_⟩
    obtain ⟨o, es, ep, hq, h2, h3, h4, _, h5⟩ := dd'
    have I2 : Inv X pins σ (upd H a (.dT (dropK kvs k))) { s with heap := h', toks := tk } :=
      d_write I (by rw [ha]; exact True.intro) hs ⟨o, hq⟩ ⟨Nat.le_trans (dropK_le kvs k) z, hd, _, (L2.DX.KT_drop k rel).keeps (fun c ys ec => (by rw [upd_ne (ne_of ec ha (fun z => nomatch z))]; exact ec)), o, es, ep, hq, h2, h3, h4, h5⟩
    show EP X pins σ Q p.2 _
    exact ⟨v0, _, I2, rv, q⟩
end My

namespace My
open PySem L2
local macro_rules | `(tactic| walk_at "ne") => `(tactic| first | assumption | exact Ne.symm (by assumption) | exact ne_of_none (by assumption) (by assumption) | exact Ne.symm (ne_of_none (by assumption) (by assumption)))
local macro_rules | `(tactic| walk_at "hp") => `(tactic| first | assumption | with_reducible exact upd_same | (with_reducible refine Eq.trans (upd_ne ?_) ?_; rotate_left; walk_at "hp"; walk_at "ne"))
local macro_rules | `(tactic| walk_at "cnd") => `(tactic| first | omega | (show (0 : Int) < _; omega) | exact ⟨by omega, by omega⟩ | exact Or.inl ⟨by omega, by omega⟩ | exact Or.inr ⟨by omega, by omega⟩ | exact ⟨by omega, by omega, by decide⟩ | exact ⟨by omega, by omega, by omega⟩)
local macro_rules | `(tactic| walk_at "at") => `(tactic| first | exact atC 0 rfl rfl | exact atC 1 rfl rfl | exact atC 2 rfl rfl | exact atC 3 rfl rfl | exact atC 4 rfl rfl | exact atC 5 rfl rfl | exact atC 6 rfl rfl | exact atC 7 rfl rfl)
local macro_rules | `(tactic| walk_at "ix") => `(tactic| first | exact ixC 0 rfl (Nat.le_of_ble_eq_true rfl) | exact ixC 1 rfl (Nat.le_of_ble_eq_true rfl) | exact ixC 2 rfl (Nat.le_of_ble_eq_true rfl) | exact ixC 3 rfl (Nat.le_of_ble_eq_true rfl) | exact ixC 4 rfl (Nat.le_of_ble_eq_true rfl) | exact ixC 5 rfl (Nat.le_of_ble_eq_true rfl))
local macro_rules | `(tactic| walk_at "st") => `(tactic| first
  | refine ⟨_, rfl, ?_⟩
  | refine ⟨_, _, rfl, rfl, (by walk_at "cnd" : (_ : Prop)), ?_⟩
  | refine ⟨_, _, rfl, rfl, ?_⟩
  | refine ⟨rfl, ?_⟩
  | refine Or.inl ⟨_, rfl, ?_⟩
  | refine ⟨_, _, _, _, rfl, rfl, by exact SqL.of (by walk_at "hp"), by walk_at "at", ?_⟩
  | refine ⟨_, _, _, _, rfl, rfl, by exact SqT.of (by walk_at "hp"), by walk_at "at", ?_⟩
  | refine ⟨_, _, _, _, rfl, rfl, by walk_at "hp", by walk_at "ix", ?_⟩
  | refine ⟨_, _, rfl, Or.inl (by exact SqL.of (by walk_at "hp")), ?_⟩
  | refine ⟨_, _, rfl, Or.inr (by exact SqT.of (by walk_at "hp")), ?_⟩)
local macro_rules | `(tactic| walk_at "so") => `(tactic| first
  | refine ⟨_, _, _, _, _, rfl, by walk_at "hp", by assumption, by assumption, rfl, ?_⟩
  | refine ⟨_, _, _, _, rfl, by walk_at "hp", by assumption, by assumption, Nat.le_of_ble_eq_true rfl, ?_⟩
  | refine ⟨_, _, _, rfl, by walk_at "hp", rfl, ?_⟩
  | walk_at "st")
local macro_rules | `(tactic| walk_at "ro") => `(tactic| repeat walk_at "so")
local macro_rules | `(tactic| walk_at "run") => `(tactic| repeat walk_at "st")

/-! ### the law's parts, and the tree laid flat -/
def kP (p : List Int) : List L2.Key := p.map Sum.inl
theorem kP_V (p : List Int) : (kP p).map kV = p.map V.int := by unfold kP; rw [List.map_map]; rfl
theorem kP_inj : ∀ {p q : List Int}, kP p = kP q → p = q
  | [], [], _ => rfl
  | [], _ :: _, h => by cases h
  | _ :: _, [], h => by cases h
  | a :: p, b :: q, h => by
    unfold kP at h
    injection h with h1 h2
    rw [Sum.inl.inj h1, kP_inj h2]
def entV (F : Fm) (β : List Int → Addr) (p : List Int) : V := match F p with
  | some (.dir _) => .str "dir"
  | _ => .ref (β p)
def pent (F : Fm) (β : List Int → Addr) (p : List Int) : List L2.Key × V := (kP p, entV F β p)
theorem val_pent {F : Fm} {β : List Int → Addr} {p : List Int} : ∀ {ps : List (List Int)}, valV (ps.map (pent F β)) (kP p) = if p ∈ ps then some (entV F β p) else none
  | [] => rfl
  | q :: ps => by
    rw [List.map_cons]
    by_cases z : q = p
    · subst z
      rw [if_pos List.mem_cons_self]
      exact valV_pos (p := pent F β q) rfl
    · refine (valV_neg (p := pent F β q) (fun w => z (kP_inj w))).trans ?_
      rw [val_pent]
      have : p ∈ q :: ps ↔ p ∈ ps := by
        rw [List.mem_cons]
        exact ⟨fun h => h.resolve_left fun w => z w.symm, .inr⟩
      by_cases h : p ∈ ps
      · rw [if_pos h, if_pos (this.mpr h)]
      · rw [if_neg h, if_neg (fun w => h (this.mp w))]
theorem key_at {H : Hp} {v : V} {p : List Int} (h : PathV H v p) : ∃ a, v = .ref a ∧ H a = some (.tup ((kP p).map kV)) := by
  obtain ⟨a, e, ha⟩ := h
  exact ⟨a, e, by rw [kP_V]; exact ha⟩
/-- the part of a tree at q, as it stands -/
structure TW (H : Hp) (q : List Int) (F : Fm) (α : TA) : Prop where
  dir : ∀ r ns, F (q ++ r) = some (.dir ns) → H (α.nd (q ++ r)) = some (.dK [(kN, .ref (α.inn (q ++ r)))]) ∧ H (α.inn (q ++ r)) = some (.dK (ns.map fun n => ((Sum.inl n : L2.Key), V.ref (α.nd (q ++ r ++ [n])))))
  file : ∀ r ws, F (q ++ r) = some (.file ws) → H (α.nd (q ++ r)) = some (.dK [(kW, .ref (α.inn (q ++ r)))]) ∧ H (α.inn (q ++ r)) = some (.lst (ws.map V.int))
theorem TR.tw {H : Hp} {a0 : Addr} {F : Fm} {α : TA} (t : TR H a0 F α) : TW H [] F α := ⟨fun r ns e => by
  obtain ⟨h1, h2, _⟩ := t.dir r ns e
  exact ⟨h1, h2⟩, fun r ws e => by
  obtain ⟨h1, h2, _⟩ := t.file r ws e
  exact ⟨h1, h2⟩⟩
def spFlat (n : Nat) : Sp := fun vs H Q _ => ∃ (Hx : Hp) (a0 : Addr) (F : Fm) (α : TA) (q : List Int) (v : V) (d : Addr) (ps : List (List Int)), vs = [.ref (α.nd q), v, .ref d] ∧ TR Hx a0 F α ∧ TW H q F α ∧ (F q).isSome = true ∧ PathV H v q ∧ H d = some (.dT (ps.map (pent F α.inn))) ∧ ps.Nodup ∧ (∀ p ∈ ps, (F p).isSome = true) ∧ (∀ r, q ++ r ∉ ps) ∧ Nodes F 1000 ∧ (∀ p, (F p).isSome = true → p.length ≤ q.length + n) ∧ (∀ p, (F p).isSome = true → p.length ≤ 100) ∧
  ∀ (H' : Hp) (ps' : List (List Int)), H' d = some (.dT (ps'.map (pent F α.inn))) → ps'.Nodup → (∀ p, p ∈ ps' ↔ p ∈ ps ∨ ∃ r, p = q ++ r ∧ (F p).isSome = true) → Chg d H H' → Q (.ref d) H'
section
variable {P : Program} {w : World} {K : PySem.W.Frag} {mg : Str → Option Value} {base : Heap}
structure Slf (K : PySem.W.Frag) (mg : Str → Option Value) (x : Str) (f : Addr) (fd : FuncData) (ps : List Str) : Prop where
  m : mg x = some (.ref f)
  k : PySem.W.keepIn K (.ref f) = true
  b : Binds K fd ps []
theorem Slf.dfn {x : Str} {f : Addr} {fd : FuncData} {ps : List Str} {CX : CXT} {k : Nat} {sp : Sp} (S : Slf K mg x f fd ps) (F : FnOk P w K mg base CX k f fd ps sp) : Dfn P w K mg base CX k x ps sp := ⟨f, fd, F, S.m, S.k, S.b⟩
end
section
variable {P : Program} {w : World} {K : PySem.W.Frag} {mg : Str → Option Value} {base : Heap} {A_PARTS : Addr}
abbrev s_law_flat : Stmt := topS 36
abbrev ns_law_flat : List Str := ["tree", "path", "found", "name"]
theorem sc_law_flat : FnScope ns_law_flat ["tree", "path", "found"] (defScope s_law_flat) := ⟨rfl, rfl, rfl, by decide +kernel, rfl, by decide +kernel, by decide +kernel⟩

theorem ok_law_flat {f : Addr} {fd : FuncData} (F : Fun K "_law_flat" "_law_flat" s_law_flat f fd) (T : Txt K mg  w A_PARTS) (R : Slf K mg "_law_flat" f fd ["tree", "path", "found"]) : FnOk P w K mg base CX0 5 f fd ["tree", "path", "found"] (spFlat 3) := by
  have hstep : ∀ n, (∀ n', n = n' + 1 → Dfn P w K mg base CX0 (2 + n') "_law_flat" ["tree", "path", "found"] (spFlat n')) → FnOk P w K mg base CX0 (1 + n + 1) f fd ["tree", "path", "found"] (spFlat n) := by
    intro n IH
    have D_law_flat : Dfn P w K mg base CX0 (1 + n) "_law_flat" ["tree", "path", "found"] (fun vs H Q E => ∃ n', n = n' + 1 ∧ spFlat n' vs H Q E) := by
      cases n with
      | zero => exact ⟨f, fd, F.ok sc_law_flat (fun vs H Q E h => by obtain ⟨n', e, _⟩ := h; cases e) (fun cdv A outer s H vs Q E hr h => by obtain ⟨n', e, _⟩ := h; cases e), R.m, R.k, R.b⟩
      | succ n' =>
        have := IH n' rfl
        rw [show 1 + (n' + 1) = 2 + n' by omega]
        refine this.imp fun vs H Q E h => ?_
        obtain ⟨n2, e, h⟩ := h
        have : n' = n2 := by omega
        subst this
        exact h
    refine F.ok sc_law_flat (fun vs H Q E h => ?_) (fun cdv A outer s H vs Q E hr h => ?_)
    · obtain ⟨Hx, a0, F, α, q, v, d, ps, rfl, _⟩ := h
      rfl
    · obtain ⟨Hx, a0, Fm, α, q, v, d, ps, rfl, t, tw, hs, hpv, hd, hnd, hpf, hpq, ⟨LL, hL, hN⟩, hdep, hdp, k⟩ := h
      refine ⟨_, (C8.pss_cut (ps_if (pt_cmp (pc_din (units1 hr) pe_str (pv 0))) (pss_one (ps_dput (units1 hr) (pv 2) (pv 1) (pe_dget (units1 hr) (pv 0) pe_str (fun _ _ => rfl)) rfl)) (pss_cons (ps_dput (units1 hr) (pv 2) (pv 1) pe_str rfl)
  (pss_one (ps_lock (ps_for PassesOwn.never (by rfl) (pi_keys (pe_dget (units1 hr) (pv 0) pe_str (fun _ _ => rfl))) (pg_name (i := 3) sc_law_flat.nd rfl (Or.inl rfl)) (pss_one (ps_expr (pe_dcall D_law_flat (hr.mono (by omega)) (by rfl) pass0 (pa_cons (pe_dget (units1 hr) (pe_dget (units1 hr) (pv 0) pe_str (fun _ _ => rfl)) (pv 3) (fun _ _ => rfl)) (pa_cons (pe_op (kCatT K) (pv 1) (pe_tup (pa_cons (pv 3) pa_nil))) (pa_cons (pv 2) pa_nil)))))))))))
  (pss_one (ps_ret (pv 2)))), ?_⟩
      have pl : ∀ ps : List (List Int), ps.Nodup → (∀ p ∈ ps, (Fm p).isSome = true) → ps.length ≤ 1000 := fun ps h1 h2 => Nat.le_trans (nodup_lenD h1 fun p hp => hN p (h2 p hp)) hL
      obtain ⟨pa, rfl, hpa⟩ := key_at hpv
      have qn : q ∉ ps := fun z => hpq [] (by rw [List.append_nil]; exact z)
      have vq : valV (ps.map (pent Fm α.inn)) (kP q) = none := by rw [val_pent, if_neg qn]
      have q0 : q ++ [] = q := List.append_nil q
      have pl0 := pl ps hnd hpf
      have nods : (ps ++ [q]).Nodup := List.nodup_append.mpr ⟨hnd, List.pairwise_singleton _ _, fun a ha b hb e => qn (by rw [← List.mem_singleton.mp hb, ← e]; exact ha)⟩
      have lenq : ∀ p, (Fm p).isSome = true → p.length ≤ 100 := fun p hp => hdp p hp
      refine ⟨fun σ H' => ∃ (v3 : Option V) (ps' : List (List Int)), σ = [some (.ref (α.nd q)), some (.ref pa), some (.ref d), v3] ∧ H' d = some (.dT (ps'.map (pent Fm α.inn))) ∧ ps'.Nodup ∧ (∀ p, p ∈ ps' ↔ p ∈ ps ∨ ∃ r, p = q ++ r ∧ (Fm p).isSome = true) ∧ Chg d H H', ?_, ?_⟩
      · obtain ⟨x, e⟩ := Option.isSome_iff_exists.mp hs
        cases x with
        | file ws =>
          obtain ⟨h1, h2⟩ := tw.file [] ws (by rw [q0]; exact e)
          rw [q0] at h1 h2
          have dg := DGet.k (k := kW) h1
          rw [show valV [(kW, V.ref (α.inn q))] kW = some (.ref (α.inn q)) from valV_pos rfl] at dg
          refine ⟨_, rfl, α.nd q, _, rfl, dg, _, rfl, ?_⟩
          refine iteT ⟨_, rfl, α.nd q, _, rfl, dg, _, rfl, _, rfl, d, _, rfl, DPut.t hd hpa (by rw [List.length_map]; exact szt (by omega)), none, ps ++ [q], rfl, ?_, nods, fun p => ?_, Chg.upd⟩
          · rw [upd_same, putK_new _ vq, List.map_append]
            show _ = some (HO.dT (ps.map (pent Fm α.inn) ++ [(kP q, entV Fm α.inn q)]))
            unfold entV
            rw [e]
          · rw [List.mem_append, List.mem_singleton]
            refine or_congr Iff.rfl ⟨fun z => ⟨[], by rw [z, q0], by rw [z]; exact hs⟩, fun ⟨r, z1, z2⟩ => ?_⟩
            cases r with
            | nil => rw [z1, q0]
            | cons m r =>
              rw [z1, pre_file t e m r] at z2
              cases z2
        | dir ns =>
          obtain ⟨h1, h2⟩ := tw.dir [] ns (by rw [q0]; exact e)
          rw [q0] at h1 h2
          obtain ⟨_, _, h3, h4, h5⟩ := t.dir q ns e
          have dg := DGet.k (k := kW) h1
          rw [show valV [(kN, V.ref (α.inn q))] kW = none by rw [valV_neg (fun z => kWN z.symm)]; rfl] at dg
          refine ⟨_, rfl, α.nd q, _, rfl, dg, _, rfl, ?_⟩
          refine iteF ⟨_, rfl, _, rfl, d, _, rfl, DPut.t hd hpa (by rw [List.length_map]; exact szt (by omega)), ?_⟩
          rw [putK_new _ vq]
          have hd1 : (upd H d (.dT (ps.map (pent Fm α.inn) ++ [(kP q, .str "dir")]))) d = some (.dT ((ps ++ [q]).map (pent Fm α.inn))) := by
            rw [upd_same, List.map_append]
            show _ = some (HO.dT (ps.map (pent Fm α.inn) ++ [(kP q, entV Fm α.inn q)]))
            unfold entV
            rw [e]
          have ch1 : Chg d H (upd H d (.dT (ps.map (pent Fm α.inn) ++ [(kP q, .str "dir")]))) := Chg.upd
          generalize upd H d (.dT (ps.map (pent Fm α.inn) ++ [(kP q, .str "dir")])) = H1 at hd1 ch1
          have nid : α.inn q ≠ d := ne_of h2 hd (by intro z; cases z)
          have nnd : α.nd q ≠ d := ne_of h1 hd (by intro z; cases z)
          have qs := hs
          have nni : α.nd q ≠ α.inn q := t.inj3 q q qs qs
          refine ⟨α.inn q, _, ch1 _ _ nid h2, True.intro, fun od => ?_⟩
          have hlk : (upd H1 (α.inn q) (.frz od (.dK (ns.map fun n => ((Sum.inl n : L2.Key), V.ref (α.nd (q ++ [n]))))))) (α.inn q) = some (.frz od (.dK (ns.map fun n => ((Sum.inl n : L2.Key), V.ref (α.nd (q ++ [n])))))) := upd_same
          have oL : ∀ b o, H b = some o → b ≠ d → b ≠ α.inn q → (upd H1 (α.inn q) (.frz od (.dK (ns.map fun n => ((Sum.inl n : L2.Key), V.ref (α.nd (q ++ [n]))))))) b = some o := fun b o z1 z2 z3 => by rw [upd_ne z3]; exact ch1 _ _ z2 z1
          have hdL : (upd H1 (α.inn q) (.frz od (.dK (ns.map fun n => ((Sum.inl n : L2.Key), V.ref (α.nd (q ++ [n]))))))) d = some (.dT ((ps ++ [q]).map (pent Fm α.inn))) := by rw [upd_ne nid.symm]; exact hd1
          generalize upd H1 (α.inn q) (.frz od (.dK (ns.map fun n => ((Sum.inl n : L2.Key), V.ref (α.nd (q ++ [n])))))) = HL at hlk oL hdL
          have dgN : ∀ H', Chg d HL H' → DGet H' (α.nd q) (kV kN) (some (.ref (α.inn q))) := fun H' ch => by
            have := DGet.k (k := kN) (ch _ _ nnd (oL _ _ h1 nnd nni))
            rw [show valV [(kN, V.ref (α.inn q))] kN = some (.ref (α.inn q)) from valV_pos rfl] at this
            exact this
          refine ⟨_, rfl, α.nd q, _, rfl, dgN HL (Chg.refl _ _), α.inn q, od, rfl, .inl ⟨_, hlk, for_it walk_keys (fun i σ H' => ∃ (v3 : Option V) (ps' : List (List Int)), σ = [some (.ref (α.nd q)), some (.ref pa), some (.ref d), v3] ∧ H' d = some (.dT (ps'.map (pent Fm α.inn))) ∧ ps'.Nodup ∧ (∀ p, p ∈ ps' ↔ p ∈ ps ∨ p = q ∨ ∃ n ∈ ns.take i, ∃ r, p = q ++ n :: r ∧ (Fm p).isSome = true) ∧ Chg d HL H') ?_ ?_ ?_ ?_⟩⟩
          · refine ⟨none, ps ++ [q], rfl, hdL, nods, fun p => ?_, Chg.refl _ _⟩
            simp
          · rintro i σ H' _ ⟨_, _, _, _, _, _, ch⟩
            exact ch _ _ nid hlk
          · rintro i x σ H' H'' hlt ⟨v3, ps', rfl, p1, p2, p3, ch⟩ ⟨rfl, kk, v, hkv, rfl⟩
            obtain ⟨m, hm, ee⟩ := map_get hkv
            cases ee
            have hmn := List.mem_of_getElem? hm
            have hms := (h5 m).mp hmn
            have n1 : ∃ n', n = n' + 1 := by
              have := hdep _ hms
              rw [List.length_append, List.length_singleton] at this
              exact ⟨n - 1, by omega⟩
            obtain ⟨n', rfl⟩ := n1
            have dgI : DGet H'' (α.inn q) (.int m) (some (.ref (α.nd (q ++ [m])))) := .inl ⟨_, .inl m, .inr ⟨od, ch _ _ nid hlk⟩, rfl, (val_some (f := fun n => V.ref (α.nd (q ++ [n]))) hmn).symm⟩
            have npad : pa ≠ d := ne_of hpa hd (by intro z; cases z)
            have npai : pa ≠ α.inn q := ne_of hpa h2 (by intro z; cases z)
            obtain ⟨pa', epa, hpa'⟩ := id hpv
            cases epa
            have hpv2 : PathV H'' (.ref pa) q := ⟨pa, rfl, ch _ _ npad (oL _ _ hpa' npad npai)⟩
            refine ⟨_, rfl, α.nd q, _, rfl, dgN _ ch, _, rfl, α.inn q, _, rfl, dgI, _, rfl, _, rfl, szl rfl, fun tt htt => ?_⟩
            refine r_catD (ds := q.map PyData.int) (es := [.int m]) ((dt_path hpv2).same (Same.new htt)) (.tup upd_same (.cons (.int _) .nil)) (by have := lenq q hs; simp; omega) fun v' H2 s2 hv' => ?_
            have sx := (Same.new (o := .tup [.int m]) htt).trans s2
            have hpv3 : PathV H2 v' (q ++ [m]) := path_of (by unfold pthD; rw [List.map_append]; exact hv')
            have ndq : d ≠ tt := ne_of_none p1 htt
            have tw2 : TW H2 (q ++ [m]) Fm α := by
              have oo : ∀ b o, H b = some o → b ≠ d → b ≠ α.inn q → H2 b = some o := fun b o z1 z2 z3 => sx _ _ (ch _ _ z2 (oL _ _ z1 z2 z3))
              refine ⟨fun r ns' e' => ?_, fun r ws' e' => ?_⟩
              · have er : q ++ [m] ++ r = q ++ m :: r := by simp
                rw [er] at e' ⊢
                obtain ⟨g1, g2⟩ := tw.dir (m :: r) ns' e'
                have is : (Fm (q ++ m :: r)).isSome = true := by rw [e']; rfl
                exact ⟨oo _ _ g1 (ne_of g1 hd (by intro z; cases z)) (t.inj3 _ q is qs), oo _ _ g2 (ne_of g2 hd (by intro z; cases z)) (fun z => by have := t.inj2 _ q is qs z; simp at this)⟩
              · have er : q ++ [m] ++ r = q ++ m :: r := by simp
                rw [er] at e' ⊢
                obtain ⟨g1, g2⟩ := tw.file (m :: r) ws' e'
                have is : (Fm (q ++ m :: r)).isSome = true := by rw [e']; rfl
                exact ⟨oo _ _ g1 (ne_of g1 hd (by intro z; cases z)) (t.inj3 _ q is qs), oo _ _ g2 (ne_of g2 hd (by intro z; cases z)) (fun z => by have := t.inj2 _ q is qs z; simp at this)⟩
            refine ⟨_, rfl, n', rfl, Hx, a0, Fm, α, q ++ [m], v', d, ps', rfl, t, tw2, hms, hpv3, sx _ _ p1, p2, fun p hp => ?_, fun r hr => ?_, ⟨LL, hL, hN⟩, fun p hp => by have := hdep p hp; rw [List.length_append, List.length_singleton]; omega, ?_, fun H3 ps3 z1 z2 z3 z4 => ?_⟩
            · rcases (p3 p).mp hp with z | z | ⟨_, _, _, _, z⟩
              · exact hpf p z
              · rw [z]; exact hs
              · exact z
            · have hmt : m ∉ ns.take i := take_nin h3 hm
              rcases (p3 _).mp hr with z | z | ⟨m', hm', r', z, _⟩
              · rw [List.append_assoc] at z; exact hpq _ z
              · simp at z
              · rw [List.append_assoc] at z
                have := List.append_cancel_left z
                simp at this
                exact hmt (by rw [this.1]; exact hm')
            · exact lenq
            · refine ⟨_, ps3, rfl, z1, z2, fun p => ?_, ch.trans ((Same.chg sx).trans z4)⟩
              rw [z3 p, p3 p, ← take_snoc hm]
              constructor
              · rintro ((y | y | ⟨m', y1, y2⟩) | ⟨r, y1, y2⟩)
                · exact .inl y
                · exact .inr (.inl y)
                · exact .inr (.inr ⟨m', List.mem_append_left _ y1, y2⟩)
                · exact .inr (.inr ⟨m, by simp, r, by rw [y1]; simp, y2⟩)
              · rintro (y | y | ⟨m', y1, r, y2, y3⟩)
                · exact .inl (.inl y)
                · exact .inl (.inr (.inl y))
                · rcases List.mem_append.mp y1 with x1 | x1
                  · exact .inl (.inr (.inr ⟨m', x1, r, y2, y3⟩))
                  · have : m' = m := by simpa using x1
                    subst this
                    exact .inr ⟨r, by rw [y2]; simp, y3⟩
          · rintro σ H' ⟨v3, ps', rfl, p1, p2, p3, ch⟩
            rw [List.length_map, List.take_length] at p3
            refine ⟨ch _ _ nid hlk, v3, ps', rfl, by rw [upd_ne nid.symm]; exact p1, p2, fun p => ?_, fun b o n z => ?_⟩
            · rw [p3 p]
              refine or_congr Iff.rfl ⟨?_, ?_⟩
              · rintro (y | ⟨m, _, r, y1, y2⟩)
                · exact ⟨[], by rw [y, q0], by rw [y]; exact hs⟩
                · exact ⟨m :: r, y1, y2⟩
              · rintro ⟨r, y1, y2⟩
                cases r with
                | nil => exact .inl (by rw [y1, q0])
                | cons m r =>
                  refine .inr ⟨m, (h5 m).mpr ?_, r, y1, y2⟩
                  cases w : Fm (q ++ [m]) with
                  | some y => rfl
                  | none =>
                    have := pre_none t r _ w
                    rw [y1, show q ++ m :: r = q ++ [m] ++ r by simp, this] at y2
                    cases y2
            · by_cases y : b = α.inn q
              · rw [y, upd_same, ← z, y, h2]
              · rw [upd_ne y]; exact ch _ _ n (oL _ _ z n y)
      · rintro σ H' ⟨v3, ps', rfl, h1, h2, h3, h4⟩
        exact ⟨_, rfl, k H' ps' h1 h2 h3 h4⟩
  have go : ∀ n, FnOk P w K mg base CX0 (2 + n) f fd ["tree", "path", "found"] (spFlat n) := by
    intro n
    induction n with
    | zero => exact hstep 0 fun n' e => by cases e
    | succ n ih =>
      rw [show 2 + (n + 1) = 1 + (n + 1) + 1 by omega]
      exact hstep (n + 1) fun n' e => by
        have : n = n' := by omega
        subst this
        exact R.dfn ih
  exact go 3
end
end My

namespace My
open PySem L2
local macro_rules | `(tactic| walk_at "ne") => `(tactic| first | assumption | exact Ne.symm (by assumption) | exact ne_of_none (by assumption) (by assumption) | exact Ne.symm (ne_of_none (by assumption) (by assumption)))
local macro_rules | `(tactic| walk_at "hp") => `(tactic| first | assumption | with_reducible exact upd_same | (with_reducible refine Eq.trans (upd_ne ?_) ?_; rotate_left; walk_at "hp"; walk_at "ne"))
local macro_rules | `(tactic| walk_at "cnd") => `(tactic| first | omega | (show (0 : Int) < _; omega) | exact ⟨by omega, by omega⟩ | exact Or.inl ⟨by omega, by omega⟩ | exact Or.inr ⟨by omega, by omega⟩ | exact ⟨by omega, by omega, by decide⟩ | exact ⟨by omega, by omega, by omega⟩)
local macro_rules | `(tactic| walk_at "at") => `(tactic| first | exact atC 0 rfl rfl | exact atC 1 rfl rfl | exact atC 2 rfl rfl | exact atC 3 rfl rfl | exact atC 4 rfl rfl | exact atC 5 rfl rfl | exact atC 6 rfl rfl | exact atC 7 rfl rfl)
local macro_rules | `(tactic| walk_at "ix") => `(tactic| first | exact ixC 0 rfl (Nat.le_of_ble_eq_true rfl) | exact ixC 1 rfl (Nat.le_of_ble_eq_true rfl) | exact ixC 2 rfl (Nat.le_of_ble_eq_true rfl) | exact ixC 3 rfl (Nat.le_of_ble_eq_true rfl) | exact ixC 4 rfl (Nat.le_of_ble_eq_true rfl) | exact ixC 5 rfl (Nat.le_of_ble_eq_true rfl))
local macro_rules | `(tactic| walk_at "st") => `(tactic| first
  | refine ⟨_, rfl, ?_⟩
  | refine ⟨_, _, rfl, rfl, (by walk_at "cnd" : (_ : Prop)), ?_⟩
  | refine ⟨_, _, rfl, rfl, ?_⟩
  | refine ⟨rfl, ?_⟩
  | refine Or.inl ⟨_, rfl, ?_⟩
  | refine ⟨_, _, _, _, rfl, rfl, by exact SqL.of (by walk_at "hp"), by walk_at "at", ?_⟩
  | refine ⟨_, _, _, _, rfl, rfl, by exact SqT.of (by walk_at "hp"), by walk_at "at", ?_⟩
  | refine ⟨_, _, _, _, rfl, rfl, by walk_at "hp", by walk_at "ix", ?_⟩
  | refine ⟨_, _, rfl, Or.inl (by exact SqL.of (by walk_at "hp")), ?_⟩
  | refine ⟨_, _, rfl, Or.inr (by exact SqT.of (by walk_at "hp")), ?_⟩)
local macro_rules | `(tactic| walk_at "so") => `(tactic| first
  | refine ⟨_, _, _, _, _, rfl, by walk_at "hp", by assumption, by assumption, rfl, ?_⟩
  | refine ⟨_, _, _, _, rfl, by walk_at "hp", by assumption, by assumption, Nat.le_of_ble_eq_true rfl, ?_⟩
  | refine ⟨_, _, _, rfl, by walk_at "hp", rfl, ?_⟩
  | walk_at "st")
local macro_rules | `(tactic| walk_at "ro") => `(tactic| repeat walk_at "so")
local macro_rules | `(tactic| walk_at "run") => `(tactic| repeat walk_at "st")

structure PR (H : Hp) (a : Addr) (F : Fm) (β : List Int → Addr) (ps : List (List Int)) : Prop where
  at' : H a = some (.dT (ps.map (pent F β)))
  nd : ps.Nodup
  mem : ∀ p, p ∈ ps ↔ (F p).isSome = true
  ws : ∀ p w, F p = some (.file w) → H (β p) = some (.lst (w.map V.int))
/-- a tree that may be: as some heap has it, not too much -/
def FV (F : Fm) : Prop := (∃ Hx a0 α, TR Hx a0 F α) ∧ Nodes F 1000 ∧ ∀ p, (F p).isSome = true → p.length ≤ 100
theorem eqvAll_ints : ∀ (p q : List Int), PyData.eqvAll (p.map PyData.int) (q.map PyData.int) = decide (p = q)
  | [], [] => by rw [List.map_nil, PyData.eqvAll]; rfl
  | [], b :: q => by rw [List.map_nil, List.map_cons, PyData.eqvAll]; rfl; all_goals (intro h; cases h)
  | a :: p, [] => by rw [List.map_nil, List.map_cons, PyData.eqvAll]; rfl; all_goals (intro h; cases h)
  | a :: p, b :: q => by
    rw [List.map_cons, List.map_cons, PyData.eqvAll, eqvAll_ints p q, PyData.eqv]
    rw [show (a == b) = decide (a = b) by by_cases h : a = b <;> simp [h]]
    by_cases h : a = b <;> by_cases h2 : p = q <;> simp [h, h2]
theorem eqv_path (p q : List Int) : PyData.eqv (pthD p) (pthD q) = decide (p = q) := by
  unfold pthD
  rw [PyData.eqv, eqvAll_ints]
theorem eqv_lints (p q : List Int) : PyData.eqv (.list (p.map PyData.int)) (.list (q.map PyData.int)) = decide (p = q) := by
  rw [PyData.eqv, eqvAll_ints]
theorem sh_path (p : List Int) : Sh 4 (pthD p) := Sh.tup (n := 3) fun d hd => by
  obtain ⟨i, _, rfl⟩ := List.mem_map.mp hd
  exact Sh.int _ _
theorem sh_lints (p : List Int) : Sh 4 (.list (p.map PyData.int)) := Sh.lst (n := 3) fun d hd => by
  obtain ⟨i, _, rfl⟩ := List.mem_map.mp hd
  exact Sh.int _ _
theorem dt_lints {H : Hp} {a : Addr} {p : List Int} (h : H a = some (.lst (p.map V.int))) : Dt H (.ref a) (.list (p.map PyData.int)) := .lst h (DtAll.ints p)
def gd (p o : List Int) : Bool := decide (o ≠ [] ∧ o.dropLast = p)
def nmsOf (p : List Int) (ps : List (List Int)) : List Int := (ps.filter (gd p)).map fun o => o.getLastD 0
theorem nms_mem {p : List Int} {ps : List (List Int)} {n : Int} : n ∈ nmsOf p ps ↔ p ++ [n] ∈ ps := by
  unfold nmsOf gd
  rw [List.mem_map]
  constructor
  · rintro ⟨o, ho, rfl⟩
    obtain ⟨h1, h2⟩ := List.mem_filter.mp ho
    obtain ⟨h3, h4⟩ := of_decide_eq_true h2
    rw [← h4, ← last_snoc h3]; exact h1
  · intro h
    exact ⟨p ++ [n], List.mem_filter.mpr ⟨h, by simp⟩, by simp⟩
theorem nms_nodup {p : List Int} {ps : List (List Int)} (h : ps.Nodup) : (nmsOf p ps).Nodup := by
  unfold nmsOf
  refine List.pairwise_map.mpr (List.Pairwise.imp_of_mem (fun {a b} ha hb ne e => ne ?_) (h.filter (gd p)))
  have h1 := of_decide_eq_true (List.mem_filter.mp ha).2
  have h2 := of_decide_eq_true (List.mem_filter.mp hb).2
  rw [last_snoc h1.1, last_snoc h2.1, h1.2, h2.2, e]
theorem nms_snoc {p o : List Int} {l : List (List Int)} : nmsOf p (l ++ [o]) = if o ≠ [] ∧ o.dropLast = p then nmsOf p l ++ [o.getLastD 0] else nmsOf p l := by
  unfold nmsOf
  rw [List.filter_append]
  by_cases h : o ≠ [] ∧ o.dropLast = p
  · rw [if_pos h, List.filter_cons_of_pos (by unfold gd; exact decide_eq_true h), List.filter_nil, List.map_append]; rfl
  · rw [if_neg h, List.filter_cons_of_neg (by unfold gd; rw [decide_eq_false h]; exact Bool.false_ne_true), List.filter_nil, List.append_nil]
def spNames : Sp := fun vs H Q _ => ∃ (a : Addr) (F : Fm) (β : List Int → Addr) (ps : List (List Int)) (v : V) (p : List Int), vs = [.ref a, v] ∧ PR H a F β ps ∧ PathV H v p ∧ p.length ≤ 100 ∧ FV F ∧
  ∀ r H', Same H H' → H r = none → H' r = some (.lst ((lsOf F p).map V.int)) → Srt F p (lsOf F p) → Q (.ref r) H'
theorem few_names {F : Fm} {β : List Int → Addr} {H : Hp} {a : Addr} {ps : List (List Int)} (h : PR H a F β ps) (fv : FV F) (p : List Int) : (nmsOf p ps).length < 64 := by
  obtain ⟨⟨Hx, a0, α, t⟩, _, _⟩ := fv
  cases e : nmsOf p ps with
  | nil => decide
  | cons n r =>
    have hn : n ∈ nmsOf p ps := by rw [e]; exact List.mem_cons_self
    obtain ⟨ns, hp⟩ := t.up p n ((h.mem _).mp (nms_mem.mp hn))
    obtain ⟨_, _, h3, h4, h5⟩ := t.dir p ns hp
    have := nodup_lenD (nms_nodup (p := p) h.nd) (ns := ns) fun x hx => (h5 x).mpr ((h.mem _).mp (nms_mem.mp hx))
    rw [← e]
    omega
section
variable {P : Program} {w : World} {K : PySem.W.Frag} {mg : Str → Option Value} {base : Heap} {A_PARTS : Addr}
abbrev s_law_names : Stmt := topS 33
abbrev ns_law_names : List Str := ["parts", "path", "other"]
theorem sc_law_names : FnScope ns_law_names ["parts", "path"] (defScope s_law_names) := ⟨rfl, rfl, rfl, by decide +kernel, rfl, by decide +kernel, by decide +kernel⟩

theorem ok_law_names {f : Addr} {fd : FuncData} (F : Fun K "_law_names" "_law_names" s_law_names f fd) (T : Txt K mg  w A_PARTS) : FnOk P w K mg base CX0 1 f fd ["parts", "path"] spNames := by
  refine F.ok sc_law_names (fun vs H Q E h => ?_) (fun cdv A outer s H vs Q E hr h => ?_)
  · obtain ⟨a, F, β, ps, v, p, rfl, _⟩ := h
    rfl
  · obtain ⟨a, Fm, β, ps, v, p, rfl, pr, hpv, pl, fv, k⟩ := h
    refine ⟨_, (pss_one (ps_ret (pe_callB (kSorted K) (by rfl) T.b_sorted (by decide +kernel) (pa_cons (pe_lock (pe_lc (own := [("other", 2)]) (by rfl) sc_law_names.nd (pi_keys (pv 0)) (blkOk_by (N := ns_law_names) (sc := defScope s_law_names) (by decide +kernel)) (fun _ _ _ _ _ => (pg_name (i := 2) sc_law_names.nd rfl (Or.inl rfl))) (fun _ _ _ _ _ => (pts_one (PW.pt (pw_and (pt_cmpR op_eq (pe_callB (kLen K) (by rfl) T.b_len (by decide +kernel) (pa_cons (pv 2) pa_nil)) (pe_op op_add (pe_callB (kLen K) (by rfl) T.b_len (by decide +kernel) (pa_cons (pv 1) pa_nil)) pe_int) (nomark _)) (pw_and1 (pt_cmpR (kEqD K hr.units) (pe_slice (kSlT K) (pv 2) po_none (po_some (pe_callB (kLen K) (by rfl) T.b_len (by decide +kernel) (pa_cons (pv 1) pa_nil)))) (pv 1) (nomark _))))))) (fun _ _ _ _ _ => (pe_ix (kIxT K) (pv 2) (pe_un un_neg pe_int) (fun _ _ => rfl))))) pa_nil)))), ?_⟩
    obtain ⟨pa, rfl, hpa⟩ := hpv
    have ha := pr.at'
    refine ⟨a, _, ha, True.intro, fun od => ?_⟩
    have hlk : (upd H a (.frz od (.dT (ps.map (pent Fm β))))) a = some (.frz od (.dT (ps.map (pent Fm β)))) := upd_same
    have npa : pa ≠ a := ne_of hpa ha (by intro z; cases z)
    have hpaL : (upd H a (.frz od (.dT (ps.map (pent Fm β))))) pa = some (.tup (p.map V.int)) := by rw [upd_ne npa]; exact hpa
    have un : ∀ Hx, Same (upd H a (.frz od (.dT (ps.map (pent Fm β))))) Hx → Same H (upd Hx a (.dT (ps.map (pent Fm β)))) := fun Hx s => unlockS ha s
    have nL : ∀ b, (upd H a (.frz od (.dT (ps.map (pent Fm β))))) b = none → H b = none := fun b => upd_none_of
    generalize upd H a (.frz od (.dT (ps.map (pent Fm β)))) = HL at hlk hpaL un nL
    have plen : ps.length ≤ 1000 := by
      obtain ⟨_, ⟨L, hL, hN⟩, _⟩ := fv
      exact Nat.le_trans (nodup_lenD pr.nd fun q hq => hN q ((pr.mem q).mp hq)) hL
    refine ⟨_, rfl, a, od, rfl, .inr ⟨_, hlk, fun D hD => lc_it walk_keysT (fun i H' => Same HL H' ∧ H' D = some (.lst ((nmsOf p (ps.take i)).map V.int))) ?_ ?_ ?_ ?_⟩⟩
    · exact ⟨Same.new hD, by rw [upd_same]; rfl⟩
    · rintro i H' _ ⟨s, _⟩
      exact s _ _ hlk
    · rintro i x H' H'' hlt ⟨sx, hx⟩ ⟨rfl, kk, v, q, hkv, rfl, hq⟩
      obtain ⟨o, ho, ee⟩ := map_get hkv
      cases ee
      rw [kP_V] at hq
      refine ⟨rfl, ?_⟩
      have qd : q ≠ D := ne_of hq hx (by intro z; cases z)
      rw [← take_snoc ho, nms_snoc]
      refine ⟨_, rfl, _, _, rfl, .inr (SqT.of hq), _, rfl, _, _, rfl, .inr (SqT.of (sx _ _ hpaL)), _, _, rfl, rfl, rfl, _, rfl, ?_⟩
      refine iteD (fun h => ?_) (fun h => iteF ?_)
      · have hl : o.length = p.length + 1 := by
          injection h with h
          simp at h
          omega
        have one : o ≠ [] := fun z => by rw [z] at hl; cases hl
        refine ⟨_, rfl, _, rfl, _, _, rfl, .inr (SqT.of (sx _ _ hpaL)), _, rfl, q, _, rfl, SqT.of hq, fun hw => ?_, fun _ c hc => ?_⟩
        · have := hw.2
          rw [HT.sIx_nat, List.length_map, List.length_map] at this
          omega
        · have ec : cutV (o.map V.int) none (some ((p.map V.int).length : Int)) = (o.take p.length).map V.int := by
            unfold cutV
            rw [HT.sIx_nat, HT.sIx_none, List.length_map, List.length_map, List.drop_zero, Nat.sub_zero, Nat.min_eq_left (by omega), List.map_take]
          rw [ec]
          have edl : o.take p.length = o.dropLast := by rw [List.dropLast_eq_take, hl]; rfl
          have s2 := Same.new (o := .tup ((o.take p.length).map V.int)) hc
          have hq2 := s2 _ _ hq
          have hx2 := s2 _ _ hx
          have hc2 : (upd H'' c (.tup ((o.take p.length).map V.int))) c = some (.tup ((o.take p.length).map V.int)) := upd_same
          have sx2 := sx.trans s2
          generalize upd H'' c (.tup ((o.take p.length).map V.int)) = H2 at s2 hq2 hx2 hc2 sx2
          refine ⟨_, rfl, pthD (o.take p.length), pthD p, (dt_path ⟨_, rfl, hc2⟩).dp, (dt_path ⟨_, rfl, sx2 _ _ hpaL⟩).dp, (sh_path _).ok, (sh_path _).ok, _, rfl, ?_⟩
          rw [eqv_path, edl]
          refine iteD (fun hh => ?_) (fun hh => ?_)
          · rw [if_pos ⟨one, hh⟩]
            refine ⟨_, rfl, _, rfl, _, _, _, _, rfl, rfl, SqT.of hq2, at_last one, ?_⟩
            refine ⟨_, hx2, ?_, Same.mut sx2 hD, ?_⟩
            · have := nodup_lenD (nms_nodup (p := p) (pr.nd.sublist (List.take_sublist i ps))) (ns := nmsOf p ps) fun x hx => nms_mem.mpr (List.mem_of_mem_take (nms_mem.mp hx))
              have := few_names pr fv p
              rw [List.length_map]
              exact szt (by omega)
            · rw [upd_same, List.map_append]; rfl
          · rw [if_neg (fun z => hh z.2)]
            exact ⟨sx2, hx2⟩
      · rw [if_neg (fun z => h ?_)]
        · exact ⟨sx, hx⟩
        · have hl : o.length = p.length + 1 := by
            rw [last_snoc z.1, z.2]; simp
          simp [hl]
    · rintro H' ⟨sx, hx⟩
      rw [List.length_map, List.take_length] at hx
      refine ⟨sx _ _ hlk, ?_⟩
      have s1 := un H' sx
      have nDa : D ≠ a := (ne_of_none hlk hD).symm
      refine ⟨_, _, rfl, SqL.of (by rw [upd_ne nDa]; exact hx), few_names pr fv p, fun ns' r hperm hsrt hr => ?_⟩
      have sr : Srt Fm p ns' := ⟨le_strict hsrt (hperm.nodup_iff.mpr (nms_nodup pr.nd)), fun n => by rw [hperm.mem_iff, nms_mem]; exact pr.mem _⟩
      have el := lsOf_eq sr
      rw [← el]
      refine k r _ (s1.trans (Same.new hr)) (s1.free hr) upd_same (by rw [el]; exact sr)
end
end My

namespace My
open PySem L2
local macro_rules | `(tactic| walk_at "ne") => `(tactic| first | assumption | exact Ne.symm (by assumption) | exact ne_of_none (by assumption) (by assumption) | exact Ne.symm (ne_of_none (by assumption) (by assumption)))
local macro_rules | `(tactic| walk_at "hp") => `(tactic| first | assumption | with_reducible exact upd_same | (with_reducible refine Eq.trans (upd_ne ?_) ?_; rotate_left; walk_at "hp"; walk_at "ne"))
local macro_rules | `(tactic| walk_at "cnd") => `(tactic| first | omega | (show (0 : Int) < _; omega) | exact ⟨by omega, by omega⟩ | exact Or.inl ⟨by omega, by omega⟩ | exact Or.inr ⟨by omega, by omega⟩ | exact ⟨by omega, by omega, by decide⟩ | exact ⟨by omega, by omega, by omega⟩)
local macro_rules | `(tactic| walk_at "at") => `(tactic| first | exact atC 0 rfl rfl | exact atC 1 rfl rfl | exact atC 2 rfl rfl | exact atC 3 rfl rfl | exact atC 4 rfl rfl | exact atC 5 rfl rfl | exact atC 6 rfl rfl | exact atC 7 rfl rfl)
local macro_rules | `(tactic| walk_at "ix") => `(tactic| first | exact ixC 0 rfl (Nat.le_of_ble_eq_true rfl) | exact ixC 1 rfl (Nat.le_of_ble_eq_true rfl) | exact ixC 2 rfl (Nat.le_of_ble_eq_true rfl) | exact ixC 3 rfl (Nat.le_of_ble_eq_true rfl) | exact ixC 4 rfl (Nat.le_of_ble_eq_true rfl) | exact ixC 5 rfl (Nat.le_of_ble_eq_true rfl))
local macro_rules | `(tactic| walk_at "st") => `(tactic| first
  | refine ⟨_, rfl, ?_⟩
  | refine ⟨_, _, rfl, rfl, (by walk_at "cnd" : (_ : Prop)), ?_⟩
  | refine ⟨_, _, rfl, rfl, ?_⟩
  | refine ⟨rfl, ?_⟩
  | refine Or.inl ⟨_, rfl, ?_⟩
  | refine ⟨_, _, _, _, rfl, rfl, by exact SqL.of (by walk_at "hp"), by walk_at "at", ?_⟩
  | refine ⟨_, _, _, _, rfl, rfl, by exact SqT.of (by walk_at "hp"), by walk_at "at", ?_⟩
  | refine ⟨_, _, _, _, rfl, rfl, by walk_at "hp", by walk_at "ix", ?_⟩
  | refine ⟨_, _, rfl, Or.inl (by exact SqL.of (by walk_at "hp")), ?_⟩
  | refine ⟨_, _, rfl, Or.inr (by exact SqT.of (by walk_at "hp")), ?_⟩)
local macro_rules | `(tactic| walk_at "so") => `(tactic| first
  | refine ⟨_, _, _, _, _, rfl, by walk_at "hp", by assumption, by assumption, rfl, ?_⟩
  | refine ⟨_, _, _, _, rfl, by walk_at "hp", by assumption, by assumption, Nat.le_of_ble_eq_true rfl, ?_⟩
  | refine ⟨_, _, _, rfl, by walk_at "hp", rfl, ?_⟩
  | walk_at "st")
local macro_rules | `(tactic| walk_at "ro") => `(tactic| repeat walk_at "so")
local macro_rules | `(tactic| walk_at "run") => `(tactic| repeat walk_at "st")

def FinP (Q : VK) (H : Hp) (a : Addr) (F : Fm) (β : List Int → Addr) (res : PyData × Fm) : Prop := ∀ d H' β' ps', PR H' a res.2 β' ps' → Chg a H H' → (∀ p w, res.2 p = some (.file w) → (∃ w', F p = some (.file w') ∧ β' p = β p) ∨ H (β' p) = none) → Dt H' d res.1 → Q d H'
section
variable {Q : VK} {H H' : Hp} {a : Addr} {F : Fm} {β : List Int → Addr} {ps : List (List Int)}
theorem PR.same (h : PR H a F β ps) (s : Same H H') : PR H' a F β ps := ⟨s _ _ h.at', h.nd, h.mem, fun p w e => s _ _ (h.ws p w e)⟩
theorem FinP.stay {d : PyData} {v : V} (h : PR H a F β ps) (k : FinP Q H a F β (d, F)) (s : Same H H') (hd : Dt H' v d) : Q v H' :=
  k v H' β ps (h.same s) (Same.chg s) (fun p w e => .inl ⟨w, e, rfl⟩) hd
theorem FinP.at {res : PyData × Fm} (k : FinP Q H a F β res) (s : Same H H') : FinP Q H' a F β res :=
  fun d H2 β' ps' h c o hd => k d H2 β' ps' h ((Same.chg s).trans c) (fun p w e => (o p w e).imp id fun z => s.free z) hd
theorem ent_file {p : List Int} {w : List Int} (e : F p = some (.file w)) : entV F β p = .ref (β p) := by unfold entV; rw [e]
theorem ent_dir {p : List Int} {w : List Int} (e : F p = some (.dir w)) : entV F β p = .str "dir" := by unfold entV; rw [e]
theorem PR.set {p ws ws' : List Int} {l : Addr} (h : PR H a F β ps) (e : F p = some (.file ws)) (hl : H l = none) (hA : H' a = some (.dT (putK (ps.map (pent F β)) (kP p) (.ref l)))) (hL : H' l = some (.lst (ws'.map V.int))) (c : ∀ b o, H b = some o → b ≠ a → H' b = some o) :
    PR H' a (setF F p ws') (fun q => if q = p then l else β q) ps ∧ ∀ q w, setF F p ws' q = some (.file w) → (∃ w', F q = some (.file w') ∧ (if q = p then l else β q) = β q) ∨ H (if q = p then l else β q) = none := by
  have Fp : setF F p ws' p = some (.file ws') := if_pos rfl
  have Fo : ∀ q, q ≠ p → setF F p ws' q = F q := fun q h => if_neg h
  have pm := (h.mem p).mpr (by rw [e]; rfl)
  refine ⟨⟨?_, h.nd, fun q => ?_, fun q w eq => ?_⟩, fun q w eq => ?_⟩
  · rw [hA]
    unfold putK
    rw [if_pos (by rw [valV_any, val_pent, if_pos pm]; rfl), List.map_map]
    congr 2
    refine List.map_congr_left fun q hq => ?_
    show (if kP q = kP p then (kP q, V.ref l) else (kP q, entV F β q)) = (kP q, entV (setF F p ws') (fun q => if q = p then l else β q) q)
    by_cases z : q = p
    · subst z
      rw [if_pos rfl, ent_file Fp, if_pos rfl]
    · rw [if_neg (fun w => z (kP_inj w))]
      unfold entV
      rw [Fo q z]
      cases F q with
      | none => show (kP q, V.ref (β q)) = (kP q, V.ref (if q = p then l else β q)); rw [if_neg z]
      | some x =>
        cases x with
        | dir _ => rfl
        | file _ => show (kP q, V.ref (β q)) = (kP q, V.ref (if q = p then l else β q)); rw [if_neg z]
  · rw [h.mem]
    by_cases z : q = p
    · rw [z, Fp, e]; exact ⟨fun _ => rfl, fun _ => rfl⟩
    · rw [Fo q z]
  · by_cases z : q = p
    · rw [z, Fp] at eq
      cases eq
      show H' (if q = p then l else β q) = _
      rw [if_pos z]; exact hL
    · rw [Fo q z] at eq
      show H' (if q = p then l else β q) = _
      rw [if_neg z]
      have := h.ws q w eq
      exact c _ _ this (ne_of this h.at' (by intro z; cases z))
  · by_cases z : q = p
    · rw [if_pos z]; exact .inr hl
    · rw [if_neg z]
      rw [Fo q z] at eq
      exact .inl ⟨w, eq, rfl⟩
end
theorem putW_eq (ws new : List Int) (off : Nat) (h : off + new.length ≤ 48) : ((ws ++ List.replicate 48 (0 : Int)).take off ++ new ++ (ws ++ List.replicate 48 0).drop (off + new.length)).take (max ws.length (off + new.length)) = putW ws off new := by
  unfold putW
  refine List.ext_getElem? fun i => ?_
  simp only [List.getElem?_take, List.getElem?_append, List.getElem?_drop, List.getElem?_replicate, List.length_append, List.length_take, List.length_replicate]
  repeat' split
  all_goals (first | rfl | omega | (congr 1; omega) | (rw [List.getElem?_eq_none (by omega)]) | skip)
theorem wide_set {A new : List Int} {off i : Nat} {x : Int} (hx : new[i]? = some x) (hl : off + i < A.length) : (A.take off ++ new.take i ++ A.drop (off + i)).set (off + i) x = A.take off ++ new.take (i + 1) ++ A.drop (off + (i + 1)) := by
  have hi := (List.getElem?_eq_some_iff.mp hx).1
  have l1 : (A.take off ++ new.take i).length = off + i := by simp; omega
  rw [List.set_append, if_neg (by rw [l1]; omega), l1, Nat.sub_self, List.drop_eq_getElem_cons hl, List.set_cons_zero, ← take_snoc hx]
  simp [Nat.add_assoc]
def spFile : Sp := fun vs H Q _ => ∃ (a : Addr) (F : Fm) (β : List Int → Addr) (ps : List (List Int)) (v : V) (p : List Int) (r : Rq) (ws : List Int), vs = [.ref a, v] ∧ PR H a F β ps ∧ ps.length ≤ 1000 ∧ Dt H v (rqD p r) ∧ okRq r ∧ isFileRq r ∧ F p = some (.file ws) ∧ ws.length ≤ 48 ∧ FinP Q H a F β (fileG F p r ws)
section
variable {P : Program} {w : World} {K : PySem.W.Frag} {mg : Str → Option Value} {base : Heap} {A_PARTS : Addr}
abbrev s_law_file : Stmt := topS 35
abbrev ns_law_file : List Str := ["parts", "request", "words", "wide", "k"]
theorem sc_law_file : FnScope ns_law_file ["parts", "request"] (defScope s_law_file) := ⟨rfl, rfl, rfl, by decide +kernel, rfl, by decide +kernel, by decide +kernel⟩

theorem ok_law_file {f : Addr} {fd : FuncData} (F : Fun K "_law_file" "_law_file" s_law_file f fd) (T : Txt K mg  w A_PARTS) : FnOk P w K mg base CX0 1 f fd ["parts", "request"] spFile := by
  refine F.ok sc_law_file (fun vs H Q E h => ?_) (fun cdv A outer s H vs Q E hr h => ?_)
  · obtain ⟨a, F, β, ps, v, p, r, ws, rfl, _⟩ := h
    rfl
  · obtain ⟨a, Fm, β, ps, v, p, r, ws, rfl, pr, pl, hd, okr, isf, e, w48, k⟩ := h
    refine ⟨_, (pss_cons (ps_set (i := 2) sc_law_file.nd rfl (Or.inl rfl) (pe_dget (units1 hr) (pv 0) (pe_ix (kIxT K) (pv 1) pe_int (fun _ _ => rfl)) (fun _ _ => rfl)))
  (pss_cons (ps_if (pt_cmpR op_eq (pe_ix (kIxT K) (pv 1) pe_int (fun _ _ => rfl)) pe_str (nomark _)) (pss_one (ps_ret (pe_tup (pa_cons pe_str (pa_cons (pe_callB (kLen K) (by rfl) T.b_len (by decide +kernel) (pa_cons (pv 2) pa_nil)) pa_nil))))) pss_nil)
  (pss_cons (ps_if (pt_cmpR op_eq (pe_ix (kIxT K) (pv 1) pe_int (fun _ _ => rfl)) pe_str (nomark _)) (pss_one (ps_ret (pe_tup (pa_cons pe_str (pa_cons (pe_callTy (kTupOf K) (by rfl) T.b_tuple (by decide +kernel) (pa_cons (pe_slice (kSlL K) (pv 2) (po_some (pe_ix (kIxT K) (pv 1) pe_int (fun _ _ => rfl))) (po_some (pe_op op_add (pe_ix (kIxT K) (pv 1) pe_int (fun _ _ => rfl)) (pe_ix (kIxT K) (pv 1) pe_int (fun _ _ => rfl))))) pa_nil)) pa_nil))))) pss_nil)
  (pss_cons (ps_if (pt_cmpR op_eq (pe_ix (kIxT K) (pv 1) pe_int (fun _ _ => rfl)) pe_str (nomark _)) (pss_cons (ps_dput (units1 hr) (pv 0) (pe_ix (kIxT K) (pv 1) pe_int (fun _ _ => rfl)) (pe_slice (kSlL K) (pv 2) po_none (po_some (pe_ix (kIxT K) (pv 1) pe_int (fun _ _ => rfl)))) rfl)
  (pss_one (ps_ret (pe_tup (pa_cons pe_str (pa_cons pe_non pa_nil)))))) pss_nil)
  (pss_cons (ps_if (pt_cmpR op_gt (pe_op op_add (pe_ix (kIxT K) (pv 1) pe_int (fun _ _ => rfl)) (pe_callB (kLen K) (by rfl) T.b_len (by decide +kernel) (pa_cons (pe_ix (kIxT K) (pv 1) pe_int (fun _ _ => rfl)) pa_nil))) pe_int (nomark _)) (pss_one (ps_ret (pe_tup (pa_cons pe_str (pa_cons pe_str pa_nil))))) pss_nil)
  (pss_cons (ps_set (i := 3) sc_law_file.nd rfl (Or.inl rfl) (pe_op op_cat (pv 2) (pe_op op_rep (pe_lst (pa_cons pe_int pa_nil)) pe_int)))
  (pss_cons (ps_for PassesOwn.never (by rfl) (pi_range1 (by rfl) T.b_range (pa_cons (pe_callB (kLen K) (by rfl) T.b_len (by decide +kernel) (pa_cons (pe_ix (kIxT K) (pv 1) pe_int (fun _ _ => rfl)) pa_nil)) pa_nil)) (pg_name (i := 4) sc_law_file.nd rfl (Or.inl rfl)) (pss_one (ps_asg (pe_ix (kIxT K) (pe_ix (kIxT K) (pv 1) pe_int (fun _ _ => rfl)) (pv 4) (fun _ _ => rfl)) (pg_sub (pv 3) (pe_op op_add (pe_ix (kIxT K) (pv 1) pe_int (fun _ _ => rfl)) (pv 4)) set_list))))
  (pss_cons (ps_dput (units1 hr) (pv 0) (pe_ix (kIxT K) (pv 1) pe_int (fun _ _ => rfl)) (pe_slice (kSlL K) (pv 3) po_none (po_some (pe_callB (call_max2 rfl) (by rfl) T.b_max (by decide +kernel) (pa_cons (pe_callB (kLen K) (by rfl) T.b_len (by decide +kernel) (pa_cons (pv 2) pa_nil)) (pa_cons (pe_op op_add (pe_ix (kIxT K) (pv 1) pe_int (fun _ _ => rfl)) (pe_callB (kLen K) (by rfl) T.b_len (by decide +kernel) (pa_cons (pe_ix (kIxT K) (pv 1) pe_int (fun _ _ => rfl)) pa_nil))) pa_nil))))) rfl)
  (pss_one (ps_ret (pe_tup (pa_cons pe_str (pa_cons pe_non pa_nil))))))))))))), ?_⟩
    obtain ⟨ra, y, rs, rfl, hra, hy, hrs⟩ := rq_of hd
    obtain ⟨ya, rfl, hya⟩ := key_at hy
    have hw := pr.ws p ws e
    have dg := DGet.t (k := kP p) pr.at' hya
    rw [val_pent, if_pos ((pr.mem p).mpr (by rw [e]; rfl)), ent_file e] at dg
    refine ⟨_, rfl, _, rfl, _, _, _, _, rfl, rfl, SqT.of hra, atC 1 rfl rfl, a, _, rfl, dg, ?_⟩
    refine ⟨_, rfl, _, _, _, _, rfl, rfl, SqT.of hra, atC 0 rfl rfl, rfl, _, rfl, ?_⟩
    cases r with
    | make b => exact isf.elim
    | drop => exact isf.elim
    | list => exact isf.elim
    | size =>
      refine iteT ?_
      refine ⟨_, rfl, _, _, rfl, .inl (SqL.of hw), szl rfl, fun q hq => ?_⟩
      refine FinP.stay pr k (Same.new hq) ?_
      refine Dt.tup upd_same (.cons (.str _) (.cons ?_ .nil))
      rw [List.length_map]
      exact .int _
    | get n m =>
      match rs, hrs with
      | [x1, x2], .cons g1 (.cons g2 .nil) =>
      cases g1
      cases g2
      refine iteF ?_
      refine ⟨_, rfl, _, _, _, _, rfl, rfl, SqT.of hra, atC 0 rfl rfl, rfl, _, rfl, iteT ?_⟩
      refine ⟨_, rfl, _, rfl, _, _, _, _, rfl, rfl, SqT.of hra, atC 2 rfl rfl, _, rfl, _, rfl, _, _, _, _, rfl, rfl, SqT.of hra, atC 2 rfl rfl, _, rfl, _, _, _, _, rfl, rfl, SqT.of hra, atC 3 rfl rfl, _, _, rfl, rfl, _, rfl, _, _, rfl, SqL.of hw, fun q hq => ?_⟩
      have ec : cutV (ws.map V.int) (some (n : Int)) (some ((n : Int) + (m : Int))) = ((ws.drop n).take m).map V.int := cut_int ws n m
      rw [ec]
      refine ⟨_, _, rfl, .inl ⟨SqL.of upd_same, fun r hr => ⟨szl rfl, fun u hu => ?_⟩⟩⟩
      refine FinP.stay pr k (((Same.new hq).trans (Same.new hr)).trans (Same.new hu)) ?_
      exact Dt.tup upd_same (.cons (.str _) (.cons ((dt_path ⟨_, rfl, upd_same⟩).same (Same.new hu)) .nil))
    | shrink n =>
      match rs, hrs with
      | [x1], .cons g1 .nil =>
      cases g1
      refine iteF ?_
      refine ⟨_, rfl, _, _, _, _, rfl, rfl, SqT.of hra, atC 0 rfl rfl, rfl, _, rfl, iteF ?_⟩
      refine ⟨_, rfl, _, _, _, _, rfl, rfl, SqT.of hra, atC 0 rfl rfl, rfl, _, rfl, iteT ?_⟩
      refine ⟨_, rfl, _, rfl, _, _, _, _, rfl, rfl, SqT.of hra, atC 2 rfl rfl, _, rfl, _, _, rfl, SqL.of hw, fun l hl => ?_⟩
      have ec : cutV (ws.map V.int) none (some (n : Int)) = (ws.take n).map V.int := by
        unfold cutV
        rw [HT.sIx_nat, HT.sIx_none, List.drop_zero, Nat.sub_zero, List.length_map, List.map_take]
        rcases Nat.le_total n ws.length with q | q
        · rw [Nat.min_eq_left q]
        · rw [Nat.min_eq_right q, List.take_of_length_le (by simp), List.take_of_length_le (by simpa using q)]
      rw [ec]
      have s1 := Same.new (o := .lst ((ws.take n).map V.int)) hl
      have nla : l ≠ a := (ne_of_none pr.at' hl).symm
      refine ⟨_, rfl, _, rfl, _, _, _, _, rfl, rfl, SqT.of (s1 _ _ hra), atC 1 rfl rfl, a, _, rfl, DPut.t (k := kP p) (s1 _ _ pr.at') (s1 _ _ hya) (by rw [List.length_map]; exact szt (by omega)), szl rfl, fun q hq => ?_⟩
      obtain ⟨g1, g2⟩ := pr.set (ws' := ws.take n) (l := l) (H' := upd (upd H l (.lst ((ws.take n).map V.int))) a (.dT (putK (ps.map (pent Fm β)) (kP p) (.ref l)))) e hl upd_same (by rw [upd_ne nla, upd_same]) (fun b o z1 z2 => by rw [upd_ne z2]; exact s1 _ _ z1)
      exact k _ _ _ _ (g1.same (Same.new hq)) (fun b o z1 z2 => Same.new hq _ _ (by rw [upd_ne z1]; exact s1 _ _ z2)) g2 (.tup upd_same (.cons (.str _) (.cons .non .nil)))
    | put off new =>
      match rs, hrs with
      | [x1, x2], .cons g1 (.cons g2 .nil) =>
      cases g1
      obtain ⟨na, rfl, hna⟩ := path_of g2
      refine iteF ?_
      refine ⟨_, rfl, _, _, _, _, rfl, rfl, SqT.of hra, atC 0 rfl rfl, rfl, _, rfl, iteF ?_⟩
      refine ⟨_, rfl, _, _, _, _, rfl, rfl, SqT.of hra, atC 0 rfl rfl, rfl, _, rfl, iteF ?_⟩
      refine ⟨_, rfl, _, _, _, _, rfl, rfl, SqT.of hra, atC 2 rfl rfl, _, rfl, _, _, _, _, rfl, rfl, SqT.of hra, atC 3 rfl rfl, _, _, rfl, .inr (SqT.of hna), _, _, rfl, rfl, _, _, rfl, rfl, _, rfl, ?_⟩
      refine iteD (fun hh => ?_) (fun hh => ?_)
      · have e0 : fileG Fm p (.put off new) ws = (noD "long", Fm) := if_pos (by rw [List.length_map] at hh; omega)
        rw [e0] at k
        refine ⟨szl rfl, fun q hq => ?_⟩
        exact FinP.stay pr k (Same.new hq) (.tup upd_same (.cons (.str _) (.cons (.str _) .nil)))
      · have e0 : fileG Fm p (.put off new) ws = (okD, setF Fm p (putW ws off new)) := if_neg (by rw [List.length_map] at hh; omega)
        rw [e0] at k
        rw [List.length_map] at hh
        have hsum : off + new.length ≤ 48 := by omega
        refine ⟨_, rfl, szl rfl, fun z hz => ?_⟩
        have s1 := Same.new (o := .lst [.int 0]) hz
        have hz1 : (upd H z (.lst [.int 0])) z = some (.lst [.int 0]) := upd_same
        generalize upd H z (.lst [.int 0]) = H1 at s1 hz1
        have ez : (List.replicate ((48 : Int)).toNat [V.int 0]).flatten = (List.replicate 48 (0 : Int)).map V.int := by rfl
        refine ⟨z, _, _, rfl, rfl, hz1, by decide, by decide, szl rfl, fun y hy => ?_⟩
        rw [ez]
        have s2 := s1.trans (Same.new (o := .lst ((List.replicate 48 (0 : Int)).map V.int)) hy)
        have hy2 : (upd H1 y (.lst ((List.replicate 48 (0 : Int)).map V.int))) y = some (.lst ((List.replicate 48 (0 : Int)).map V.int)) := upd_same
        generalize upd H1 y (.lst ((List.replicate 48 (0 : Int)).map V.int)) = H2 at s2 hy2
        refine ⟨β p, y, _, _, rfl, rfl, s2 _ _ hw, hy2, szn (by simp; omega), fun W hW => ?_⟩
        rw [← List.map_append]
        have fW := s2.free hW
        have h0 : (upd H2 W (.lst ((ws ++ List.replicate 48 (0 : Int)).map V.int))) W = some (.lst ((ws ++ List.replicate 48 (0 : Int)).map V.int)) := upd_same
        have s3 := s2.trans (Same.new (o := .lst ((ws ++ List.replicate 48 (0 : Int)).map V.int)) hW)
        generalize upd H2 W (.lst ((ws ++ List.replicate 48 (0 : Int)).map V.int)) = H3 at h0 s3
        refine ⟨_, rfl, _, _, _, _, rfl, rfl, SqT.of (s3 _ _ hra), atC 3 rfl rfl, _, _, rfl, .inr (SqT.of (s3 _ _ hna)), _, rfl, by omega, by rw [List.length_map]; omega, ?_⟩
        have en : ((new.map V.int).length : Int).toNat = new.length := by rw [List.length_map, Int.toNat_natCast]
        rw [en]
        refine for_range (fun i σ H' => ∃ v4 : Option V, σ = [some (.ref a), some (.ref ra), some (.ref (β p)), some (.ref W), v4] ∧ Same H H' ∧ H' W = some (.lst (((ws ++ List.replicate 48 (0 : Int)).take off ++ new.take i ++ (ws ++ List.replicate 48 (0 : Int)).drop (off + i)).map V.int))) ?_ ?_ ?_
        · refine ⟨none, rfl, s3, ?_⟩
          rw [h0, List.take_zero, List.append_nil, Nat.add_zero, List.take_append_drop]
        · rintro i σ H' hi ⟨v4, rfl, sx, hx⟩
          have hni : (new.map V.int)[i]? = some (.int new[i]) := by rw [List.getElem?_map, List.getElem?_eq_getElem hi]; rfl
          have hnx : new[i]? = some new[i] := List.getElem?_eq_getElem hi
          generalize new[i] = x at hni hnx
          refine ⟨_, rfl, _, _, _, _, rfl, rfl, SqT.of (sx _ _ hra), atC 3 rfl rfl, _, rfl, _, _, _, _, rfl, rfl, SqT.of (sx _ _ hna), atC i (by omega) hni, ?_⟩
          refine ⟨_, rfl, _, rfl, _, _, _, _, rfl, rfl, SqT.of (sx _ _ hra), atC 2 rfl rfl, _, rfl, _, _, rfl, rfl, ?_⟩
          refine ⟨W, _, _, off + i, rfl, rfl, hx, ixC (off + i) (by omega) (by simp; omega), _, rfl, Same.mut sx fW, ?_⟩
          rw [upd_same, ← wide_set hnx (by simp; omega), List.map_set]
        · rintro σ H' ⟨v4, rfl, sx, hx⟩
          rw [List.take_length] at hx
          refine ⟨_, rfl, _, rfl, _, _, rfl, .inl (SqL.of (sx _ _ hw)), _, rfl, _, _, _, _, rfl, rfl, SqT.of (sx _ _ hra), atC 2 rfl rfl, _, rfl, _, _, _, _, rfl, rfl, SqT.of (sx _ _ hra), atC 3 rfl rfl, _, _, rfl, .inr (SqT.of (sx _ _ hna)), _, _, rfl, rfl, _, _, rfl, _, rfl, _, _, rfl, SqL.of hx, fun l hl => ?_⟩
          have eM : (if ((ws.map V.int).length : Int) < (off : Int) + ((new.map V.int).length : Int) then (off : Int) + ((new.map V.int).length : Int) else ((ws.map V.int).length : Int)) = ((max ws.length (off + new.length) : Nat) : Int) := by
            rw [List.length_map, List.length_map]
            by_cases c : (ws.length : Int) < (off : Int) + (new.length : Int)
            · rw [if_pos c]; omega
            · rw [if_neg c]; omega
          have ec : cutV (((ws ++ List.replicate 48 (0 : Int)).take off ++ new ++ (ws ++ List.replicate 48 (0 : Int)).drop (off + new.length)).map V.int) none (some (if (off : Int) + ((new.map V.int).length : Int) > ((ws.map V.int).length : Int) then (off : Int) + ((new.map V.int).length : Int) else ((ws.map V.int).length : Int))) = (putW ws off new).map V.int := by
            rw [show (if (off : Int) + ((new.map V.int).length : Int) > ((ws.map V.int).length : Int) then (off : Int) + ((new.map V.int).length : Int) else ((ws.map V.int).length : Int)) = ((max ws.length (off + new.length) : Nat) : Int) from eM, ← putW_eq ws new off hsum]
            unfold cutV
            rw [HT.sIx_nat, HT.sIx_none, List.drop_zero, Nat.sub_zero, List.map_take, Nat.min_eq_left (by simp; omega)]
          rw [ec]
          have s1 := sx.trans (Same.new (o := .lst ((putW ws off new).map V.int)) hl)
          have fl := sx.free hl
          have nla : l ≠ a := (ne_of_none (sx _ _ pr.at') hl).symm
          have hl2 : (upd H' l (.lst ((putW ws off new).map V.int))) l = some (.lst ((putW ws off new).map V.int)) := upd_same
          generalize upd H' l (.lst ((putW ws off new).map V.int)) = H5 at s1 hl2
          refine ⟨_, rfl, _, rfl, _, _, _, _, rfl, rfl, SqT.of (s1 _ _ hra), atC 1 rfl rfl, a, _, rfl, DPut.t (k := kP p) (s1 _ _ pr.at') (s1 _ _ hya) (by rw [List.length_map]; exact szt (by omega)), szl rfl, fun q hq => ?_⟩
          obtain ⟨g1, g2⟩ := pr.set (ws' := putW ws off new) (l := l) (H' := upd H5 a (.dT (putK (ps.map (pent Fm β)) (kP p) (.ref l)))) e fl upd_same (by rw [upd_ne nla]; exact hl2) (fun b o z1 z2 => by rw [upd_ne z2]; exact s1 _ _ z1)
          exact k _ _ _ _ (g1.same (Same.new hq)) (fun b o z1 z2 => Same.new hq _ _ (by rw [upd_ne z1]; exact s1 _ _ z2)) g2 (.tup upd_same (.cons (.str _) (.cons .non .nil)))
end
end My

namespace My
open PySem L2
local macro_rules | `(tactic| walk_at "ne") => `(tactic| first | assumption | exact Ne.symm (by assumption) | exact ne_of_none (by assumption) (by assumption) | exact Ne.symm (ne_of_none (by assumption) (by assumption)))
local macro_rules | `(tactic| walk_at "hp") => `(tactic| first | assumption | with_reducible exact upd_same | (with_reducible refine Eq.trans (upd_ne ?_) ?_; rotate_left; walk_at "hp"; walk_at "ne"))
local macro_rules | `(tactic| walk_at "cnd") => `(tactic| first | omega | (show (0 : Int) < _; omega) | exact ⟨by omega, by omega⟩ | exact Or.inl ⟨by omega, by omega⟩ | exact Or.inr ⟨by omega, by omega⟩ | exact ⟨by omega, by omega, by decide⟩ | exact ⟨by omega, by omega, by omega⟩)
local macro_rules | `(tactic| walk_at "at") => `(tactic| first | exact atC 0 rfl rfl | exact atC 1 rfl rfl | exact atC 2 rfl rfl | exact atC 3 rfl rfl | exact atC 4 rfl rfl | exact atC 5 rfl rfl | exact atC 6 rfl rfl | exact atC 7 rfl rfl)
local macro_rules | `(tactic| walk_at "ix") => `(tactic| first | exact ixC 0 rfl (Nat.le_of_ble_eq_true rfl) | exact ixC 1 rfl (Nat.le_of_ble_eq_true rfl) | exact ixC 2 rfl (Nat.le_of_ble_eq_true rfl) | exact ixC 3 rfl (Nat.le_of_ble_eq_true rfl) | exact ixC 4 rfl (Nat.le_of_ble_eq_true rfl) | exact ixC 5 rfl (Nat.le_of_ble_eq_true rfl))
local macro_rules | `(tactic| walk_at "st") => `(tactic| first
  | refine ⟨_, rfl, ?_⟩
  | refine ⟨_, _, rfl, rfl, (by walk_at "cnd" : (_ : Prop)), ?_⟩
  | refine ⟨_, _, rfl, rfl, ?_⟩
  | refine ⟨rfl, ?_⟩
  | refine Or.inl ⟨_, rfl, ?_⟩
  | refine ⟨_, _, _, _, rfl, rfl, by exact SqL.of (by walk_at "hp"), by walk_at "at", ?_⟩
  | refine ⟨_, _, _, _, rfl, rfl, by exact SqT.of (by walk_at "hp"), by walk_at "at", ?_⟩
  | refine ⟨_, _, _, _, rfl, rfl, by walk_at "hp", by walk_at "ix", ?_⟩
  | refine ⟨_, _, rfl, Or.inl (by exact SqL.of (by walk_at "hp")), ?_⟩
  | refine ⟨_, _, rfl, Or.inr (by exact SqT.of (by walk_at "hp")), ?_⟩)
local macro_rules | `(tactic| walk_at "so") => `(tactic| first
  | refine ⟨_, _, _, _, _, rfl, by walk_at "hp", by assumption, by assumption, rfl, ?_⟩
  | refine ⟨_, _, _, _, rfl, by walk_at "hp", by assumption, by assumption, Nat.le_of_ble_eq_true rfl, ?_⟩
  | refine ⟨_, _, _, rfl, by walk_at "hp", rfl, ?_⟩
  | walk_at "st")
local macro_rules | `(tactic| walk_at "ro") => `(tactic| repeat walk_at "so")
local macro_rules | `(tactic| walk_at "run") => `(tactic| repeat walk_at "st")

def newV : Part → Addr → V
  | .dir _, _ => .str "dir"
  | .file _, l => .ref l
def isDirB (F : Fm) (q : List Int) : Bool := match F q with
  | some (.dir _) => true
  | _ => false
section
variable {H H' : Hp} {a l : Addr} {F : Fm} {β : List Int → Addr} {ps : List (List Int)}
theorem ent_data (K : PySem.W.Frag) (h : PR H a F β ps) (q : List Int) : ∃ d, Dp K H ((if q ∈ ps then some (entV F β q) else none).getD .non) d ∧ SeqAt.shaped d = true ∧ PyData.eqv d (.str "dir") = isDirB F q := by
  have hm := h.mem q
  unfold isDirB
  cases e : F q with
  | none =>
    rw [e] at hm
    rw [if_neg (fun z => by have := hm.mp z; cases this)]
    exact ⟨.none, .non, (Sh.none 0).ok, by simp [PyData.eqv]⟩
  | some x =>
    rw [e] at hm
    rw [if_pos (hm.mpr rfl)]
    cases x with
    | dir ns =>
      rw [ent_dir e]
      exact ⟨.str "dir", .str _, by decide +kernel, by simp [PyData.eqv]⟩
    | file ws =>
      rw [ent_file e]
      exact ⟨.list (ws.map PyData.int), (dt_lints (h.ws q ws e)).dp, (sh_lints _).ok, by simp [PyData.eqv]⟩
theorem PR.add {p0 ns : List Int} {n : Int} {x : Part} (h : PR H a F β ps) (e : F p0 = some (.dir ns)) (en : F (p0 ++ [n]) = none) (hl : H l = none) (hx : ∀ w, x = .file w → H' l = some (.lst (w.map V.int)))
    (hA : H' a = some (.dT (putK (ps.map (pent F β)) (kP (p0 ++ [n])) (newV x l)))) (c : ∀ b o, H b = some o → b ≠ a → H' b = some o) :
    PR H' a (addF F p0 n x) (fun q => if q = p0 ++ [n] then l else β q) (ps ++ [p0 ++ [n]]) ∧ ∀ q w, addF F p0 n x q = some (.file w) → (∃ w', F q = some (.file w') ∧ (if q = p0 ++ [n] then l else β q) = β q) ∨ H (if q = p0 ++ [n] then l else β q) = none := by
  have Fn : addF F p0 n x (p0 ++ [n]) = some x := if_pos rfl
  have Fp : addF F p0 n x p0 = some (.dir (ns ++ [n])) := by
    unfold addF
    rw [if_neg (snoc_ne p0 n), if_pos rfl, e]
  have Fo : ∀ q, q ≠ p0 ++ [n] → q ≠ p0 → addF F p0 n x q = F q := fun q h1 h2 => by
    unfold addF; rw [if_neg h1, if_neg h2]
  have nin : p0 ++ [n] ∉ ps := fun z => by have := (h.mem _).mp z; rw [en] at this; cases this
  refine ⟨⟨?_, ?_, fun q => ?_, fun q w eq => ?_⟩, fun q w eq => ?_⟩
  · rw [hA, putK_new _ (by rw [val_pent, if_neg nin]), List.map_append]
    congr 3
    · refine List.map_congr_left fun q hq => ?_
      have q1 : q ≠ p0 ++ [n] := fun z => nin (by rw [← z]; exact hq)
      show (kP q, entV F β q) = (kP q, entV (addF F p0 n x) (fun q => if q = p0 ++ [n] then l else β q) q)
      by_cases z : q = p0
      · rw [z, ent_dir e, ent_dir Fp]
      · unfold entV
        rw [Fo q q1 z]
        cases F q with
        | none => show (kP q, V.ref (β q)) = (kP q, V.ref (if q = p0 ++ [n] then l else β q)); rw [if_neg q1]
        | some x =>
          cases x with
          | dir _ => rfl
          | file _ => show (kP q, V.ref (β q)) = (kP q, V.ref (if q = p0 ++ [n] then l else β q)); rw [if_neg q1]
    · show [(kP (p0 ++ [n]), _)] = [(kP (p0 ++ [n]), entV (addF F p0 n x) (fun q => if q = p0 ++ [n] then l else β q) (p0 ++ [n]))]
      cases x with
      | dir _ => rw [ent_dir Fn]; rfl
      | file _ => rw [ent_file Fn, if_pos rfl]; rfl
  · exact List.nodup_append.mpr ⟨h.nd, List.pairwise_singleton _ _, fun a ha b hb e => nin (by rw [← List.mem_singleton.mp hb, ← e]; exact ha)⟩
  · rw [List.mem_append, List.mem_singleton, h.mem]
    by_cases z : q = p0 ++ [n]
    · rw [z, Fn]; exact ⟨fun _ => rfl, fun _ => .inr rfl⟩
    · by_cases y : q = p0
      · rw [y, Fp, e]; exact ⟨fun _ => rfl, fun _ => .inl rfl⟩
      · rw [Fo q z y]; exact ⟨fun w => w.resolve_right z, .inl⟩
  · show H' (if q = p0 ++ [n] then l else β q) = _
    by_cases z : q = p0 ++ [n]
    · rw [z, Fn] at eq
      cases eq
      rw [if_pos z]; exact hx w rfl
    · rw [if_neg z]
      by_cases y : q = p0
      · rw [y, Fp] at eq; cases eq
      · rw [Fo q z y] at eq
        have := h.ws q w eq
        exact c _ _ this (ne_of this h.at' (by intro z; cases z))
  · by_cases z : q = p0 ++ [n]
    · rw [if_pos z]; exact .inr hl
    · rw [if_neg z]
      by_cases y : q = p0
      · rw [y, Fp] at eq; cases eq
      · rw [Fo q z y] at eq
        exact .inl ⟨w, eq, rfl⟩
theorem PR.del {p0 ns : List Int} {n : Int} (h : PR H a F β ps) (e : F p0 = some (.dir ns)) (hA : H' a = some (.dT (dropK (ps.map (pent F β)) (kP (p0 ++ [n]))))) (c : ∀ b o, H b = some o → b ≠ a → H' b = some o) :
    PR H' a (delF F p0 n) β (ps.filter fun q => decide (q ≠ p0 ++ [n])) ∧ ∀ q w, delF F p0 n q = some (.file w) → (∃ w', F q = some (.file w') ∧ β q = β q) ∨ H (β q) = none := by
  have Fn : delF F p0 n (p0 ++ [n]) = none := if_pos rfl
  have Fp : delF F p0 n p0 = some (.dir (ns.filter fun m => decide (m ≠ n))) := by
    unfold delF
    rw [if_neg (snoc_ne p0 n), if_pos rfl, e]
  have Fo : ∀ q, q ≠ p0 ++ [n] → q ≠ p0 → delF F p0 n q = F q := fun q h1 h2 => by
    unfold delF; rw [if_neg h1, if_neg h2]
  refine ⟨⟨?_, h.nd.filter _, fun q => ?_, fun q w eq => ?_⟩, fun q w eq => ?_⟩
  · rw [hA]
    unfold dropK
    rw [List.filter_map]
    congr 2
    have e1 : ((fun kv : List L2.Key × V => decide (kv.1 ≠ kP (p0 ++ [n]))) ∘ pent F β) = fun q => decide (q ≠ p0 ++ [n]) := by
      funext q
      show decide (kP q ≠ kP (p0 ++ [n])) = _
      exact decide_eq_decide.mpr (not_congr ⟨fun z => kP_inj z, fun z => by rw [z]⟩)
    rw [e1]
    refine List.map_congr_left fun q hq => ?_
    have q1 : q ≠ p0 ++ [n] := of_decide_eq_true (List.mem_filter.mp hq).2
    show (kP q, entV F β q) = (kP q, entV (delF F p0 n) β q)
    by_cases z : q = p0
    · rw [z, ent_dir e, ent_dir Fp]
    · unfold entV
      rw [Fo q q1 z]
  · rw [List.mem_filter, h.mem, decide_eq_true_iff]
    by_cases z : q = p0 ++ [n]
    · rw [z, Fn]; exact ⟨fun w => absurd rfl w.2, fun w => by cases w⟩
    · by_cases y : q = p0
      · rw [y, Fp, e]; exact ⟨fun _ => rfl, fun _ => ⟨rfl, snoc_ne p0 n⟩⟩
      · rw [Fo q z y]; exact ⟨fun w => w.1, fun w => ⟨w, z⟩⟩
  · by_cases z : q = p0 ++ [n]
    · rw [z, Fn] at eq; cases eq
    · by_cases y : q = p0
      · rw [y, Fp] at eq; cases eq
      · rw [Fo q z y] at eq
        have := h.ws q w eq
        exact c _ _ this (ne_of this h.at' (by intro z; cases z))
  · by_cases z : q = p0 ++ [n]
    · rw [z, Fn] at eq; cases eq
    · by_cases y : q = p0
      · rw [y, Fp] at eq; cases eq
      · rw [Fo q z y] at eq
        exact .inl ⟨w, eq, rfl⟩
end
end My

namespace My
open PySem L2
local macro_rules | `(tactic| walk_at "ne") => `(tactic| first | assumption | exact Ne.symm (by assumption) | exact ne_of_none (by assumption) (by assumption) | exact Ne.symm (ne_of_none (by assumption) (by assumption)))
local macro_rules | `(tactic| walk_at "hp") => `(tactic| first | assumption | with_reducible exact upd_same | (with_reducible refine Eq.trans (upd_ne ?_) ?_; rotate_left; walk_at "hp"; walk_at "ne"))
local macro_rules | `(tactic| walk_at "cnd") => `(tactic| first | omega | (show (0 : Int) < _; omega) | exact ⟨by omega, by omega⟩ | exact Or.inl ⟨by omega, by omega⟩ | exact Or.inr ⟨by omega, by omega⟩ | exact ⟨by omega, by omega, by decide⟩ | exact ⟨by omega, by omega, by omega⟩)
local macro_rules | `(tactic| walk_at "at") => `(tactic| first | exact atC 0 rfl rfl | exact atC 1 rfl rfl | exact atC 2 rfl rfl | exact atC 3 rfl rfl | exact atC 4 rfl rfl | exact atC 5 rfl rfl | exact atC 6 rfl rfl | exact atC 7 rfl rfl)
local macro_rules | `(tactic| walk_at "ix") => `(tactic| first | exact ixC 0 rfl (Nat.le_of_ble_eq_true rfl) | exact ixC 1 rfl (Nat.le_of_ble_eq_true rfl) | exact ixC 2 rfl (Nat.le_of_ble_eq_true rfl) | exact ixC 3 rfl (Nat.le_of_ble_eq_true rfl) | exact ixC 4 rfl (Nat.le_of_ble_eq_true rfl) | exact ixC 5 rfl (Nat.le_of_ble_eq_true rfl))
local macro_rules | `(tactic| walk_at "st") => `(tactic| first
  | refine ⟨_, rfl, ?_⟩
  | refine ⟨_, _, rfl, rfl, (by walk_at "cnd" : (_ : Prop)), ?_⟩
  | refine ⟨_, _, rfl, rfl, ?_⟩
  | refine ⟨rfl, ?_⟩
  | refine Or.inl ⟨_, rfl, ?_⟩
  | refine ⟨_, _, _, _, rfl, rfl, by exact SqL.of (by walk_at "hp"), by walk_at "at", ?_⟩
  | refine ⟨_, _, _, _, rfl, rfl, by exact SqT.of (by walk_at "hp"), by walk_at "at", ?_⟩
  | refine ⟨_, _, _, _, rfl, rfl, by walk_at "hp", by walk_at "ix", ?_⟩
  | refine ⟨_, _, rfl, Or.inl (by exact SqL.of (by walk_at "hp")), ?_⟩
  | refine ⟨_, _, rfl, Or.inr (by exact SqT.of (by walk_at "hp")), ?_⟩)
local macro_rules | `(tactic| walk_at "so") => `(tactic| first
  | refine ⟨_, _, _, _, _, rfl, by walk_at "hp", by assumption, by assumption, rfl, ?_⟩
  | refine ⟨_, _, _, _, rfl, by walk_at "hp", by assumption, by assumption, Nat.le_of_ble_eq_true rfl, ?_⟩
  | refine ⟨_, _, _, rfl, by walk_at "hp", rfl, ?_⟩
  | walk_at "st")
local macro_rules | `(tactic| walk_at "ro") => `(tactic| repeat walk_at "so")
local macro_rules | `(tactic| walk_at "run") => `(tactic| repeat walk_at "st")

theorem tyD {K : PySem.W.Frag} {H : Hp} {a : Addr} {kvs : List (List L2.Key × V)} (h : H a = some (.dT kvs)) : tyV K "dict" (.ref a) H := .inr (.inr (.inl ⟨rfl, .inr ⟨_, h⟩⟩))
def spDue : Sp := fun vs H Q _ => ∃ (a : Addr) (F : Fm) (β : List Int → Addr) (ps : List (List Int)) (v : V) (p : List Int) (r : Rq), vs = [.ref a, v] ∧ PR H a F β ps ∧ Dt H v (rqD p r) ∧ okRq r ∧ FV F ∧ p.length ≤ 100 ∧ FinP Q H a F β (due F p r)
section
variable {P : Program} {w : World} {K : PySem.W.Frag} {mg : Str → Option Value} {base : Heap} {A_PARTS : Addr}
abbrev s_law_due : Stmt := topS 34
abbrev ns_law_due : List Str := ["parts", "request", "word", "path"]
theorem sc_law_due : FnScope ns_law_due ["parts", "request"] (defScope s_law_due) := ⟨rfl, rfl, rfl, by decide +kernel, rfl, by decide +kernel, by decide +kernel⟩

theorem ok_law_due {f : Addr} {fd : FuncData} (F : Fun K "_law_due" "_law_due" s_law_due f fd) (T : Txt K mg  w A_PARTS) (D_law_names : Dfn P w K mg base CX0 1 "_law_names" ["parts", "path"] spNames) (D_law_file : Dfn P w K mg base CX0 1 "_law_file" ["parts", "request"] spFile) : FnOk P w K mg base CX0 2 f fd ["parts", "request"] spDue := by
  refine F.ok sc_law_due (fun vs H Q E h => ?_) (fun cdv A outer s H vs Q E hr h => ?_)
  · obtain ⟨a, F, β, ps, v, p, r, rfl, _⟩ := h
    rfl
  · obtain ⟨a, Fm, β, ps, v, p, r, rfl, pr0, hd, okr, fv, plen, k0⟩ := h
    refine ⟨_, (pss_cons (ps_par (i := 2) (j := 3) (by rfl) sc_law_due.nd rfl rfl (by decide) rfl rfl (pa_cons (pe_ix (kIxT K) (pv 1) pe_int (fun _ _ => rfl)) (pa_cons (pe_ix (kIxT K) (pv 1) pe_int (fun _ _ => rfl)) pa_nil)) (by rfl))
  (pss_cons (ps_if (pt_cmpR (kIn K) (pv 2) (pe_tup (pa_cons pe_str (pa_cons pe_str pa_nil))) (by rfl)) (pss_cons (ps_if (PW.pt (pw_or (pt_cmpR (kEqD K hr.units) (pv 3) (pe_tup pa_nil) (nomark _)) (pw_or1 (pt_cmpR (kNeD K hr.units) (pe_dget1 (units1 hr) (pv 0) (pe_slice (kSlT K) (pv 3) po_none (po_some (pe_un un_neg pe_int))) ⟨rfl, rfl, rfl, rfl⟩) pe_str (nomark _))))) (pss_one (ps_ret (pe_tup (pa_cons pe_str (pa_cons pe_str pa_nil))))) pss_nil)
  (pss_cons (ps_if (pt_cmpR op_eq (pv 2) pe_str (nomark _)) (pss_cons (ps_if (pt_cmp (pc_din (units1 hr) (pv 3) (pv 0))) (pss_one (ps_ret (pe_tup (pa_cons pe_str (pa_cons pe_str pa_nil))))) pss_nil)
  (pss_cons (ps_dput (units1 hr) (pv 0) (pv 3) (pe_ix (kIxL K) (pe_lst (pa_cons pe_str (pa_cons (pe_lst pa_nil) pa_nil))) (pe_callTy call_int1 (by rfl) T.b_int (by decide +kernel) (pa_cons (pe_cmpR op_eq (pe_ix (kIxT K) (pv 1) pe_int (fun _ _ => rfl)) pe_str (nomark _)) pa_nil)) (fun _ _ => rfl)) rfl)
  (pss_one (ps_ret (pe_tup (pa_cons pe_str (pa_cons pe_non pa_nil))))))) pss_nil)
  (pss_cons (ps_if (pt_cmp (pc_dnotin (units1 hr) (pv 3) (pv 0))) (pss_one (ps_ret (pe_tup (pa_cons pe_str (pa_cons pe_str pa_nil))))) pss_nil)
  (pss_cons (ps_if (pt_cmpR (kNeD K hr.units) (pe_dcall D_law_names (hr.mono (by decide)) (by rfl) pass0 (pa_cons (pv 0) (pa_cons (pv 3) pa_nil))) (pe_lst pa_nil) (nomark _)) (pss_one (ps_ret (pe_tup (pa_cons pe_str (pa_cons pe_str pa_nil))))) pss_nil)
  (pss_cons (ps_expr (kBM K PySem.F.plainAttrs_dict PySem.F.slot_dict_pop PySem.F.type_dict_pop (mt_popT1 (units1 hr)) (pv 0) (pa_cons (pv 3) pa_nil)))
  (pss_one (ps_ret (pe_tup (pa_cons pe_str (pa_cons pe_non pa_nil)))))))))) pss_nil)
  (pss_cons (ps_if (pt_cmp (pc_dnotin (units1 hr) (pv 3) (pv 0))) (pss_one (ps_ret (pe_tup (pa_cons pe_str (pa_cons pe_str pa_nil))))) pss_nil)
  (pss_cons (ps_if (pt_cmpR op_eq (pv 2) pe_str (nomark _)) (pss_cons (ps_if (pt_cmpR (kNeD K hr.units) (pe_dget (units1 hr) (pv 0) (pv 3) (fun _ _ => rfl)) pe_str (nomark _)) (pss_one (ps_ret (pe_tup (pa_cons pe_str (pa_cons pe_str pa_nil))))) pss_nil)
  (pss_one (ps_ret (pe_tup (pa_cons pe_str (pa_cons (pe_callTy (kTupOf K) (by rfl) T.b_tuple (by decide +kernel) (pa_cons (pe_dcall D_law_names (hr.mono (by decide)) (by rfl) pass0 (pa_cons (pv 0) (pa_cons (pv 3) pa_nil))) pa_nil)) pa_nil)))))) pss_nil)
  (pss_cons (ps_if (pt_cmpR (kEqD K hr.units) (pe_dget (units1 hr) (pv 0) (pv 3) (fun _ _ => rfl)) pe_str (nomark _)) (pss_one (ps_ret (pe_tup (pa_cons pe_str (pa_cons pe_str pa_nil))))) pss_nil)
  (pss_one (ps_ret (pe_dcall D_law_file (hr.mono (by decide)) (by rfl) pass0 (pa_cons (pv 0) (pa_cons (pv 1) pa_nil)))))))))), ?_⟩
    obtain ⟨ra, y, rs, rfl, hra0, hy0, hrs⟩ := rq_of hd
    obtain ⟨⟨Hx, a0, α, t⟩, ⟨LL, hLL, hN⟩, hp100⟩ := id fv
    have pl : ps.length ≤ 1000 := Nat.le_trans (nodup_lenD pr0.nd fun q hq => hN q ((pr0.mem q).mp hq)) hLL
    refine ⟨_, rfl, _, _, _, _, rfl, rfl, SqT.of hra0, atC 0 rfl rfl, _, rfl, _, _, _, _, rfl, rfl, SqT.of hra0, atC 1 rfl rfl, _, _, rfl, ?_⟩
    refine ⟨_, rfl, szl rfl, fun q0 hq0 => ⟨q0, _, rfl, .inr (SqT.of upd_same), rfl, rfl, ?_⟩⟩
    have sA := Same.new (o := .tup [V.str "make", V.str "drop"]) hq0
    have pr := pr0.same sA
    have hy := hy0.same sA
    have hra := sA _ _ hra0
    have k := k0.at sA
    have hrs1 := hrs.same sA
    have hd1 := hd.same sA
    clear sA k0 hy0 hra0 pr0 hrs hd
    generalize upd H q0 (.tup [V.str "make", V.str "drop"]) = H1 at pr hy hra k hrs1 hd1
    have topc : p = [] → ∃ ns, Fm p = some (.dir ns) := fun z => by rw [z]; exact t.top
    obtain ⟨ya, rfl, hya⟩ := key_at hy
    have dgp : ∀ Hz, Same H1 Hz → DGet Hz a (.ref ya) (if p ∈ ps then some (entV Fm β p) else none) := fun Hz s => by
      have := DGet.t (k := kP p) (s _ _ pr.at') (s _ _ hya)
      rw [val_pent] at this
      exact this
    have cs : ((∃ b, r = .make b) ∨ r = .drop) ∨ r = .list ∨ isFileRq r := by
      cases r with
      | make b => exact .inl (.inl ⟨b, rfl⟩)
      | drop => exact .inl (.inr rfl)
      | list => exact .inr (.inl rfl)
      | _ => exact .inr (.inr trivial)
    rcases cs with hmd | hlf
    · have hin : inV (V.str (rqW r)) [V.str "make", V.str "drop"] = true := by rcases hmd with ⟨b, rfl⟩ | rfl <;> rfl
      rw [hin]
      refine ⟨_, rfl, iteT ?_⟩
      have hbad : (p = [] ∨ isDirB Fm p.dropLast = false) → due Fm p r = (noD "path", Fm) := fun h => by
        by_cases hpe : p = []
        · subst hpe
          rcases hmd with ⟨b, rfl⟩ | rfl
          · exact dueMake_nil
          · exact dueDrop_nil
        · have hb := h.resolve_left hpe
          unfold isDirB at hb
          cases e : Fm p.dropLast with
          | none =>
            rcases hmd with ⟨b, rfl⟩ | rfl
            · exact dueMake_none hpe e
            · refine dueDrop_none hpe ?_
              rw [last_snoc hpe]
              exact pre_none t _ _ e
          | some x =>
            cases x with
            | dir ns => rw [e] at hb; cases hb
            | file ws =>
              rcases hmd with ⟨b, rfl⟩ | rfl
              · exact dueMake_file hpe e
              · refine dueDrop_none hpe ?_
                rw [last_snoc hpe]
                exact pre_file t e _ []
      refine ⟨_, rfl, szl rfl, fun e0 he0 => ⟨pthD p, pthD [], ((dt_path hy).same (Same.new he0)).dp, (Dt.tup upd_same .nil).dp, (sh_path _).ok, (sh_path _).ok, _, rfl, ?_⟩⟩
      rw [eqv_path]
      have sB := Same.new (o := .tup []) he0
      generalize upd H1 e0 (.tup []) = H2 at sB
      refine iteD (fun hpe => iteT ⟨szl rfl, fun q hq => ?_⟩) (fun hpe => ?_)
      · rw [hbad (.inl hpe)] at k
        exact FinP.stay pr k (sB.trans (Same.new hq)) (.tup upd_same (.cons (.str _) (.cons (.str _) .nil)))
      · have hsn := last_snoc hpe
        refine ⟨_, rfl, a, rfl, .inr ⟨_, .inl (sB _ _ pr.at')⟩, _, rfl, _, rfl, _, rfl, r_cutlast (hy.same sB) fun v' H3 sC hpv' => ?_⟩
        have sC := sB.trans sC
        obtain ⟨va, rfl, hva⟩ := key_at hpv'
        have dg2 := DGet.t (k := kP p.dropLast) (sC _ _ pr.at') hva
        rw [val_pent] at dg2
        obtain ⟨d, d1, d2, d3⟩ := ent_data K (pr.same sC) p.dropLast
        refine ⟨_, dg2, d, .str "dir", d1, .str _, d2, by decide +kernel, _, rfl, ?_⟩
        rw [d3]
        cases hb : isDirB Fm p.dropLast with
        | false =>
          refine iteT ⟨szl rfl, fun q hq => ?_⟩
          rw [hbad (.inr hb)] at k
          exact FinP.stay pr k (sC.trans (Same.new hq)) (.tup upd_same (.cons (.str _) (.cons (.str _) .nil)))
        | true =>
          refine iteF ?_
          obtain ⟨ns, e⟩ : ∃ ns, Fm p.dropLast = some (.dir ns) := by
            unfold isDirB at hb
            cases e : Fm p.dropLast with
            | none => rw [e] at hb; cases hb
            | some x =>
              cases x with
              | dir ns => exact ⟨ns, rfl⟩
              | file ws => rw [e] at hb; cases hb
          have k := k.at sC
          have pr3 := pr.same sC
          rcases hmd with ⟨b, rfl⟩ | rfl
          · have k : FinP Q H3 a Fm β (dueMake Fm p b) := k
            refine ⟨_, rfl, rfl, _, rfl, iteT ⟨_, rfl, _, rfl, a, _, rfl, dgp _ sC, _, rfl, ?_⟩⟩
            by_cases hF : (Fm p).isSome = true
            · rw [if_pos ((pr.mem p).mpr hF)]
              refine iteT ⟨szl rfl, fun q hq => ?_⟩
              rw [dueMake_there hpe e hF] at k
              exact FinP.stay pr3 k (Same.new hq) (.tup upd_same (.cons (.str _) (.cons (.str _) .nil)))
            · rw [if_neg (fun z => hF ((pr.mem p).mp z))]
              rw [dueMake_new hpe e hF] at k
              match rs, hrs1, hra with
              | [x1], .cons g1 .nil, hra =>
              cases g1
              refine iteF ⟨szl rfl, fun l hl => ⟨szl rfl, fun m hm => ?_⟩⟩
              have sl := Same.new (o := .lst []) hl
              have hl4 : (upd H3 l (.lst [])) l = some (.lst []) := upd_same
              generalize upd H3 l (.lst []) = H4 at sl hl4 hm
              have sm := Same.new (o := .lst [.str "dir", .ref l]) hm
              have hm5 : (upd H4 m (.lst [.str "dir", .ref l])) m = some (.lst [.str "dir", .ref l]) := upd_same
              generalize upd H4 m (.lst [.str "dir", .ref l]) = H5 at sm hm5
              have s35 := sl.trans sm
              refine ⟨_, rfl, _, _, _, _, rfl, rfl, SqT.of (s35 _ _ (sC _ _ hra)), atC 2 rfl rfl, rfl, .inr ⟨_, rfl, m, [.str "dir", .ref l], _, (newV (if b = true then Part.file [] else .dir []) l), rfl, rfl, SqL.of hm5, by cases b <;> rfl, ?_⟩⟩
              refine ⟨_, rfl, _, rfl, a, _, rfl, DPut.t (k := kP p) (s35 _ _ pr3.at') (s35 _ _ (sC _ _ hya)) (by rw [List.length_map]; exact szt (by omega)), szl rfl, fun q hq => ?_⟩
              have nla : l ≠ a := (ne_of_none pr3.at' hl).symm
              obtain ⟨g1, g2⟩ := pr3.add (l := l) (x := if b = true then Part.file [] else .dir []) (H' := upd H5 a (.dT (putK (ps.map (pent Fm β)) (kP p) (newV (if b = true then Part.file [] else .dir []) l)))) e (by
                rw [← hsn]
                cases z : Fm p with
                | none => rfl
                | some y => rw [z] at hF; exact absurd rfl hF) hl (fun w hw => by
                rw [upd_ne nla, sm _ _ hl4]
                cases b with
                | true => cases hw; rfl
                | false => cases hw) (by rw [← hsn]; exact upd_same) (fun b o z1 z2 => by rw [upd_ne z2]; exact s35 _ _ z1)
              exact k _ _ _ _ (g1.same (Same.new hq)) (fun b o z1 z2 => Same.new hq _ _ (by rw [upd_ne z1]; exact s35 _ _ z2)) g2 (.tup upd_same (.cons (.str _) (.cons .non .nil)))
          · have k : FinP Q H3 a Fm β (dueDrop Fm p) := k
            refine ⟨_, rfl, rfl, _, rfl, iteF ⟨_, rfl, _, rfl, a, _, rfl, dgp _ sC, _, rfl, ?_⟩⟩
            cases hFp : Fm p with
            | none =>
              have nin : ¬ p ∈ ps := fun z => by have := (pr.mem p).mp z; rw [hFp] at this; cases this
              rw [if_neg nin]
              refine iteT ⟨szl rfl, fun q hq => ?_⟩
              rw [dueDrop_none hpe hFp] at k
              exact FinP.stay pr3 k (Same.new hq) (.tup upd_same (.cons (.str _) (.cons (.str _) .nil)))
            | some x =>
              have pin := (pr.mem p).mpr (by rw [hFp]; rfl)
              rw [if_pos pin]
              refine iteF ⟨_, rfl, _, rfl, a, Fm, β, ps, _, p, rfl, pr3, hy.same sC, plen, fv, fun r4 H4 s4 _ hr4 srt => ?_⟩
              refine ⟨szl rfl, fun l hl => ⟨.list ((lsOf Fm p).map PyData.int), .list (([] : List Int).map PyData.int), ((dt_lints hr4).same (Same.new hl)).dp, (dt_lints (p := []) upd_same).dp, (sh_lints _).ok, (sh_lints _).ok, _, rfl, ?_⟩⟩
              rw [eqv_lints]
              have s5 := s4.trans (Same.new (o := .lst []) hl)
              generalize upd H4 l (.lst []) = H5 at s5
              refine iteDn (fun hne => ⟨szl rfl, fun q hq => ?_⟩) (fun hem => ?_)
              · have : ∃ n ns, x = .dir (n :: ns) := by
                  cases x with
                  | dir ns =>
                    cases ns with
                    | cons n ns => exact ⟨n, ns, rfl⟩
                    | nil =>
                      obtain ⟨_, _, _, _, h5⟩ := t.dir p [] hFp
                      cases el : lsOf Fm p with
                      | nil => exact absurd el hne
                      | cons n r => exact absurd ((h5 n).mpr ((srt.2 n).mp (by rw [el]; exact List.mem_cons_self))) (by simp)
                  | file ws =>
                    cases el : lsOf Fm p with
                    | nil => exact absurd el hne
                    | cons n r =>
                      have := (srt.2 n).mp (by rw [el]; exact List.mem_cons_self)
                      rw [pre_file t hFp n []] at this
                      cases this
                obtain ⟨n, ns', rfl⟩ := this
                rw [dueDrop_full hpe hFp] at k
                exact FinP.stay pr3 k (s5.trans (Same.new hq)) (.tup upd_same (.cons (.str _) (.cons (.str _) .nil)))
              · have ek : dueDrop Fm p = (okD, delF Fm p.dropLast (p.getLastD 0)) := by
                  cases x with
                  | file ws => exact dueDrop_file hpe hFp
                  | dir ns' =>
                    cases ns' with
                    | nil => exact dueDrop_dir hpe hFp
                    | cons n r =>
                      obtain ⟨_, _, _, _, h5⟩ := t.dir p _ hFp
                      have := (srt.2 n).mpr ((h5 n).mp List.mem_cons_self)
                      rw [hem] at this
                      cases this
                rw [ek] at k
                refine ⟨_, rfl, tyD (s5 _ _ pr3.at'), _, rfl, a, _, kP p, ya, _, rfl, rfl, s5 _ _ pr3.at', s5 _ _ (sC _ _ hya), by rw [val_pent, if_pos pin], szl rfl, fun q hq => ?_⟩
                obtain ⟨g1, g2⟩ := pr3.del (n := p.getLastD 0) (H' := upd H5 a (.dT (dropK (ps.map (pent Fm β)) (kP p)))) e (by rw [← hsn]; exact upd_same) (fun b o z1 z2 => by rw [upd_ne z2]; exact s5 _ _ z1)
                exact k _ _ _ _ (g1.same (Same.new hq)) (fun b o z1 z2 => Same.new hq _ _ (by rw [upd_ne z1]; exact s5 _ _ z2)) g2 (.tup upd_same (.cons (.str _) (.cons .non .nil)))
    · have hin : inV (V.str (rqW r)) [V.str "make", V.str "drop"] = false := by
        rcases hlf with rfl | h
        · rfl
        · cases r with
          | make b => exact h.elim
          | drop => exact h.elim
          | _ => rfl
      rw [hin]
      refine ⟨_, rfl, iteF ⟨_, rfl, _, rfl, a, _, rfl, dgp _ (Same.refl _), _, rfl, ?_⟩⟩
      cases hFp : Fm p with
      | none =>
        have nin : ¬ p ∈ ps := fun z => by have := (pr.mem p).mp z; rw [hFp] at this; cases this
        rw [if_neg nin]
        refine iteT ⟨szl rfl, fun q hq => ?_⟩
        have ek : due Fm p r = (noD "path", Fm) := by
          rcases hlf with rfl | h
          · exact dueList_none hFp
          · cases r with
            | make b => exact h.elim
            | drop => exact h.elim
            | list => exact h.elim
            | _ => exact dueFile_none hFp
        rw [ek] at k
        exact FinP.stay pr k (Same.new hq) (.tup upd_same (.cons (.str _) (.cons (.str _) .nil)))
      | some x =>
        have pin := (pr.mem p).mpr (by rw [hFp]; rfl)
        obtain ⟨d, d1, d2, d3⟩ := ent_data K pr p
        have dg := dgp H1 (Same.refl _)
        rw [if_pos pin] at d1 dg ⊢
        refine iteF ?_
        rcases hlf with rfl | isf
        · have k : FinP Q H1 a Fm β (dueList Fm p) := k
          refine ⟨_, rfl, rfl, _, rfl, iteT ⟨_, rfl, _, rfl, a, _, rfl, dg, d, .str "dir", d1, .str _, d2, by decide +kernel, _, rfl, ?_⟩⟩
          rw [d3]
          unfold isDirB
          rw [hFp]
          cases x with
          | file ws =>
            rw [dueList_file hFp] at k
            refine iteT ⟨szl rfl, fun q hq => ?_⟩
            exact FinP.stay pr k (Same.new hq) (.tup upd_same (.cons (.str _) (.cons (.str _) .nil)))
          | dir ns =>
            rw [dueList_dir hFp] at k
            refine iteF ⟨_, rfl, _, rfl, a, Fm, β, ps, _, p, rfl, pr, hy, plen, fv, fun r4 H4 s4 _ hr4 srt => ?_⟩
            refine ⟨_, _, rfl, .inl ⟨SqL.of hr4, fun u hu => ⟨szl rfl, fun q hq => ?_⟩⟩⟩
            exact FinP.stay pr k ((s4.trans (Same.new hu)).trans (Same.new hq)) (.tup upd_same (.cons (.str _) (.cons ((dt_path ⟨_, rfl, upd_same⟩).same (Same.new hq)) .nil)))
        · have k : FinP Q H1 a Fm β (dueFile Fm p (fileG Fm p r)) := by
            cases r with
            | make b => exact isf.elim
            | drop => exact isf.elim
            | list => exact isf.elim
            | _ => exact k
          have nl : ¬ V.str (rqW r) = V.str "list" := by
            cases r with
            | make b => exact isf.elim
            | drop => exact isf.elim
            | list => exact isf.elim
            | put _ _ => exact strNe (show (("put" : Str)) ≠ "list" by decide +kernel)
            | get _ _ => exact strNe (show (("get" : Str)) ≠ "list" by decide +kernel)
            | shrink _ => exact strNe (show (("shrink" : Str)) ≠ "list" by decide +kernel)
            | size => exact strNe (show (("size" : Str)) ≠ "list" by decide +kernel)
          refine ⟨_, rfl, rfl, _, rfl, iteD (fun z => absurd z nl) fun _ => ⟨_, rfl, _, rfl, a, _, rfl, dg, d, .str "dir", d1, .str _, d2, by decide +kernel, _, rfl, ?_⟩⟩
          rw [d3]
          unfold isDirB
          rw [hFp]
          cases x with
          | dir ns =>
            rw [dueFile_dir hFp] at k
            refine iteT ⟨szl rfl, fun q hq => ?_⟩
            exact FinP.stay pr k (Same.new hq) (.tup upd_same (.cons (.str _) (.cons (.str _) .nil)))
          | file ws =>
            rw [dueFile_file hFp] at k
            refine iteF ?_
            exact ⟨_, rfl, _, rfl, a, Fm, β, ps, _, p, r, ws, rfl, pr, pl, hd1, okr, isf, hFp, (t.file p ws hFp).2.2, k⟩
end
end My

namespace My
open PySem L2
local macro_rules | `(tactic| walk_at "ne") => `(tactic| first | assumption | exact Ne.symm (by assumption) | exact ne_of_none (by assumption) (by assumption) | exact Ne.symm (ne_of_none (by assumption) (by assumption)))
local macro_rules | `(tactic| walk_at "hp") => `(tactic| first | assumption | with_reducible exact upd_same | (with_reducible refine Eq.trans (upd_ne ?_) ?_; rotate_left; walk_at "hp"; walk_at "ne"))
local macro_rules | `(tactic| walk_at "cnd") => `(tactic| first | omega | (show (0 : Int) < _; omega) | exact ⟨by omega, by omega⟩ | exact Or.inl ⟨by omega, by omega⟩ | exact Or.inr ⟨by omega, by omega⟩ | exact ⟨by omega, by omega, by decide⟩ | exact ⟨by omega, by omega, by omega⟩)
local macro_rules | `(tactic| walk_at "at") => `(tactic| first | exact atC 0 rfl rfl | exact atC 1 rfl rfl | exact atC 2 rfl rfl | exact atC 3 rfl rfl | exact atC 4 rfl rfl | exact atC 5 rfl rfl | exact atC 6 rfl rfl | exact atC 7 rfl rfl)
local macro_rules | `(tactic| walk_at "ix") => `(tactic| first | exact ixC 0 rfl (Nat.le_of_ble_eq_true rfl) | exact ixC 1 rfl (Nat.le_of_ble_eq_true rfl) | exact ixC 2 rfl (Nat.le_of_ble_eq_true rfl) | exact ixC 3 rfl (Nat.le_of_ble_eq_true rfl) | exact ixC 4 rfl (Nat.le_of_ble_eq_true rfl) | exact ixC 5 rfl (Nat.le_of_ble_eq_true rfl))
local macro_rules | `(tactic| walk_at "st") => `(tactic| first
  | refine ⟨_, rfl, ?_⟩
  | refine ⟨_, _, rfl, rfl, (by walk_at "cnd" : (_ : Prop)), ?_⟩
  | refine ⟨_, _, rfl, rfl, ?_⟩
  | refine ⟨rfl, ?_⟩
  | refine Or.inl ⟨_, rfl, ?_⟩
  | refine ⟨_, _, _, _, rfl, rfl, by exact SqL.of (by walk_at "hp"), by walk_at "at", ?_⟩
  | refine ⟨_, _, _, _, rfl, rfl, by exact SqT.of (by walk_at "hp"), by walk_at "at", ?_⟩
  | refine ⟨_, _, _, _, rfl, rfl, by walk_at "hp", by walk_at "ix", ?_⟩
  | refine ⟨_, _, rfl, Or.inl (by exact SqL.of (by walk_at "hp")), ?_⟩
  | refine ⟨_, _, rfl, Or.inr (by exact SqT.of (by walk_at "hp")), ?_⟩)
local macro_rules | `(tactic| walk_at "so") => `(tactic| first
  | refine ⟨_, _, _, _, _, rfl, by walk_at "hp", by assumption, by assumption, rfl, ?_⟩
  | refine ⟨_, _, _, _, rfl, by walk_at "hp", by assumption, by assumption, Nat.le_of_ble_eq_true rfl, ?_⟩
  | refine ⟨_, _, _, rfl, by walk_at "hp", rfl, ?_⟩
  | walk_at "st")
local macro_rules | `(tactic| walk_at "ro") => `(tactic| repeat walk_at "so")
local macro_rules | `(tactic| walk_at "run") => `(tactic| repeat walk_at "st")

def goodP (p : List Int) : Prop := p.length ≤ 3 ∧ ∀ n ∈ p, 1 ≤ n ∧ n ≤ 4
def goodRq : Rq → Prop
  | .put off ws => off ≤ 48 ∧ 1 ≤ ws.length ∧ ws.length ≤ 48 ∧ ∀ n ∈ ws, 0 ≤ n ∧ n ≤ 4294967295
  | .get a n => a ≤ 48 ∧ n ≤ 48
  | .shrink a => a ≤ 48
  | _ => True
theorem goodRq.ok {r : Rq} (h : goodRq r) : okRq r := by
  cases r with
  | put off ws => exact ⟨h.1, h.2.2.1⟩
  | get a n => exact h
  | shrink a => exact h
  | _ => trivial
theorem isI_nat {n : Nat} {m : Int} (h : (n : Int) ≤ m) : isI (.int (n : Int)) 0 m = true := by
  show (decide ((0 : Int) ≤ n) && decide ((n : Int) ≤ m)) = true
  rw [decide_eq_true (show (0 : Int) ≤ n by omega), decide_eq_true h]; rfl
theorem isPath_ok {p : List Int} (h : goodP p) : isPath (pthD p) = true := by
  show (p.map PyData.int).all isNm = true
  rw [List.all_eq_true]
  intro d hd
  obtain ⟨n, hn, rfl⟩ := List.mem_map.mp hd
  obtain ⟨h1, h2⟩ := h.2 n hn
  show (decide ((1 : Int) ≤ n) && decide (n ≤ 4294967295)) = true
  rw [decide_eq_true h1, decide_eq_true (show n ≤ 4294967295 by omega)]; rfl
theorem isReq_ok {p : List Int} {r : Rq} (hp : goodP p) (hr : goodRq r) : isReq (rqD p r) = true := by
  have ip := isPath_ok hp
  cases r with
  | make b =>
    show (isPath (pthD p) && pKind [.str (kindS b)]) = true
    rw [ip]
    cases b <;> decide +kernel
  | put off ws =>
    show (isPath (pthD p) && (isI (.int (off : Int)) 0 48 && areW (pthD ws))) = true
    obtain ⟨h1, h2, h3, h4⟩ := hr
    rw [ip, isI_nat (by omega)]
    show (decide (1 ≤ (ws.map PyData.int).length ∧ (ws.map PyData.int).length ≤ 48) && (ws.map PyData.int).all fun d => isI d 0 4294967295) = true
    rw [List.length_map, decide_eq_true ⟨h2, h3⟩, Bool.true_and, List.all_eq_true]
    intro d hd
    obtain ⟨n, hn, rfl⟩ := List.mem_map.mp hd
    obtain ⟨g1, g2⟩ := h4 n hn
    show (decide ((0 : Int) ≤ n) && decide (n ≤ 4294967295)) = true
    rw [decide_eq_true g1, decide_eq_true g2]; rfl
  | get a n =>
    show (isPath (pthD p) && (isI (.int (a : Int)) 0 48 && isI (.int (n : Int)) 0 48)) = true
    rw [ip, isI_nat (by have := hr.1; omega), isI_nat (by have := hr.2; omega)]; rfl
  | shrink a =>
    show (isPath (pthD p) && isI (.int (a : Int)) 0 48) = true
    have : a ≤ 48 := hr
    rw [ip, isI_nat (by omega)]; rfl
  | size => show (isPath (pthD p) && pNone []) = true; rw [ip]; rfl
  | drop => show (isPath (pthD p) && pNone []) = true; rw [ip]; rfl
  | list => show (isPath (pthD p) && pNone []) = true; rw [ip]; rfl
theorem okReq_rq {p : List Int} {r : Rq} (hp : goodP p) (hr : goodRq r) : okReq (rqD p r) := by
  have hpl : ∀ (q : List Int), q.length ≤ 48 → ∀ es, pthD q = .tuple es → es.length ≤ 1000 := fun q hq es e => by
    cases e
    rw [List.length_map]; omega
  have p3 := hp.1
  refine ⟨fun z ds e => ?_, fun ds e => ?_⟩
  · cases e
    cases r <;> simp [rqW, words8]
  · cases e
    refine ⟨by cases r <;> simp [rqP], fun d hd es e => ?_⟩
    rcases List.mem_cons.mp hd with z | hd
    · rw [z] at e; cases e
    · rcases List.mem_cons.mp hd with z | hd
      · rw [z] at e; exact hpl p (by omega) es e
      · cases r with
        | put off ws =>
          rcases List.mem_cons.mp hd with z | hd
          · rw [z] at e; cases e
          · have : d = pthD ws := by simpa using hd
            rw [this] at e
            exact hpl ws hr.2.2.1 es e
        | make b =>
          have : d = .str (kindS b) := by simpa [rqP] using hd
          rw [this] at e; cases e
        | get a n =>
          rcases List.mem_cons.mp hd with z | hd
          · rw [z] at e; cases e
          · have : d = .int n := by simpa using hd
            rw [this] at e; cases e
        | shrink a =>
          have : d = .int a := by simpa [rqP] using hd
          rw [this] at e; cases e
        | _ => cases hd
theorem PathV.ts {H H' : Hp} {v : V} {p : List Int} (h : PathV H v p) (s : TS H H') : PathV H' v p := by
  obtain ⟨a, e, ha⟩ := h
  exact ⟨a, e, s _ _ ha⟩
def spPath : Sp := fun vs H Q _ => ∃ (tp s : Addr), vs = [.ref tp] ∧ Tape H tp s ∧ ∀ v p H', PathV H' v p → goodP p → Tape H' tp s → Chg tp H H' → Q v H'
def spRequest : Sp := fun vs H Q _ => ∃ (tp s : Addr), vs = [.ref tp] ∧ Tape H tp s ∧ ∀ v p r H', Dt H' v (rqD p r) → goodP p → goodRq r → Tape H' tp s → Chg tp H H' → Q v H'
section
variable {P : Program} {w : World} {K : PySem.W.Frag} {mg : Str → Option Value} {base : Heap} {A_PARTS : Addr}
abbrev s_law_path : Stmt := topS 31
abbrev ns_law_path : List Str := ["tape", "k"]
theorem sc_law_path : FnScope ns_law_path ["tape"] (defScope s_law_path) := ⟨rfl, rfl, rfl, by decide +kernel, rfl, by decide +kernel, by decide +kernel⟩

theorem ok_law_path {f : Addr} {fd : FuncData} (F : Fun K "_law_path" "_law_path" s_law_path f fd) (T : Txt K mg  w A_PARTS) (D_law_next : Dfn P w K mg base CX0 1 "_law_next" ["tape", "many"] spNext) : FnOk P w K mg base CX0 2 f fd ["tape"] spPath := by
  refine F.ok sc_law_path (fun vs H Q E h => ?_) (fun cdv A outer s H vs Q E hr h => ?_)
  · obtain ⟨tp, s, rfl, _⟩ := h
    rfl
  · obtain ⟨tp, s0, rfl, tape, k⟩ := h
    refine ⟨_, (pss_one (ps_ret (pe_callTy (kTupOf K) (by rfl) T.b_tuple (by decide +kernel) (pa_cons (pe_lc (own := [("k", 1)]) (by rfl) sc_law_path.nd (pi_range1 (by rfl) T.b_range (pa_cons (pe_ix (kIxL K) (pe_lst (pa_cons pe_int (pa_cons pe_int (pa_cons pe_int (pa_cons pe_int (pa_cons pe_int (pa_cons pe_int pa_nil))))))) (pe_dcall D_law_next (hr.mono (by decide)) (by rfl) pass0 (pa_cons (pv 0) (pa_cons pe_int pa_nil))) (fun _ _ => rfl)) pa_nil)) (blkOk_by (N := ns_law_path) (sc := defScope s_law_path) (by decide +kernel)) (fun _ _ _ _ _ => (pg_name (i := 1) sc_law_path.nd rfl (Or.inl rfl))) (fun _ _ _ _ _ => pts_nil) (fun _ _ _ _ _ => (pe_op op_add pe_int (pe_dcall D_law_next (hr.mono (by decide)) (by rfl) pass0 (pa_cons (pv 0) (pa_cons pe_int pa_nil)))))) pa_nil)))), ?_⟩
    refine ⟨szl rfl, fun l hl => ?_⟩
    have nl := tape.at hl
    have tape1 := tape.same (Same.new (o := .lst [.int 1, .int 1, .int 2, .int 2, .int 3, .int 0]) hl)
    have s1 := Same.new (o := .lst [.int 1, .int 1, .int 2, .int 2, .int 3, .int 0]) hl
    have hl1 : (upd H l (.lst [.int 1, .int 1, .int 2, .int 2, .int 3, .int 0])) l = some (.lst [.int 1, .int 1, .int 2, .int 2, .int 3, .int 0]) := upd_same
    generalize upd H l (.lst [.int 1, .int 1, .int 2, .int 2, .int 3, .int 0]) = H1 at tape1 s1 hl1
    refine ⟨_, rfl, tp, s0, 6, rfl, by decide, by decide, tape1, fun v H2 v0 v1 tape2 ch2 => ?_⟩
    have hl2 := ch2 _ _ nl hl1
    obtain ⟨m, hm, hm3⟩ : ∃ m : Nat, atI [V.int 1, V.int 1, V.int 2, V.int 2, V.int 3, V.int 0] v = some (.int (m : Int)) ∧ m ≤ 3 := by
      have : v = 0 ∨ v = 1 ∨ v = 2 ∨ v = 3 ∨ v = 4 ∨ v = 5 := by omega
      rcases this with rfl | rfl | rfl | rfl | rfl | rfl
      · exact ⟨1, rfl, by decide⟩
      · exact ⟨1, rfl, by decide⟩
      · exact ⟨2, rfl, by decide⟩
      · exact ⟨2, rfl, by decide⟩
      · exact ⟨3, rfl, by decide⟩
      · exact ⟨0, rfl, by decide⟩
    refine ⟨l, _, _, _, rfl, rfl, SqL.of hl2, hm, _, rfl, by omega, by omega, ?_⟩
    rw [Int.toNat_natCast]
    refine fun D hD => lc_it walk_range (fun i H' => Tape H' tp s0 ∧ Chg tp H2 H' ∧ ∃ p : List Int, p.length = i ∧ (∀ n ∈ p, 1 ≤ n ∧ n ≤ 4) ∧ H' D = some (.lst (p.map V.int))) ?_ ?_ ?_ ?_
    · exact ⟨tape2.same (Same.new hD), Same.chg (Same.new hD), [], rfl, fun n hn => (by cases hn), upd_same⟩
    · exact fun _ _ _ _ => trivial
    · rintro i x H' H'' hi ⟨t', c', p, pl, pn, hx⟩ ⟨rfl, rfl⟩
      have nD := tape2.at hD
      refine ⟨rfl, ?_⟩
      refine (show _ from ?_)
      refine ⟨_, rfl, tp, s0, 4, rfl, by decide, by decide, t', fun u H3 u0 u1 t3 c3 => ?_⟩
      refine ⟨_, _, rfl, rfl, ?_⟩
      have hx3 := c3 _ _ nD hx
      refine ⟨_, hx3, by rw [List.length_map, pl]; exact szt (by omega), ?_⟩
      have nDs : D ≠ s0 := tape2.at2 hD
      refine ⟨t3.upd nD nDs, (c'.trans c3).mut hD, p ++ [1 + u], by simp [pl], fun n hn => ?_, by rw [upd_same, List.map_append]; rfl⟩
      rcases List.mem_append.mp hn with z | z
      · exact pn n z
      · have : n = 1 + u := by simpa using z
        omega
    · rintro H' ⟨t', c', p, pl, pn, hx⟩
      refine ⟨_, _, rfl, .inl ⟨SqL.of hx, fun q hq => ?_⟩⟩
      exact k _ p _ ⟨q, rfl, upd_same⟩ ⟨by omega, pn⟩ (t'.same (Same.new hq)) (((Same.chg s1).trans ch2).trans (c'.trans (Same.chg (Same.new hq))))
abbrev s_law_request : Stmt := topS 32
abbrev ns_law_request : List Str := ["tape", "path", "kind", "many"]
theorem sc_law_request : FnScope ns_law_request ["tape"] (defScope s_law_request) := ⟨rfl, rfl, rfl, by decide +kernel, rfl, by decide +kernel, by decide +kernel⟩

theorem ok_law_request {f : Addr} {fd : FuncData} (F : Fun K "_law_request" "_law_request" s_law_request f fd) (T : Txt K mg  w A_PARTS) (D_law_next : Dfn P w K mg base CX0 1 "_law_next" ["tape", "many"] spNext) (D_law_path : Dfn P w K mg base CX0 2 "_law_path" ["tape"] spPath) : FnOk P w K mg base CX0 3 f fd ["tape"] spRequest := by
  refine F.ok sc_law_request (fun vs H Q E h => ?_) (fun cdv A outer s H vs Q E hr h => ?_)
  · obtain ⟨tp, s, rfl, _⟩ := h
    rfl
  · obtain ⟨tp, s0, rfl, tape, k⟩ := h
    refine ⟨_, (pss_cons (ps_set (i := 1) sc_law_request.nd rfl (Or.inl rfl) (pe_dcall D_law_path (hr.mono (by decide)) (by rfl) pass0 (pa_cons (pv 0) pa_nil)))
  (pss_cons (ps_set (i := 2) sc_law_request.nd rfl (Or.inl rfl) (pe_dcall D_law_next (hr.mono (by decide)) (by rfl) pass0 (pa_cons (pv 0) (pa_cons pe_int pa_nil))))
  (pss_cons (ps_if (pt_cmpR op_lt (pv 2) pe_int (nomark _)) (pss_one (ps_ret (pe_tup (pa_cons pe_str (pa_cons (pv 1) (pa_cons (pe_ix (kIxL K) (pe_lst (pa_cons pe_str (pa_cons pe_str pa_nil))) (pe_dcall D_law_next (hr.mono (by decide)) (by rfl) pass0 (pa_cons (pv 0) (pa_cons pe_int pa_nil))) (fun _ _ => rfl)) pa_nil)))))) pss_nil)
  (pss_cons (ps_if (pt_cmpR op_lt (pv 2) pe_int (nomark _)) (pss_cons (ps_set (i := 3) sc_law_request.nd rfl (Or.inl rfl) (pe_ix (kIxL K) (pe_lst (pa_cons (pe_op op_add pe_int (pe_dcall D_law_next (hr.mono (by decide)) (by rfl) pass0 (pa_cons (pv 0) (pa_cons pe_int pa_nil)))) (pa_cons (pe_op op_add pe_int (pe_dcall D_law_next (hr.mono (by decide)) (by rfl) pass0 (pa_cons (pv 0) (pa_cons pe_int pa_nil)))) pa_nil))) (pe_dcall D_law_next (hr.mono (by decide)) (by rfl) pass0 (pa_cons (pv 0) (pa_cons pe_int pa_nil))) (fun _ _ => rfl)))
  (pss_one (ps_ret (pe_tup (pa_cons pe_str (pa_cons (pv 1) (pa_cons (pe_ix (kIxL K) (pe_lst (pa_cons pe_int (pa_cons (pe_dcall D_law_next (hr.mono (by decide)) (by rfl) pass0 (pa_cons (pv 0) (pa_cons pe_int pa_nil))) (pa_cons (pe_dcall D_law_next (hr.mono (by decide)) (by rfl) pass0 (pa_cons (pv 0) (pa_cons pe_int pa_nil))) pa_nil)))) (pe_dcall D_law_next (hr.mono (by decide)) (by rfl) pass0 (pa_cons (pv 0) (pa_cons pe_int pa_nil))) (fun _ _ => rfl)) (pa_cons (pe_tupRg (by rfl) (by rfl) T.b_tuple (prg_2 (by rfl) T.b_range pe_int (pe_op op_add pe_int (pv 3)))) pa_nil)))))))) pss_nil)
  (pss_cons (ps_if (pt_cmpR op_eq (pv 2) pe_int (nomark _)) (pss_one (ps_ret (pe_tup (pa_cons pe_str (pa_cons (pv 1) (pa_cons (pe_dcall D_law_next (hr.mono (by decide)) (by rfl) pass0 (pa_cons (pv 0) (pa_cons pe_int pa_nil))) (pa_cons (pe_dcall D_law_next (hr.mono (by decide)) (by rfl) pass0 (pa_cons (pv 0) (pa_cons pe_int pa_nil))) pa_nil))))))) pss_nil)
  (pss_cons (ps_if (pt_cmpR op_eq (pv 2) pe_int (nomark _)) (pss_one (ps_ret (pe_tup (pa_cons pe_str (pa_cons (pv 1) (pa_cons (pe_ix (kIxL K) (pe_lst (pa_cons pe_int (pa_cons (pe_dcall D_law_next (hr.mono (by decide)) (by rfl) pass0 (pa_cons (pv 0) (pa_cons pe_int pa_nil))) pa_nil))) (pe_dcall D_law_next (hr.mono (by decide)) (by rfl) pass0 (pa_cons (pv 0) (pa_cons pe_int pa_nil))) (fun _ _ => rfl)) pa_nil)))))) pss_nil)
  (pss_one (ps_ret (pe_ix (kIxL K) (pe_lst (pa_cons (pe_tup (pa_cons pe_str (pa_cons (pv 1) pa_nil))) (pa_cons (pe_tup (pa_cons pe_str (pa_cons (pv 1) pa_nil))) (pa_cons (pe_tup (pa_cons pe_str (pa_cons (pv 1) pa_nil))) (pa_cons (pe_tup (pa_cons pe_str (pa_cons (pv 1) pa_nil))) pa_nil))))) (pe_dcall D_law_next (hr.mono (by decide)) (by rfl) pass0 (pa_cons (pv 0) (pa_cons pe_int pa_nil))) (fun _ _ => rfl)))))))))), ?_⟩
    refine ⟨_, rfl, tp, s0, rfl, tape, fun v p H1 hp gp tape1 ch1 => ?_⟩
    refine ⟨_, rfl, tp, s0, 10, rfl, by decide, by decide, tape1, fun kd H2 k0 k10 tape2 ch2 => ?_⟩
    have hp2 := hp.ts (tape1.ts ch2)
    have c02 := ch1.trans ch2
    clear ch1 ch2 tape1 hp
    refine ⟨_, rfl, _, _, rfl, rfl, _, rfl, iteD (fun h3 => ?_) (fun h3 => ?_)⟩
    · refine ⟨_, rfl, szl rfl, fun l hl => ?_⟩
      have nl := tape2.at hl
      have t3 := tape2.same (Same.new (o := .lst [.str "dir", .str "file"]) hl)
      have s3 := Same.new (o := .lst [.str "dir", .str "file"]) hl
      have hl3 : (upd H2 l (.lst [.str "dir", .str "file"])) l = some (.lst [.str "dir", .str "file"]) := upd_same
      generalize upd H2 l (.lst [.str "dir", .str "file"]) = H3 at t3 s3 hl3
      refine ⟨_, rfl, tp, s0, 2, rfl, by decide, by decide, t3, fun u H4 u0 u1 t4 c4 => ?_⟩
      have hp4 := (hp2.same s3).ts (t3.ts c4)
      have hl4 := c4 _ _ nl hl3
      obtain ⟨b, hb⟩ : ∃ b, atI [V.str "dir", V.str "file"] u = some (.str (kindS b)) := by
        have : u = 0 ∨ u = 1 := by omega
        rcases this with rfl | rfl
        · exact ⟨false, rfl⟩
        · exact ⟨true, rfl⟩
      refine ⟨l, _, _, _, rfl, rfl, SqL.of hl4, hb, szl rfl, fun q hq => ?_⟩
      refine k _ p (.make b) _ (.tup upd_same (.cons (.str _) (.cons ((dt_path hp4).same (Same.new hq)) (.cons (.str _) .nil)))) gp trivial (t4.same (Same.new hq)) ?_
      exact (c02.trans (Same.chg s3)).trans (c4.trans (Same.chg (Same.new hq)))
    · refine ⟨_, rfl, _, _, rfl, rfl, _, rfl, iteD (fun h6 => ?_) (fun h6 => ?_)⟩
      · refine ⟨_, rfl, tp, s0, 4, rfl, by decide, by decide, tape2, fun u1 H3 u10 u11 t3 c3 => ?_⟩
        refine ⟨_, _, rfl, rfl, _, rfl, tp, s0, 48, rfl, by decide, by decide, t3, fun u2 H4 u20 u21 t4 c4 => ?_⟩
        refine ⟨_, _, rfl, rfl, szl rfl, fun l hl => ?_⟩
        have nl := t4.at hl
        have t5 := t4.same (Same.new (o := .lst [.int (1 + u1), .int (1 + u2)]) hl)
        have s5 := Same.new (o := .lst [.int (1 + u1), .int (1 + u2)]) hl
        have hl5 : (upd H4 l (.lst [.int (1 + u1), .int (1 + u2)])) l = some (.lst [.int (1 + u1), .int (1 + u2)]) := upd_same
        generalize upd H4 l (.lst [.int (1 + u1), .int (1 + u2)]) = H5 at t5 s5 hl5
        refine ⟨_, rfl, tp, s0, 2, rfl, by decide, by decide, t5, fun u3 H6 u30 u31 t6 c6 => ?_⟩
        obtain ⟨m, hm, hm1, hm2⟩ : ∃ m : Nat, atI [V.int (1 + u1), V.int (1 + u2)] u3 = some (.int (m : Int)) ∧ 1 ≤ m ∧ m ≤ 48 := by
          have : u3 = 0 ∨ u3 = 1 := by omega
          rcases this with rfl | rfl
          · exact ⟨(1 + u1).toNat, by rw [Int.toNat_of_nonneg (by omega)]; rfl, by omega, by omega⟩
          · exact ⟨(1 + u2).toNat, by rw [Int.toNat_of_nonneg (by omega)]; rfl, by omega, by omega⟩
        refine ⟨l, _, _, _, rfl, rfl, SqL.of (c6 _ _ nl hl5), hm, ?_⟩
        have hp6 := (((hp2.ts (tape2.ts c3)).ts (t3.ts c4)).same s5).ts (t5.ts c6)
        have c06 := ((c02.trans c3).trans c4).trans ((Same.chg s5).trans c6)
        clear c3 c4 c6 s5 hl5 t3 t4 t5 hp2 c02 tape2
        refine ⟨_, rfl, _, rfl, tp, s0, 8, rfl, by decide, by decide, t6, fun w1 H7 w10 w11 t7 c7 => ?_⟩
        refine ⟨_, rfl, tp, s0, 49, rfl, by decide, by decide, t7, fun w2 H8 w20 w21 t8 c8 => ?_⟩
        refine ⟨szl rfl, fun l2 hl2 => ?_⟩
        have nl2 := t8.at hl2
        have t9 := t8.same (Same.new (o := .lst [.int 0, .int w1, .int w2]) hl2)
        have s9 := Same.new (o := .lst [.int 0, .int w1, .int w2]) hl2
        have hl9 : (upd H8 l2 (.lst [.int 0, .int w1, .int w2])) l2 = some (.lst [.int 0, .int w1, .int w2]) := upd_same
        generalize upd H8 l2 (.lst [.int 0, .int w1, .int w2]) = H9 at t9 s9 hl9
        refine ⟨_, rfl, tp, s0, 3, rfl, by decide, by decide, t9, fun w3 HA w30 w31 tA cA => ?_⟩
        obtain ⟨off, ho, ho2⟩ : ∃ m : Nat, atI [V.int 0, V.int w1, V.int w2] w3 = some (.int (m : Int)) ∧ m ≤ 48 := by
          have : w3 = 0 ∨ w3 = 1 ∨ w3 = 2 := by omega
          rcases this with rfl | rfl | rfl
          · exact ⟨0, rfl, by omega⟩
          · exact ⟨w1.toNat, by rw [Int.toNat_of_nonneg (by omega)]; rfl, by omega⟩
          · exact ⟨w2.toNat, by rw [Int.toNat_of_nonneg (by omega)]; rfl, by omega⟩
        refine ⟨l2, _, _, _, rfl, rfl, SqL.of (cA _ _ nl2 hl9), ho, ?_⟩
        have hpA := (((hp6.ts (t6.ts c7)).ts (t7.ts c8)).same s9).ts (t9.ts cA)
        have c0A := ((c06.trans c7).trans c8).trans ((Same.chg s9).trans cA)
        refine ⟨_, rfl, _, _, rfl, rfl, _, _, rfl, rfl, RgOk.of_le (by decide) (by omega) (by decide) (by omega), fun x hx => ?_⟩
        have er : rgV 1 (1 + (m : Int)) = ((List.range m).map fun i : Nat => (1 : Int) + (i : Nat)).map V.int := by
          unfold rgV
          rw [show (1 + (m : Int) - 1).toNat = m by omega, List.map_map]; rfl
        rw [er]
        have sx := Same.new (o := .tup (((List.range m).map fun i : Nat => (1 : Int) + (i : Nat)).map V.int)) hx
        have hxx : (upd HA x (.tup (((List.range m).map fun i : Nat => (1 : Int) + (i : Nat)).map V.int))) x = some (.tup (((List.range m).map fun i : Nat => (1 : Int) + (i : Nat)).map V.int)) := upd_same
        generalize upd HA x (.tup (((List.range m).map fun i : Nat => (1 : Int) + (i : Nat)).map V.int)) = HB at sx hxx
        refine ⟨szl rfl, fun q hq => ?_⟩
        refine k _ p (.put off ((List.range m).map fun i : Nat => (1 : Int) + (i : Nat))) _ (.tup upd_same (.cons (.str _) (.cons ((dt_path (hpA.same sx)).same (Same.new hq)) (.cons (.int _) (.cons ((dt_path ⟨x, rfl, hxx⟩).same (Same.new hq)) .nil))))) gp ?_ ((tA.same sx).same (Same.new hq)) ((c0A.trans (Same.chg sx)).trans (Same.chg (Same.new hq)))
        refine ⟨ho2, by simp; omega, by simp; omega, fun n hn => ?_⟩
        obtain ⟨i, hi, rfl⟩ := List.mem_map.mp hn
        have := List.mem_range.mp hi
        omega
      · refine ⟨_, rfl, rfl, _, rfl, iteD (fun h7 => ?_) (fun h7 => ?_)⟩
        · refine ⟨_, rfl, _, rfl, tp, s0, 49, rfl, by decide, by decide, tape2, fun w1 H7 w10 w11 t7 c7 => ?_⟩
          refine ⟨_, rfl, tp, s0, 49, rfl, by decide, by decide, t7, fun w2 H8 w20 w21 t8 c8 => ?_⟩
          refine ⟨szl rfl, fun q hq => ?_⟩
          obtain ⟨a, rfl⟩ := Int.eq_ofNat_of_zero_le w10
          obtain ⟨n, rfl⟩ := Int.eq_ofNat_of_zero_le w20
          have hp8 := (hp2.ts (tape2.ts c7)).ts (t7.ts c8)
          exact k _ p (.get a n) _ (.tup upd_same (.cons (.str _) (.cons ((dt_path hp8).same (Same.new hq)) (.cons (.int _) (.cons (.int _) .nil))))) gp ⟨by omega, by omega⟩ (t8.same (Same.new hq)) (((c02.trans c7).trans c8).trans (Same.chg (Same.new hq)))
        · refine ⟨_, rfl, rfl, _, rfl, iteD (fun h8 => ?_) (fun h8 => ?_)⟩
          · refine ⟨_, rfl, _, rfl, tp, s0, 49, rfl, by decide, by decide, tape2, fun w1 H7 w10 w11 t7 c7 => ?_⟩
            refine ⟨szl rfl, fun l hl => ?_⟩
            have nl := t7.at hl
            have t8 := t7.same (Same.new (o := .lst [.int 0, .int w1]) hl)
            have s8 := Same.new (o := .lst [.int 0, .int w1]) hl
            have hl8 : (upd H7 l (.lst [.int 0, .int w1])) l = some (.lst [.int 0, .int w1]) := upd_same
            generalize upd H7 l (.lst [.int 0, .int w1]) = H8 at t8 s8 hl8
            refine ⟨_, rfl, tp, s0, 2, rfl, by decide, by decide, t8, fun w2 H9 w20 w21 t9 c9 => ?_⟩
            obtain ⟨a, ha, ha2⟩ : ∃ m : Nat, atI [V.int 0, V.int w1] w2 = some (.int (m : Int)) ∧ m ≤ 48 := by
              have : w2 = 0 ∨ w2 = 1 := by omega
              rcases this with rfl | rfl
              · exact ⟨0, rfl, by omega⟩
              · exact ⟨w1.toNat, by rw [Int.toNat_of_nonneg (by omega)]; rfl, by omega⟩
            refine ⟨l, _, _, _, rfl, rfl, SqL.of (c9 _ _ nl hl8), ha, szl rfl, fun q hq => ?_⟩
            have hp9 := ((hp2.ts (tape2.ts c7)).same s8).ts (t8.ts c9)
            exact k _ p (.shrink a) _ (.tup upd_same (.cons (.str _) (.cons ((dt_path hp9).same (Same.new hq)) (.cons (.int _) .nil)))) gp ha2 (t9.same (Same.new hq)) ((c02.trans c7).trans (((Same.chg s8).trans c9).trans (Same.chg (Same.new hq))))
          · obtain ⟨va, rfl, hva⟩ := hp2
            refine ⟨_, rfl, szl rfl, fun x1 hx1 => ⟨_, rfl, szl rfl, fun x2 hx2 => ⟨_, rfl, szl rfl, fun x3 hx3 => ⟨_, rfl, szl rfl, fun x4 hx4 => ⟨szl rfl, fun l hl => ?_⟩⟩⟩⟩⟩
            have a1 := Same.new (o := .tup [.str "size", .ref va]) hx1
            have e1 : (upd H2 x1 (.tup [.str "size", .ref va])) x1 = some (.tup [.str "size", .ref va]) := upd_same
            generalize upd H2 x1 (.tup [.str "size", .ref va]) = G1 at a1 e1 hx2 hx3 hx4 hl ⊢
            have a2 := Same.new (o := .tup [.str "drop", .ref va]) hx2
            have e2 : (upd G1 x2 (.tup [.str "drop", .ref va])) x2 = some (.tup [.str "drop", .ref va]) := upd_same
            generalize upd G1 x2 (.tup [.str "drop", .ref va]) = G2 at a2 e2 hx3 hx4 hl ⊢
            have a3 := Same.new (o := .tup [.str "drop", .ref va]) hx3
            have e3 : (upd G2 x3 (.tup [.str "drop", .ref va])) x3 = some (.tup [.str "drop", .ref va]) := upd_same
            generalize upd G2 x3 (.tup [.str "drop", .ref va]) = G3 at a3 e3 hx4 hl ⊢
            have a4 := Same.new (o := .tup [.str "list", .ref va]) hx4
            have e4 : (upd G3 x4 (.tup [.str "list", .ref va])) x4 = some (.tup [.str "list", .ref va]) := upd_same
            generalize upd G3 x4 (.tup [.str "list", .ref va]) = G4 at a4 e4 hl ⊢
            have a5 := Same.new (o := .lst [.ref x1, .ref x2, .ref x3, .ref x4]) hl
            have e5 : (upd G4 l (.lst [.ref x1, .ref x2, .ref x3, .ref x4])) l = some (.lst [.ref x1, .ref x2, .ref x3, .ref x4]) := upd_same
            generalize upd G4 l (.lst [.ref x1, .ref x2, .ref x3, .ref x4]) = G5 at a5 e5 ⊢
            have aa := (((a1.trans a2).trans a3).trans a4).trans a5
            have tG := tape2.same aa
            have nl := tape2.at ((((a1.trans a2).trans a3).trans a4).free hl)
            refine ⟨_, rfl, tp, s0, 4, rfl, by decide, by decide, tG, fun u HH u0 u4 tH cH => ?_⟩
            have tsH := tG.ts cH
            have hvH : PathV HH (.ref va) p := ⟨va, rfl, tsH _ _ (aa _ _ hva)⟩
            have cF := c02.trans ((Same.chg aa).trans cH)
            have fin : ∀ (z : Str) (r : Rq) (x : Addr), rqD p r = .tuple [.str z, pthD p] → goodRq r → HH x = some (.tup [.str z, .ref va]) → Q (.ref x) HH := fun z r x er gr hx => by
              refine k (.ref x) p r HH ?_ gp gr tH cF
              rw [er]
              exact .tup hx (.cons (.str _) (.cons (dt_path hvH) .nil))
            have : u = 0 ∨ u = 1 ∨ u = 2 ∨ u = 3 := by omega
            rcases this with rfl | rfl | rfl | rfl
            · exact ⟨l, _, _, _, rfl, rfl, SqL.of (cH _ _ nl e5), rfl, fin "size" .size x1 rfl trivial (tsH _ _ (a5 _ _ (a4 _ _ (a3 _ _ (a2 _ _ e1)))))⟩
            · exact ⟨l, _, _, _, rfl, rfl, SqL.of (cH _ _ nl e5), rfl, fin "drop" .drop x2 rfl trivial (tsH _ _ (a5 _ _ (a4 _ _ (a3 _ _ e2))))⟩
            · exact ⟨l, _, _, _, rfl, rfl, SqL.of (cH _ _ nl e5), rfl, fin "drop" .drop x3 rfl trivial (tsH _ _ (a5 _ _ (a4 _ _ e3)))⟩
            · exact ⟨l, _, _, _, rfl, rfl, SqL.of (cH _ _ nl e5), rfl, fin "list" .list x4 rfl trivial (tsH _ _ (a5 _ _ e4))⟩
end
end My

namespace My
open PySem L2
local macro_rules | `(tactic| walk_at "ne") => `(tactic| first | assumption | exact Ne.symm (by assumption) | exact ne_of_none (by assumption) (by assumption) | exact Ne.symm (ne_of_none (by assumption) (by assumption)))
local macro_rules | `(tactic| walk_at "hp") => `(tactic| first | assumption | with_reducible exact upd_same | (with_reducible refine Eq.trans (upd_ne ?_) ?_; rotate_left; walk_at "hp"; walk_at "ne"))
local macro_rules | `(tactic| walk_at "cnd") => `(tactic| first | omega | (show (0 : Int) < _; omega) | exact ⟨by omega, by omega⟩ | exact Or.inl ⟨by omega, by omega⟩ | exact Or.inr ⟨by omega, by omega⟩ | exact ⟨by omega, by omega, by decide⟩ | exact ⟨by omega, by omega, by omega⟩)
local macro_rules | `(tactic| walk_at "at") => `(tactic| first | exact atC 0 rfl rfl | exact atC 1 rfl rfl | exact atC 2 rfl rfl | exact atC 3 rfl rfl | exact atC 4 rfl rfl | exact atC 5 rfl rfl | exact atC 6 rfl rfl | exact atC 7 rfl rfl)
local macro_rules | `(tactic| walk_at "ix") => `(tactic| first | exact ixC 0 rfl (Nat.le_of_ble_eq_true rfl) | exact ixC 1 rfl (Nat.le_of_ble_eq_true rfl) | exact ixC 2 rfl (Nat.le_of_ble_eq_true rfl) | exact ixC 3 rfl (Nat.le_of_ble_eq_true rfl) | exact ixC 4 rfl (Nat.le_of_ble_eq_true rfl) | exact ixC 5 rfl (Nat.le_of_ble_eq_true rfl))
local macro_rules | `(tactic| walk_at "st") => `(tactic| first
  | refine ⟨_, rfl, ?_⟩
  | refine ⟨_, _, rfl, rfl, (by walk_at "cnd" : (_ : Prop)), ?_⟩
  | refine ⟨_, _, rfl, rfl, ?_⟩
  | refine ⟨rfl, ?_⟩
  | refine Or.inl ⟨_, rfl, ?_⟩
  | refine ⟨_, _, _, _, rfl, rfl, by exact SqL.of (by walk_at "hp"), by walk_at "at", ?_⟩
  | refine ⟨_, _, _, _, rfl, rfl, by exact SqT.of (by walk_at "hp"), by walk_at "at", ?_⟩
  | refine ⟨_, _, _, _, rfl, rfl, by walk_at "hp", by walk_at "ix", ?_⟩
  | refine ⟨_, _, rfl, Or.inl (by exact SqL.of (by walk_at "hp")), ?_⟩
  | refine ⟨_, _, rfl, Or.inr (by exact SqT.of (by walk_at "hp")), ?_⟩)
local macro_rules | `(tactic| walk_at "so") => `(tactic| first
  | refine ⟨_, _, _, _, _, rfl, by walk_at "hp", by assumption, by assumption, rfl, ?_⟩
  | refine ⟨_, _, _, _, rfl, by walk_at "hp", by assumption, by assumption, Nat.le_of_ble_eq_true rfl, ?_⟩
  | refine ⟨_, _, _, rfl, by walk_at "hp", rfl, ?_⟩
  | walk_at "st")
local macro_rules | `(tactic| walk_at "ro") => `(tactic| repeat walk_at "so")
local macro_rules | `(tactic| walk_at "run") => `(tactic| repeat walk_at "st")

/-! ### trees of few paths -/
def boxN : List Int := [1, 2, 3, 4]
def boxL : List (List Int) := [[]] ++ (boxN.map fun a => [a]) ++ (boxN.flatMap fun a => boxN.map fun b => [a, b]) ++ boxN.flatMap fun a => boxN.flatMap fun b => boxN.map fun c => [a, b, c]
theorem box_mem {p : List Int} (h : goodP p) : p ∈ boxL := by
  obtain ⟨h1, h2⟩ := h
  have m : ∀ n : Int, 1 ≤ n ∧ n ≤ 4 → n ∈ boxN := fun n h => by
    have : n = 1 ∨ n = 2 ∨ n = 3 ∨ n = 4 := by omega
    rcases this with rfl | rfl | rfl | rfl <;> decide
  unfold boxL
  match p, h1, h2 with
  | [], _, _ => simp
  | [a], _, h2 =>
    have ha := m a (h2 a (by simp))
    simp [ha]
  | [a, b], _, h2 =>
    have ha := m a (h2 a (by simp))
    have hb := m b (h2 b (by simp))
    simp [ha, hb]
  | [a, b, c], _, h2 =>
    have ha := m a (h2 a (by simp))
    have hb := m b (h2 b (by simp))
    have hc := m c (h2 c (by simp))
    simp [ha, hb, hc]
    exact ⟨a, ha, b, hb, c, hc, rfl, rfl, rfl⟩
  | a :: b :: c :: d :: r, h1, _ => simp at h1
def hP (p : List Int) : Int := reduceHash (Builtin.Tuple.tupleHashOf (p.map hashInt))
theorem hP_eq {P : Program} {w : World} (p : List Int) : (tupleKind (mixKind P w)).hash (kP p) = hP p := by
  show reduceHash (Builtin.Tuple.tupleHashOf ((kP p).map (keyH w))) = _
  unfold hP kP
  rw [List.map_map]; rfl
theorem box_hash : (boxL.map hP).Nodup := by decide +kernel
theorem nodup_inj {α β : Type} {f : α → β} : ∀ {l : List α}, (l.map f).Nodup → ∀ a ∈ l, ∀ b ∈ l, f a = f b → a = b
  | [], _, a, ha, _, _, _ => by cases ha
  | x :: l, h, a, ha, b, hb, e => by
    rw [List.map_cons] at h
    obtain ⟨h1, h2⟩ := List.nodup_cons.mp h
    rcases List.mem_cons.mp ha with za | ha <;> rcases List.mem_cons.mp hb with zb | hb
    · rw [za, zb]
    · exact absurd (List.mem_map.mpr ⟨b, hb, by rw [← e, za]⟩) h1
    · exact absurd (List.mem_map.mpr ⟨a, ha, by rw [e, zb]⟩) h1
    · exact nodup_inj h2 a ha b hb e
def Box (F : Fm) : Prop := ∀ p, (F p).isSome = true → goodP p
theorem Box.hash {P : Program} {w : World} {F : Fm} {β : List Int → Addr} {ps : List (List Int)} (h : Box F) (nd : ps.Nodup) (m : ∀ p ∈ ps, (F p).isSome = true) : ((ps.map (pent F β)).map fun kv => (tupleKind (mixKind P w)).hash kv.1).Nodup := by
  rw [List.map_map]
  refine List.pairwise_map.mpr (List.Pairwise.imp_of_mem (fun {a b} ha hb ne e => ne ?_) nd)
  have e' : hP a = hP b := by rw [← hP_eq (P := P) (w := w), ← hP_eq (P := P) (w := w)]; exact e
  exact nodup_inj box_hash a (box_mem (h a (m a ha))) b (box_mem (h b (m b hb))) e'
theorem Box.nodes {F : Fm} (h : Box F) : Nodes F 1000 := ⟨boxL, by decide, fun p hp => box_mem (h p hp)⟩
theorem Box.fv {H : Hp} {a0 : Addr} {F : Fm} {α : TA} (h : Box F) (t : TR H a0 F α) : FV F := ⟨⟨H, a0, α, t⟩, h.nodes, fun p hp => by have := (h p hp).1; omega⟩
theorem Box.few {H : Hp} {a0 : Addr} {F : Fm} {α : TA} (h : Box F) (t : TR H a0 F α) : Few F := fun p ns e => by
  obtain ⟨_, _, h3, _, h5⟩ := t.dir p ns e
  have := nodup_lenD h3 (ns := [1, 2, 3, 4]) fun n hn => by
    have g := (h _ ((h5 n).mp hn)).2 n (by simp)
    have : n = 1 ∨ n = 2 ∨ n = 3 ∨ n = 4 := by omega
    rcases this with rfl | rfl | rfl | rfl <;> decide
  simp at this
  omega
theorem due_some {F : Fm} {p : List Int} {r : Rq} {q : List Int} (h : ((due F p r).2 q).isSome = true) : (F q).isSome = true ∨ q = p := by
  have file : ∀ r, ((dueFile F p (fileG F p r)).2 q).isSome = true → (F q).isSome = true ∨ q = p := fun r h => by
    cases e : F p with
    | none => rw [dueFile_none e] at h; exact .inl h
    | some x =>
      cases x with
      | dir ns => rw [dueFile_dir e] at h; exact .inl h
      | file ws =>
        rw [dueFile_file e] at h
        have st : ∀ ws', (setF F p ws' q).isSome = true → (F q).isSome = true ∨ q = p := fun ws' h => by
          by_cases z : q = p
          · exact .inr z
          · unfold setF at h
            rw [if_neg z] at h
            exact .inl h
        cases r with
        | shrink a => exact st _ h
        | put off new =>
          by_cases c : 48 < off + new.length
          · have e0 : fileG F p (.put off new) ws = (noD "long", F) := if_pos c
            rw [e0] at h; exact .inl h
          · have e0 : fileG F p (.put off new) ws = (okD, setF F p (putW ws off new)) := if_neg c
            rw [e0] at h; exact st _ h
        | _ => exact .inl h
  cases r with
  | make b =>
    have h : ((dueMake F p b).2 q).isSome = true := h
    by_cases hpe : p = []
    · subst hpe; rw [dueMake_nil] at h; exact .inl h
    · cases e : F p.dropLast with
      | none => rw [dueMake_none hpe e] at h; exact .inl h
      | some x =>
        cases x with
        | file ws => rw [dueMake_file hpe e] at h; exact .inl h
        | dir ns =>
          by_cases hF : (F p).isSome = true
          · rw [dueMake_there hpe e hF] at h; exact .inl h
          · rw [dueMake_new hpe e hF] at h
            have h : (addF F p.dropLast (p.getLastD 0) (if b = true then Part.file [] else .dir []) q).isSome = true := h
            unfold addF at h
            rw [← last_snoc hpe] at h
            by_cases z : q = p
            · exact .inr z
            · rw [if_neg z] at h
              by_cases y : q = p.dropLast
              · rw [y, e]; exact .inl rfl
              · rw [if_neg y] at h; exact .inl h
  | drop =>
    have h : ((dueDrop F p).2 q).isSome = true := h
    have dl : (delF F p.dropLast (p.getLastD 0) q).isSome = true → (F q).isSome = true := fun h => by
      unfold delF at h
      by_cases z : q = p.dropLast ++ [p.getLastD 0]
      · rw [if_pos z] at h; cases h
      · rw [if_neg z] at h
        by_cases y : q = p.dropLast
        · rw [if_pos y] at h
          rw [y]
          cases e : F p.dropLast with
          | none => rw [e] at h; exact h
          | some x => rfl
        · rw [if_neg y] at h; exact h
    by_cases hpe : p = []
    · subst hpe; rw [dueDrop_nil] at h; exact .inl h
    · cases e : F p with
      | none => rw [dueDrop_none hpe e] at h; exact .inl h
      | some x =>
        cases x with
        | file ws => rw [dueDrop_file hpe e] at h; exact .inl (dl h)
        | dir ns =>
          cases ns with
          | nil => rw [dueDrop_dir hpe e] at h; exact .inl (dl h)
          | cons n ns => rw [dueDrop_full hpe e] at h; exact .inl h
  | list =>
    have h : ((dueList F p).2 q).isSome = true := h
    cases e : F p with
    | none => rw [dueList_none e] at h; exact .inl h
    | some x =>
      cases x with
      | file ws => rw [dueList_file e] at h; exact .inl h
      | dir ns => rw [dueList_dir e] at h; exact .inl h
  | _ => exact file _ h
theorem Box.due {F : Fm} {p : List Int} {r : Rq} (h : Box F) (hp : goodP p) : Box (due F p r).2 := fun q hq => by
  rcases due_some hq with z | rfl
  · exact h q z
  · exact hp
/-! ### what is due, as data -/
theorem tonly_ints : ∀ p : List Int, tonlyAll (p.map PyData.int) = true
  | [] => by unfold tonlyAll; rfl
  | n :: p => by
    rw [List.map_cons]
    unfold tonlyAll tonly
    rw [tonly_ints p]; rfl
def fine (d : PyData) : Prop := tonly d = true ∧ SeqAt.shaped d = true
theorem Sh.str (n : Nat) {z : Str} (h : PyData.strOk z = true) : Sh n (.str z) := ⟨by rw [PyData.canLay0]; exact h, by rw [PyData.depth]; exact Nat.zero_le _⟩
theorem fine_no (z : Str) (h : PyData.strOk z = true := by decide +kernel) : fine (noD z) := ⟨by unfold noD tonly tonlyAll tonlyAll tonlyAll tonly; rfl, (Sh.tup (n := 3) fun d hd => by
  simp only [List.mem_cons, List.not_mem_nil, or_false] at hd
  rcases hd with rfl | rfl
  · exact Sh.str _ (by decide +kernel)
  · exact Sh.str _ h).ok⟩
theorem fine_ok : fine okD := ⟨by decide +kernel, by decide +kernel⟩
theorem fine_okI (i : Int) : fine (okT (.int i)) := ⟨by unfold okT tonly tonlyAll tonlyAll tonlyAll tonly; rfl, (Sh.tup (n := 3) fun d hd => by
  simp only [List.mem_cons, List.not_mem_nil, or_false] at hd
  rcases hd with rfl | rfl
  · exact Sh.str _ (by decide +kernel)
  · exact Sh.int _ _).ok⟩
theorem fine_okP (p : List Int) : fine (okT (pthD p)) := ⟨by
  unfold okT pthD tonly tonlyAll tonlyAll tonlyAll
  unfold tonly
  rw [tonly_ints]; rfl, (Sh.tup (n := 4) fun d hd => by
  simp only [List.mem_cons, List.not_mem_nil, or_false] at hd
  rcases hd with rfl | rfl
  · exact Sh.str _ (by decide +kernel)
  · exact sh_path _).ok⟩
theorem due_fine {F : Fm} {p : List Int} {r : Rq} : fine (due F p r).1 := by
  have file : ∀ r, fine (dueFile F p (fileG F p r)).1 := fun r => by
    cases e : F p with
    | none => rw [dueFile_none e]; exact fine_no _
    | some x =>
      cases x with
      | dir ns => rw [dueFile_dir e]; exact fine_no _
      | file ws =>
        rw [dueFile_file e]
        cases r with
        | size => exact fine_okI _
        | get a n => exact fine_okP _
        | put off new =>
          by_cases c : 48 < off + new.length
          · rw [show fileG F p (.put off new) ws = (noD "long", F) from if_pos c]; exact fine_no _
          · rw [show fileG F p (.put off new) ws = (okD, setF F p (putW ws off new)) from if_neg c]; exact fine_ok
        | _ => exact fine_ok
  cases r with
  | make b =>
    show fine (dueMake F p b).1
    by_cases hpe : p = []
    · subst hpe; rw [dueMake_nil]; exact fine_no _
    · cases e : F p.dropLast with
      | none => rw [dueMake_none hpe e]; exact fine_no _
      | some x =>
        cases x with
        | file ws => rw [dueMake_file hpe e]; exact fine_no _
        | dir ns =>
          by_cases hF : (F p).isSome = true
          · rw [dueMake_there hpe e hF]; exact fine_no _
          · rw [dueMake_new hpe e hF]; exact fine_ok
  | drop =>
    show fine (dueDrop F p).1
    by_cases hpe : p = []
    · subst hpe; rw [dueDrop_nil]; exact fine_no _
    · cases e : F p with
      | none => rw [dueDrop_none hpe e]; exact fine_no _
      | some x =>
        cases x with
        | file ws => rw [dueDrop_file hpe e]; exact fine_ok
        | dir ns =>
          cases ns with
          | nil => rw [dueDrop_dir hpe e]; exact fine_ok
          | cons n ns => rw [dueDrop_full hpe e]; exact fine_no _
  | list =>
    show fine (dueList F p).1
    cases e : F p with
    | none => rw [dueList_none e]; exact fine_no _
    | some x =>
      cases x with
      | file ws => rw [dueList_file e]; exact fine_no _
      | dir ns => rw [dueList_dir e]; exact fine_okP _
  | _ => exact file _
/-! ### two dicts of parts -/
theorem ne_parts {K : PySem.W.Frag} {H : Hp} {a b : Addr} {F : Fm} {β γ : List Int → Addr} {ps qs : List (List Int)} {Q : VK} (h1 : PR H a F β ps) (h2 : PR H b F γ qs) (k : Q (.bl false) H) : rNeDT K (.ref a) (.ref b) H Q := by
  refine ⟨a, b, _, _, rfl, rfl, h1.at', h2.at', ?_, fun x hx => ?_, k⟩
  · rw [List.length_map, List.length_map]
    exact Nat.le_antisymm (nodup_lenD h1.nd fun p hp => (h2.mem p).mpr ((h1.mem p).mp hp)) (nodup_lenD h2.nd fun p hp => (h1.mem p).mpr ((h2.mem p).mp hp))
  · obtain ⟨p, hp, rfl⟩ := List.mem_map.mp hx
    have hs := (h1.mem p).mp hp
    obtain ⟨j, hj⟩ := List.getElem?_of_mem ((h2.mem p).mpr hs)
    refine ⟨j, entV F γ p, by rw [List.getElem?_map, hj]; rfl, ?_⟩
    show LfV K H (entV F β p) (entV F γ p)
    obtain ⟨x, e⟩ := Option.isSome_iff_exists.mp hs
    cases x with
    | dir ns =>
      rw [ent_dir e, ent_dir e]
      exact ⟨.str "dir", .str _, .str _, by decide +kernel⟩
    | file ws =>
      rw [ent_file e, ent_file e]
      exact ⟨.list (ws.map PyData.int), (dt_lints (h1.ws p ws e)).dp, (dt_lints (h2.ws p ws e)).dp, (sh_lints _).ok⟩
/-- the tree laid flat into a new dict -/
theorem flat_call {H H0 : Hp} {a0 d : Addr} {F : Fm} {α : TA} {v : V} {Qd : Hp → Prop} (t : TR H a0 F α) (bx : Box F) (hv : PathV H v []) (hd : H d = some (.dT [])) (s : Same H0 H) (h0 : H0 d = none) (k : ∀ H' ps', Same H0 H' → PR H' d F α.inn ps' → TR H' a0 F α → Qd H') : TR H a0 F α ∧ TW H [] F α ∧ (F []).isSome = true ∧ PathV H v [] ∧ H d = some (.dT (([] : List (List Int)).map (pent F α.inn))) ∧ ([] : List (List Int)).Nodup ∧ (∀ p ∈ ([] : List (List Int)), (F p).isSome = true) ∧ (∀ r, [] ++ r ∉ ([] : List (List Int))) ∧ Nodes F 1000 ∧ (∀ p, (F p).isSome = true → p.length ≤ ([] : List Int).length + 3) ∧ (∀ p, (F p).isSome = true → p.length ≤ 100) ∧
  ∀ (H' : Hp) (ps' : List (List Int)), H' d = some (.dT (ps'.map (pent F α.inn))) → ps'.Nodup → (∀ p, p ∈ ps' ↔ p ∈ ([] : List (List Int)) ∨ ∃ r, p = [] ++ r ∧ (F p).isSome = true) → Chg d H H' → Qd H' := by
  obtain ⟨ns, ht⟩ := t.top
  refine ⟨t, t.tw, by rw [ht]; rfl, hv, hd, List.nodup_nil, fun p hp => (by cases hp), fun r hr => (by cases hr), bx.nodes, fun p hp => by have := (bx p hp).1; simp; omega, fun p hp => by have := (bx p hp).1; omega, fun H' ps' h1 h2 h3 ch => ?_⟩
  have s' : Same H0 H' := fun b o e => ch b o (ne_of_none e h0) (s b o e)
  have t' : TR H' a0 F α := ⟨t.root, t.top, fun p ns e => by
    obtain ⟨g1, g2, g3⟩ := t.dir p ns e
    exact ⟨ch _ _ (ne_of g1 hd (by intro z; cases z)) g1, ch _ _ (ne_of g2 hd (by intro z; cases z)) g2, g3⟩, fun p ws e => by
    obtain ⟨g1, g2, g3⟩ := t.file p ws e
    exact ⟨ch _ _ (ne_of g1 hd (by intro z; cases z)) g1, ch _ _ (ne_of g2 hd (by intro z; cases z)) g2, g3⟩, t.up, t.inj1, t.inj2, t.inj3⟩
  refine k H' ps' s' ⟨h1, h2, fun p => ?_, fun p w e => (t'.file p w e).2.1⟩ t'
  rw [h3 p]
  exact ⟨fun z => by
    rcases z with z | ⟨r, _, z⟩
    · cases z
    · exact z, fun z => .inr ⟨p, rfl, z⟩⟩
end My

namespace My
open PySem L2
local macro_rules | `(tactic| walk_at "ne") => `(tactic| first | assumption | exact Ne.symm (by assumption) | exact ne_of_none (by assumption) (by assumption) | exact Ne.symm (ne_of_none (by assumption) (by assumption)))
local macro_rules | `(tactic| walk_at "hp") => `(tactic| first | assumption | with_reducible exact upd_same | (with_reducible refine Eq.trans (upd_ne ?_) ?_; rotate_left; walk_at "hp"; walk_at "ne"))
local macro_rules | `(tactic| walk_at "cnd") => `(tactic| first | omega | (show (0 : Int) < _; omega) | exact ⟨by omega, by omega⟩ | exact Or.inl ⟨by omega, by omega⟩ | exact Or.inr ⟨by omega, by omega⟩ | exact ⟨by omega, by omega, by decide⟩ | exact ⟨by omega, by omega, by omega⟩)
local macro_rules | `(tactic| walk_at "at") => `(tactic| first | exact atC 0 rfl rfl | exact atC 1 rfl rfl | exact atC 2 rfl rfl | exact atC 3 rfl rfl | exact atC 4 rfl rfl | exact atC 5 rfl rfl | exact atC 6 rfl rfl | exact atC 7 rfl rfl)
local macro_rules | `(tactic| walk_at "ix") => `(tactic| first | exact ixC 0 rfl (Nat.le_of_ble_eq_true rfl) | exact ixC 1 rfl (Nat.le_of_ble_eq_true rfl) | exact ixC 2 rfl (Nat.le_of_ble_eq_true rfl) | exact ixC 3 rfl (Nat.le_of_ble_eq_true rfl) | exact ixC 4 rfl (Nat.le_of_ble_eq_true rfl) | exact ixC 5 rfl (Nat.le_of_ble_eq_true rfl))
local macro_rules | `(tactic| walk_at "st") => `(tactic| first
  | refine ⟨_, rfl, ?_⟩
  | refine ⟨_, _, rfl, rfl, (by walk_at "cnd" : (_ : Prop)), ?_⟩
  | refine ⟨_, _, rfl, rfl, ?_⟩
  | refine ⟨rfl, ?_⟩
  | refine Or.inl ⟨_, rfl, ?_⟩
  | refine ⟨_, _, _, _, rfl, rfl, by exact SqL.of (by walk_at "hp"), by walk_at "at", ?_⟩
  | refine ⟨_, _, _, _, rfl, rfl, by exact SqT.of (by walk_at "hp"), by walk_at "at", ?_⟩
  | refine ⟨_, _, _, _, rfl, rfl, by walk_at "hp", by walk_at "ix", ?_⟩
  | refine ⟨_, _, rfl, Or.inl (by exact SqL.of (by walk_at "hp")), ?_⟩
  | refine ⟨_, _, rfl, Or.inr (by exact SqT.of (by walk_at "hp")), ?_⟩)
local macro_rules | `(tactic| walk_at "so") => `(tactic| first
  | refine ⟨_, _, _, _, _, rfl, by walk_at "hp", by assumption, by assumption, rfl, ?_⟩
  | refine ⟨_, _, _, _, rfl, by walk_at "hp", by assumption, by assumption, Nat.le_of_ble_eq_true rfl, ?_⟩
  | refine ⟨_, _, _, rfl, by walk_at "hp", rfl, ?_⟩
  | walk_at "st")
local macro_rules | `(tactic| walk_at "ro") => `(tactic| repeat walk_at "so")
local macro_rules | `(tactic| walk_at "run") => `(tactic| repeat walk_at "st")

/-! ### literals -/
def Lit (te : L2.TE) (d : PyData) : Prop := ∀ σ H Q, (∀ v H', Same H H' → Dt H' v d → Q v H') → te σ H Q
def LitAll (ta : L2.TA) (ds : List PyData) : Prop := ∀ σ H Q, (∀ vs H', Same H H' → DtAll H' vs ds → Q vs H') → ta σ H Q
theorem lit_int (i : Int) : Lit (tC (.int i)) (.int i) := fun _ H _ k => k _ H (Same.refl H) (.int i)
theorem lit_bl (i : Bool) : Lit (tC (.bl i)) (.bool i) := fun _ H _ k => k _ H (Same.refl H) (.bl i)
theorem lit_str (i : Str) : Lit (tC (.str i)) (.str i) := fun _ H _ k => k _ H (Same.refl H) (.str i)
theorem lit_non : Lit (tC .non) .none := fun _ H _ k => k _ H (Same.refl H) .non
theorem lit_nil : LitAll tNil [] := fun _ H _ k => k _ H (Same.refl H) .nil
theorem lit_cons {te : L2.TE} {ta : L2.TA} {d : PyData} {ds : List PyData} (h : Lit te d) (hs : LitAll ta ds) : LitAll (tCons te ta) (d :: ds) := fun σ H _ k =>
  h σ H _ fun v H1 s1 d1 => hs σ H1 _ fun vs H2 s2 d2 => k _ H2 (s1.trans s2) (.cons (d1.same s2) d2)
theorem lit_tup {ta : L2.TA} {ds : List PyData} (hs : LitAll ta ds) (hz : Nat.ble ds.length 100 = true := by rfl) : Lit (tTup ta) (.tuple ds) := fun σ H _ k =>
  hs σ H _ fun vs H1 s1 d1 => ⟨szl (by rw [d1.len]; exact hz), fun p hp => k _ _ (s1.trans (Same.new hp)) (Dt.new d1 hp)⟩
theorem lit_lst {ta : L2.TA} {ds : List PyData} (hs : LitAll ta ds) (hz : Nat.ble ds.length 100 = true := by rfl) : Lit (tLst ta) (.list ds) := fun σ H _ k =>
  hs σ H _ fun vs H1 s1 d1 => ⟨szl (by rw [d1.len]; exact hz), fun p hp => k _ _ (s1.trans (Same.new hp)) (.lst upd_same (d1.same (Same.new hp)))⟩
theorem go_lit {te : L2.TE} {d : PyData} {σ : L2.St} {H : Hp} {Q : VK} (h : Lit te d) (k : ∀ v H', Same H H' → Dt H' v d → Q v H') : te σ H Q := h σ H Q k
theorem go_set {te : L2.TE} {i : Nat} {s : L2.TS} {D : Ends} {d : PyData} {σ : L2.St} {H : Hp} (h : Lit te d) (k : ∀ v H', Same H H' → Dt H' v d → s D (σ.set i (some v)) H') : tSeq (tAsg te (gName i)) s D σ H := h σ H _ k
theorem go_tup {ta : L2.TA} {ds : List PyData} {σ : L2.St} {H : Hp} {Q : VK} (h : Lit (tTup ta) (.tuple ds)) (k : ∀ v H', Same H H' → Dt H' v (.tuple ds) → Q v H') : tTup ta σ H Q := h σ H Q k
theorem go_lst {ta : L2.TA} {ds : List PyData} {σ : L2.St} {H : Hp} {Q : VK} (h : Lit (tLst ta) (.list ds)) (k : ∀ v H', Same H H' → Dt H' v (.list ds) → Q v H') : tLst ta σ H Q := h σ H Q k

def spLaw (K : PySem.W.Frag) : Sp := fun vs H Q _ => ∃ (a : Addr) (ns : List Int), vs = [.ref a] ∧ SqL K H a (ns.map V.int) ∧ ∀ H', Q (.bl true) H'
structure LI (H : Hp) (tp s tr pa : Addr) : Prop where
  tape : Tape H tp s
  st : ∃ F α β ps, TR H tr F α ∧ PR H pa F β ps ∧ Box F ∧ (∀ b, Own F α b → b ≠ s) ∧ ∀ p w, F p = some (.file w) → ¬ Own F α (β p)
theorem LI.same {H H' : Hp} {tp s tr pa : Addr} (h : LI H tp s tr pa) (e : Same H H') : LI H' tp s tr pa := by
  obtain ⟨F, α, β, ps, t, pr, bx, ns, nb⟩ := h.st
  exact ⟨h.tape.same e, F, α, β, ps, t.same e, pr.same e, bx, ns, nb⟩
/-- what is no list stays, and the lists of words -/
theorem TR.keep {H H' : Hp} {a0 : Addr} {F : Fm} {α : TA} (t : TR H a0 F α) (c : ∀ b o, H b = some o → Own F α b → H' b = some o) : TR H' a0 F α := ⟨t.root, t.top, fun p ns e => by
    obtain ⟨g1, g2, g3⟩ := t.dir p ns e
    exact ⟨c _ _ g1 ⟨p, by rw [e]; rfl, .inl rfl⟩, c _ _ g2 ⟨p, by rw [e]; rfl, .inr rfl⟩, g3⟩, fun p ws e => by
    obtain ⟨g1, g2, g3⟩ := t.file p ws e
    exact ⟨c _ _ g1 ⟨p, by rw [e]; rfl, .inl rfl⟩, c _ _ g2 ⟨p, by rw [e]; rfl, .inr rfl⟩, g3⟩, t.up, t.inj1, t.inj2, t.inj3⟩
theorem TR.kind {H : Hp} {a0 : Addr} {F : Fm} {α : TA} (t : TR H a0 F α) {b : Addr} (h : Own F α b) : (∃ kvs, H b = some (.dK kvs)) ∨ ∃ ws : List Int, H b = some (.lst (ws.map V.int)) := by
  obtain ⟨q, hq, hb⟩ := h
  obtain ⟨x, e⟩ := Option.isSome_iff_exists.mp hq
  cases x with
  | dir ns =>
    obtain ⟨h1, h2, _⟩ := t.dir q ns e
    rcases hb with rfl | rfl
    · exact .inl ⟨_, h1⟩
    · exact .inl ⟨_, h2⟩
  | file ws =>
    obtain ⟨h1, h2, _⟩ := t.file q ws e
    rcases hb with rfl | rfl
    · exact .inl ⟨_, h1⟩
    · exact .inr ⟨_, h2⟩
theorem LI.chg {H H' : Hp} {tp s tr pa : Addr} (h : LI H tp s tr pa) (t' : Tape H' tp s) (c : Chg tp H H') : LI H' tp s tr pa := by
  obtain ⟨F, α, β, ps, t, pr, bx, ns, nb⟩ := h.st
  obtain ⟨us, i, r, z, ha, _⟩ := h.tape
  refine ⟨t', F, α, β, ps, t.keep fun b o e w => c _ _ (fun z => ?_) e, ⟨c _ _ (ne_of pr.at' ha (by intro z; cases z)) pr.at', pr.nd, pr.mem, fun p w e => ?_⟩, bx, ns, nb⟩
  · rcases t.kind w with ⟨kvs, e2⟩ | ⟨ws, e2⟩
    · rw [z, ha] at e2; cases e2
    · rw [z, ha] at e2
      cases ws with
      | nil => cases e2
      | cons n r => cases e2
  · have := pr.ws p w e
    exact c _ _ (ne_of this ha (by intro z; cases w <;> cases z)) this
theorem tonly_rq {p : List Int} {r : Rq} : tonly (rqD p r) = true := by
  have tp : ∀ q : List Int, tonly (pthD q) = true := fun q => by unfold pthD tonly; exact tonly_ints q
  have ts : ∀ z : Str, tonly (.str z) = true := fun z => by unfold tonly; rfl
  have ti : ∀ z : Int, tonly (.int z) = true := fun z => by unfold tonly; rfl
  have t0 : tonlyAll [] = true := by unfold tonlyAll; rfl
  have tc : ∀ d ds, tonly d = true → tonlyAll ds = true → tonlyAll (d :: ds) = true := fun d ds a b => by unfold tonlyAll; rw [a, b]; rfl
  have tt : ∀ ds, tonlyAll ds = true → tonly (.tuple ds) = true := fun ds h => by unfold tonly; exact h
  unfold rqD
  refine tt _ (tc _ _ (ts _) (tc _ _ (tp _) ?_))
  cases r with
  | make b => exact tc _ _ (ts _) t0
  | put off ws => exact tc _ _ (ti _) (tc _ _ (tp _) t0)
  | get a n => exact tc _ _ (ti _) (tc _ _ (ti _) t0)
  | shrink a => exact tc _ _ (ti _) t0
  | _ => exact t0
theorem lit_neg (i : Int) : Lit (tUn (rU fun i => V.int (-i)) (tC (.int i))) (.int (-i)) := fun _ H _ k => ⟨i, rfl, k _ H (Same.refl H) (.int _)⟩
theorem rep_dt {H : Hp} {x : V} {d : PyData} (h : Dt H x d) : ∀ n : Nat, DtAll H (List.replicate n [x]).flatten (List.replicate n d)
  | 0 => .nil
  | n + 1 => by
    rw [List.replicate_succ, List.flatten_cons, List.replicate_succ]
    exact .cons h (rep_dt h n)
theorem lit_rep49 {K : PySem.W.Frag} {te : L2.TE} {d : PyData} (h : Lit te (.tuple [d])) : Lit (tOp (rRepT K) te (tC (.int 49))) (.tuple (List.replicate 49 d)) := fun σ H Q k => by
  refine h σ H _ fun v H1 s1 d1 => ?_
  cases d1 with
  | tup ha hs =>
    cases hs with
    | cons c1 hs =>
      cases hs
      refine ⟨_, 49, _, rfl, rfl, SqT.of ha, fun e => (by cases e), by decide, by decide, Nat.le_of_ble_eq_true rfl, fun p hp => ?_⟩
      exact k _ _ (s1.trans (Same.new hp)) (.tup upd_same ((rep_dt c1 49).same (Same.new hp)))
theorem lit_pow32 : Lit (tOp (rI CPow fun i j => .int (i ^ j.toNat)) (tC (.int 2)) (tC (.int 32))) (.int 4294967296) := fun _ H _ k => ⟨2, 32, rfl, rfl, ⟨by decide, by decide, by decide⟩, k _ H (Same.refl H) (.int _)⟩
def headOk : List PyData → Bool
  | .str z :: _ => words8.elem z
  | _ => true
def partOk : PyData → Bool
  | .tuple es => Nat.ble es.length 1000
  | _ => true
def okB : PyData → Bool
  | .tuple ds => headOk ds && Nat.ble ds.length 1000 && ds.all partOk
  | _ => true
theorem okB_ok {d : PyData} (h : okB d = true) : okReq d := by
  refine ⟨fun z ds e => ?_, fun ds e => ?_⟩
  · subst e
    have h' : (headOk (.str z :: ds) && Nat.ble (PyData.str z :: ds).length 1000 && (PyData.str z :: ds).all partOk) = true := h
    rw [Bool.and_eq_true, Bool.and_eq_true] at h'
    exact List.elem_iff.mp h'.1.1
  · subst e
    have h' : (headOk ds && Nat.ble ds.length 1000 && ds.all partOk) = true := h
    rw [Bool.and_eq_true, Bool.and_eq_true] at h'
    refine ⟨Nat.le_of_ble_eq_true h'.1.2, fun e he es ee => ?_⟩
    have := List.all_eq_true.mp h'.2 e he
    subst ee
    exact Nat.le_of_ble_eq_true this
def one1 : PyData := .tuple [.int 1]
def bad1 : List PyData := [.none, .tuple [], .tuple [.str "make", one1], .tuple [.str "make", .tuple [.int 0], .str "dir"], .tuple [.str "make", .list [.int 1], .str "dir"], .tuple [.str "make", one1, .str "link"], .tuple [.str "put", one1, .int 0, .tuple []]]
def bad2 : List PyData := [.tuple [.str "put", one1, .int 49, one1], .tuple [.str "put", one1, .int 0, .tuple [.int (-1)]], .tuple [.str "get", one1, .bool true, .int 1], .tuple [.str "shrink", one1, .int (-1)], .tuple [.str "size", .tuple [.int 4294967296]]]
def bad3 : List PyData := [.list [.str "size", one1], .tuple [.str "sync"], .tuple [.str "put", one1, .int 0, .tuple (List.replicate 49 (.int 1))], .tuple [.str "list", one1, .int 0]]
theorem bad_all : ((bad1 ++ bad2 ++ bad3).all fun d => okB d && !isReq d) = true := by decide +kernel
theorem bad_one {d : PyData} (h : d ∈ bad1 ++ bad2 ++ bad3) : okReq d ∧ isReq d = false := by
  have := List.all_eq_true.mp bad_all d h
  rw [Bool.and_eq_true] at this
  exact ⟨okB_ok this.1, by simpa using this.2⟩
section
variable {P : Program} {w : World} {K : PySem.W.Frag} {mg : Str → Option Value} {base : Heap} {A_PARTS : Addr}
abbrev s_law : Stmt := topS 37
abbrev ns_law : List Str := ["script", "tape", "tree", "parts", "kept", "turn", "request", "before", "bad", "one"]
theorem sc_law : FnScope ns_law ["script"] (defScope s_law) := ⟨rfl, rfl, rfl, by decide +kernel, rfl, by decide +kernel, by decide +kernel⟩

theorem ok_law {f : Addr} {fd : FuncData} (F : Fun K "law" "law" s_law f fd) (T : Txt K mg  w A_PARTS) (D_new_tree : Dfn P w K mg base CX0 1 "new_tree" [] spNew) (D_copied : Dfn P w K mg base CX0 2 "copied" ["tree"] spCopied) (D_law_next : Dfn P w K mg base CX0 1 "_law_next" ["tape", "many"] spNext) (D_law_request : Dfn P w K mg base CX0 3 "_law_request" ["tape"] spRequest)
    (D_is_request : Dfn P w K mg base CX0 6 "is_request" ["value"] spReq) (D_law_flat : Dfn P w K mg base CX0 5 "_law_flat" ["tree", "path", "found"] (spFlat 3)) (D_ask : Dfn P w K mg base CX0 4 "ask" ["tree", "request"] spAsk) (D_law_due : Dfn P w K mg base CX0 2 "_law_due" ["parts", "request"] spDue) : FnOk P w K mg base CX0 7 f fd ["script"] (spLaw K) := by
  refine F.ok sc_law (fun vs H Q E h => ?_) (fun cdv A outer s H vs Q E hr h => ?_)
  · obtain ⟨a, ns, rfl, _⟩ := h
    rfl
  · obtain ⟨a, ns, rfl, hS, k⟩ := h
    refine ⟨_, (pss_cons (ps_set (i := 1) sc_law.nd rfl (Or.inl rfl) (pe_lst (pa_cons (pe_callTy (kListOf K) (by rfl) T.b_list (by decide +kernel) (pa_cons (pv 0) pa_nil)) (pa_cons pe_int (pa_cons pe_int (pa_cons pe_int pa_nil))))))
  (pss_cons (ps_set (i := 2) sc_law.nd rfl (Or.inl rfl) (pe_dcall0 D_new_tree (hr.mono (by decide)) (by rfl) pass0))
  (pss_cons (ps_set (i := 3) sc_law.nd rfl (Or.inl rfl) (pe_disp1T (units1 hr) (pe_tup pa_nil) pe_str))
  (pss_cons (ps_set (i := 4) sc_law.nd rfl (Or.inl rfl) (pe_dcall D_copied (hr.mono (by decide)) (by rfl) pass0 (pa_cons (pv 2) pa_nil)))
  (pss_cons (ps_for PassesOwn.never (by rfl) (pi_range1 (by rfl) T.b_range (pa_cons (pe_dcall D_law_next (hr.mono (by decide)) (by rfl) pass0 (pa_cons (pv 1) (pa_cons pe_int pa_nil))) pa_nil)) (pg_name (i := 5) sc_law.nd rfl (Or.inl rfl)) (pss_cons (ps_set (i := 6) sc_law.nd rfl (Or.inl rfl) (pe_dcall D_law_request (hr.mono (by decide)) (by rfl) pass0 (pa_cons (pv 1) pa_nil)))
  (pss_cons (ps_if (pt_cmpR op_isnot_bl (pe_dcall D_is_request (hr.mono (by decide)) (by rfl) pass0 (pa_cons (pv 6) pa_nil)) pe_bl (nomark _)) (pss_one (ps_ret pe_bl)) pss_nil)
  (C8.pss_cut (ps_if (pt_cmpR op_eq (pe_dcall D_law_next (hr.mono (by decide)) (by rfl) pass0 (pa_cons (pv 1) (pa_cons pe_int pa_nil))) pe_int (nomark _)) (pss_cons (ps_set (i := 4) sc_law.nd rfl (Or.inl rfl) (pe_dcall D_copied (hr.mono (by decide)) (by rfl) pass0 (pa_cons (pv 2) pa_nil)))
  (pss_cons (ps_set (i := 7) sc_law.nd rfl (Or.inl rfl) (pe_callTy (call_dictT (units2 hr)) (by rfl) T.b_dict (by decide +kernel) (pa_cons (pv 3) pa_nil)))
  (pss_one (ps_if (pt_cmpR (op_neDT K (units71 hr)) (pe_dcall D_law_flat (hr.mono (by decide)) (by rfl) pass0 (pa_cons (pv 4) (pa_cons (pe_tup pa_nil) (pa_cons pe_dnewT pa_nil)))) (pv 7) (nomark _)) (pss_one (ps_ret pe_bl)) pss_nil)))) pss_nil)
  (pss_one (ps_if (PW.pt (pw_or (pt_cmpR (kNeD K hr.units) (pe_dcall D_ask (hr.mono (by decide)) (by rfl) pass0 (pa_cons (pv 2) (pa_cons (pv 6) pa_nil))) (pe_dcall D_law_due (hr.mono (by decide)) (by rfl) pass0 (pa_cons (pv 3) (pa_cons (pv 6) pa_nil))) (nomark _)) (pw_or1 (pt_cmpR (op_neDT K (units71 hr)) (pe_dcall D_law_flat (hr.mono (by decide)) (by rfl) pass0 (pa_cons (pv 2) (pa_cons (pe_tup pa_nil) (pa_cons pe_dnewT pa_nil)))) (pv 3) (nomark _))))) (pss_one (ps_ret pe_bl)) pss_nil))))))
  (pss_cons (ps_set (i := 8) sc_law.nd rfl (Or.inl rfl) (pe_lst (pa_cons pe_non (pa_cons (pe_tup pa_nil) (pa_cons (pe_tup (pa_cons pe_str (pa_cons (pe_tup (pa_cons pe_int pa_nil)) pa_nil))) (pa_cons (pe_tup (pa_cons pe_str (pa_cons (pe_tup (pa_cons pe_int pa_nil)) (pa_cons pe_str pa_nil)))) (pa_cons (pe_tup (pa_cons pe_str (pa_cons (pe_lst (pa_cons pe_int pa_nil)) (pa_cons pe_str pa_nil)))) (pa_cons (pe_tup (pa_cons pe_str (pa_cons (pe_tup (pa_cons pe_int pa_nil)) (pa_cons pe_str pa_nil)))) (pa_cons (pe_tup (pa_cons pe_str (pa_cons (pe_tup (pa_cons pe_int pa_nil)) (pa_cons pe_int (pa_cons (pe_tup pa_nil) pa_nil))))) pa_nil)))))))))
  (pss_cons (ps_set (i := 8) sc_law.nd rfl (Or.inl rfl) (pe_op op_cat (pv 8) (pe_lst (pa_cons (pe_tup (pa_cons pe_str (pa_cons (pe_tup (pa_cons pe_int pa_nil)) (pa_cons pe_int (pa_cons (pe_tup (pa_cons pe_int pa_nil)) pa_nil))))) (pa_cons (pe_tup (pa_cons pe_str (pa_cons (pe_tup (pa_cons pe_int pa_nil)) (pa_cons pe_int (pa_cons (pe_tup (pa_cons (pe_un un_neg pe_int) pa_nil)) pa_nil))))) (pa_cons (pe_tup (pa_cons pe_str (pa_cons (pe_tup (pa_cons pe_int pa_nil)) (pa_cons pe_bl (pa_cons pe_int pa_nil))))) (pa_cons (pe_tup (pa_cons pe_str (pa_cons (pe_tup (pa_cons pe_int pa_nil)) (pa_cons (pe_un un_neg pe_int) pa_nil)))) (pa_cons (pe_tup (pa_cons pe_str (pa_cons (pe_tup (pa_cons (pe_op op_pow pe_int pe_int) pa_nil)) pa_nil))) pa_nil))))))))
  (pss_cons (ps_set (i := 8) sc_law.nd rfl (Or.inl rfl) (pe_op op_cat (pv 8) (pe_lst (pa_cons (pe_lst (pa_cons pe_str (pa_cons (pe_tup (pa_cons pe_int pa_nil)) pa_nil))) (pa_cons (pe_tup (pa_cons pe_str pa_nil)) (pa_cons (pe_tup (pa_cons pe_str (pa_cons (pe_tup (pa_cons pe_int pa_nil)) (pa_cons pe_int (pa_cons (pe_op op_repT (pe_tup (pa_cons pe_int pa_nil)) pe_int) pa_nil))))) (pa_cons (pe_tup (pa_cons pe_str (pa_cons (pe_tup (pa_cons pe_int pa_nil)) (pa_cons pe_int pa_nil)))) pa_nil)))))))
  (pss_one (ps_ret (pe_cmpR op_eq (pe_callB (kLen K) (by rfl) T.b_len (by decide +kernel) (pa_cons (pe_lc (own := [("one", 9)]) (by rfl) sc_law.nd (kpiL K (pv 8)) (blkOk_by (N := ns_law) (sc := defScope s_law) (by decide +kernel)) (fun _ _ _ _ _ => (pg_name (i := 9) sc_law.nd rfl (Or.inl rfl))) (fun _ _ _ _ _ => (pts_one (pt_cmpR op_isnot_bl (pe_dcall D_is_request (hr.mono (by decide)) (by rfl) pass0 (pa_cons (pv 9) pa_nil)) pe_bl (nomark _)))) (fun _ _ _ _ _ => (pv 9))) pa_nil)) pe_int (nomark _)))))))))))), ?_⟩
    refine ⟨_, rfl, _, _, rfl, .inl hS, fun p hp => ⟨szl rfl, fun tp htp => ?_⟩⟩
    have T0 : Tape (upd (upd H p (.lst (ns.map V.int))) tp (.lst [.ref p, .int 0, .int 0, .int 9])) tp p :=
      ⟨ns, 0, 0, 9, upd_same, Same.new htp _ _ upd_same, by decide, by decide, by decide, by decide⟩
    generalize upd (upd H p (.lst (ns.map V.int))) tp (.lst [.ref p, .int 0, .int 0, .int 9]) = G0 at T0
    refine ⟨rfl, fun tr d hd1 htr hd G1 s1 g1 g2 => ?_⟩
    have t1 : TR G1 tr (fun p => if p = [] then some (.dir []) else none) ⟨fun _ => tr, fun _ => d⟩ := by
      have e1 : ∀ p x, (if p = ([] : List Int) then some (Part.dir []) else none) = some x → p = [] ∧ x = .dir [] := fun p x e => by
        by_cases z : p = []
        · rw [if_pos z] at e; cases e; exact ⟨z, rfl⟩
        · rw [if_neg z] at e; cases e
      have e2 : ∀ p, (if p = ([] : List Int) then some (Part.dir []) else none).isSome = true → p = [] := fun p e => by
        by_cases z : p = []
        · exact z
        · rw [if_neg z] at e; cases e
      refine ⟨rfl, ⟨[], if_pos rfl⟩, fun p ns e => ?_, fun p ws e => ?_, fun p n e => ?_, fun p q h1 h2 _ => by rw [e2 p h1, e2 q h2], fun p q h1 h2 _ => by rw [e2 p h1, e2 q h2], fun p q h1 h2 => hd1⟩
      · obtain ⟨rfl, z⟩ := e1 p _ e
        cases z
        exact ⟨g1, g2, List.nodup_nil, by decide, fun n => ⟨fun z => (by cases z), fun z => (by have := e2 _ z; simp at this)⟩⟩
      · obtain ⟨_, z⟩ := e1 p _ e
        cases z
      · have := e2 _ e
        simp at this
    have tape1 := T0.same s1
    have bx1 : Box (fun p => if p = ([] : List Int) then some (.dir []) else none) := fun p hp => by
      by_cases z : p = []
      · rw [z]; exact ⟨by decide, fun n hn => by cases hn⟩
      · have hp : (if p = ([] : List Int) then some (Part.dir []) else none).isSome = true := hp
        rw [if_neg z] at hp; cases hp
    have own1 : ∀ b, Own (fun p => if p = ([] : List Int) then some (.dir []) else none) ⟨fun _ => tr, fun _ => d⟩ b → b ≠ p := fun b hb e => by
      rcases t1.kind hb with ⟨kvs, z⟩ | ⟨ws, z⟩
      · obtain ⟨us, i, r, zz, _, hs, _⟩ := tape1
        rw [e, hs] at z; cases z
      · obtain ⟨_, _, hb⟩ := hb
        rcases hb with hb | hb
        · have hb : b = tr := hb
          rw [hb, g1] at z; cases z
        · have hb : b = d := hb
          rw [hb, g2] at z; cases z
    have li1 : ∀ pa G, Same G1 G → G pa = some (.dT [([], .str "dir")]) → LI G tp p tr pa := fun pa G s h => by
      refine ⟨tape1.same s, _, _, fun _ => tr, [[]], t1.same s, ⟨h, by simp, fun q => ?_, fun q w e => ?_⟩, bx1, own1, fun q w e => ?_⟩
      · by_cases z : q = []
        · rw [z]; simp
        · simp [z]
      · by_cases z : q = []
        · rw [if_pos z] at e; cases e
        · rw [if_neg z] at e; cases e
      · by_cases z : q = []
        · rw [if_pos z] at e; cases e
        · rw [if_neg z] at e; cases e
    refine fun pa hpa => ⟨szl rfl, fun e0 he0 => ?_⟩
    refine ⟨e0, [], .str "dir", rfl, Same.new he0 _ _ upd_same, upd_same, ?_⟩
    have li2 := li1 pa (upd (upd (upd G1 pa (.dT [])) e0 (.tup [])) pa (.dT [([], .str "dir")])) (Same.mut ((Same.new hpa).trans (Same.new he0)) hpa) upd_same
    generalize upd (upd (upd G1 pa (.dT [])) e0 (.tup [])) pa (.dT [([], .str "dir")]) = G2 at li2
    clear li1 own1 bx1 tape1 t1
    obtain ⟨F2, α2, β2, ps2, t2, _, bx2, _, _⟩ := id li2.st
    refine ⟨_, rfl, tr, F2, α2, rfl, t2, bx2.nodes, fun c β' G3 s3 hc t3 own3 => ?_⟩
    have li3 := li2.same s3
    refine ⟨_, rfl, tp, p, 60, rfl, by decide, by decide, li3.tape, fun nn G4 n0 n60 t4 c4 => ?_⟩
    have li4 := li3.chg t4 c4
    refine ⟨_, rfl, by omega, by omega, for_range (fun i σ G => ∃ v4 v5 v6 v7 : Option V, σ = [some (.ref a), some (.ref tp), some (.ref tr), some (.ref pa), v4, v5, v6, v7, none, none] ∧ LI G tp p tr pa) ?_ ?_ ?_⟩
    · exact ⟨_, none, none, none, rfl, li4⟩
    · rintro i σ G hi ⟨v4, v5, v6, v7, rfl, li⟩
      refine ⟨_, rfl, tp, p, rfl, li.tape, fun rv q r G5 hrq gp gr t5 c5 => ?_⟩
      have li5 := li.chg t5 c5
      refine ⟨_, rfl, rv, rqD q r, rfl, hrq, okReq_rq gp gr, fun G6 s6 => ?_⟩
      rw [isReq_ok gp gr]
      refine ⟨_, _, rfl, rfl, _, rfl, iteF ?_⟩
      have li6 := li5.same s6
      have hrq6 := hrq.same s6
      refine ⟨fun σ G => ∃ v4 v5 v7 : Option V, σ = [some (.ref a), some (.ref tp), some (.ref tr), some (.ref pa), v4, v5, some rv, v7, none, none] ∧ LI G tp p tr pa ∧ Dt G rv (rqD q r), ?_, ?_⟩
      · refine ⟨_, rfl, tp, p, 9, rfl, by decide, by decide, li6.tape, fun u G7 u0 u9 t7 c7 => ⟨rfl, _, rfl, iteD (fun hu => ?_) (fun hu => ?_)⟩⟩
        · have li7 := li6.chg t7 c7
          have hrq7 := hrq6.ts (li6.tape.ts c7) tonly_rq
          obtain ⟨F, α, β, ps, t, pr, bx, nso, nb⟩ := id li7.st
          refine ⟨_, rfl, tr, F, α, rfl, t, bx.nodes, fun c β' G8 s8 hc t8 own8 => ?_⟩
          have pr8 := pr.same s8
          refine ⟨_, rfl, pa, _, rfl, pr8.at', bx.hash pr.nd (fun p hp => (pr.mem p).mp hp), fun b hb => ?_⟩
          have s9 := Same.new (o := .dT (ps.map (pent F β))) hb
          have hb9 : (upd G8 b (.dT (ps.map (pent F β)))) b = some (.dT (ps.map (pent F β))) := upd_same
          generalize upd G8 b (.dT (ps.map (pent F β))) = G9 at s9 hb9
          have prb : PR G9 b F β ps := ⟨hb9, pr.nd, pr.mem, fun p w e => s9 _ _ (pr8.ws p w e)⟩
          refine ⟨_, rfl, szl rfl, fun e1 he1 => fun d1 hd1 => ?_⟩
          have sA := Same.new (o := .tup []) he1
          have heA : (upd G9 e1 (.tup [])) e1 = some (.tup []) := upd_same
          generalize upd G9 e1 (.tup []) = GA at sA heA hd1
          refine ⟨_, c, F, β', [], .ref e1, d1, [], by rw [t8.root]; rfl, flat_call ((t8.same s9).same (sA.trans (Same.new hd1))) bx ⟨e1, rfl, Same.new hd1 _ _ heA⟩ upd_same (Same.new hd1) hd1 fun GB ps' sB prf _ => ?_⟩
          refine ⟨_, rfl, ne_parts prf (prb.same (sA.trans sB)) ⟨_, rfl, iteF ?_⟩⟩
          exact ⟨_, _, _, rfl, li7.same (((s8.trans s9).trans sA).trans sB), hrq7.same (((s8.trans s9).trans sA).trans sB)⟩
        · exact ⟨_, _, _, rfl, li6.chg t7 c7, hrq6.ts (li6.tape.ts c7) tonly_rq⟩
      · rintro σ G7 ⟨v4, v5, v7, rfl, li7, hrq7⟩
        obtain ⟨F, α, β, ps, t, pr, bx, nso, nb⟩ := id li7.st
        have tp7 := li7.tape
        refine ⟨_, rfl, _, rfl, tr, F, α, rv, q, r, rfl, t, bx.few t, hrq7, gr.ok, fun d1 G8 α' t8 lf own hd1 => ?_⟩
        have ne_tp : ∀ b, Own F α b → b ≠ tp := fun b hb e => by
          obtain ⟨us, j, r, z, ha, _⟩ := tp7
          rcases t.kind hb with ⟨kvs, w⟩ | ⟨ws, w⟩
          · rw [e, ha] at w; cases w
          · rw [e, ha] at w
            cases ws with
            | nil => cases w
            | cons n r => cases w
        have inO : ∀ q, (F q).isSome = true → Own F α (α.inn q) := fun q h => ⟨q, h, .inr rfl⟩
        have tp8 : Tape G8 tp p := by
          obtain ⟨us, j, r, z, ha, hs, y⟩ := tp7
          exact ⟨us, j, r, z, lf _ _ ha (fun q hq e => ne_tp _ (inO q hq) e.symm), lf _ _ hs (fun q hq e => nso _ (inO q hq) e.symm), y⟩
        have notin : ∀ b o, G7 b = some o → (∀ kvs, o ≠ .dK kvs) → (∀ ws : List Int, o ≠ .lst (ws.map V.int)) → G8 b = some o := fun b o e n1 n2 => lf b o e fun q hq z => by
          rcases t.kind (inO q hq) with ⟨kvs, w⟩ | ⟨ws, w⟩
          · rw [← z, e] at w; exact n1 kvs (Option.some.inj w)
          · rw [← z, e] at w; exact n2 ws (Option.some.inj w)
        have ts78 : TS G7 G8 := fun b xs e => notin b _ e (fun _ z => by cases z) (fun _ z => by cases z)
        have hrq8 := hrq7.ts ts78 tonly_rq
        have pr8 : PR G8 pa F β ps := ⟨notin _ _ pr.at' (fun _ z => by cases z) (fun _ z => by cases z), pr.nd, pr.mem, fun p w e => lf _ _ (pr.ws p w e) fun q hq z => nb p w e (by rw [z]; exact inO q hq)⟩
        have nso8 : ∀ b, Own (due F q r).2 α' b → b ≠ p := fun b hb => by
          rcases own b hb with z | z
          · exact nso b z
          · intro e
            obtain ⟨us, j, r, z', ha, hs, y⟩ := tp7
            rw [e, hs] at z; cases z
        refine ⟨_, rfl, _, rfl, pa, F, β, ps, rv, q, r, rfl, pr8, hrq8, gr.ok, bx.fv t, (by have := gp.1; omega), fun d2 G9 β' ps' pr9 c9 org hd2 => ?_⟩
        have t9 : TR G9 tr (due F q r).2 α' := t8.keep fun b o e w => c9 _ _ (fun z => by
          rcases t8.kind w with ⟨kvs, y⟩ | ⟨ws, y⟩
          · rw [z, pr8.at'] at y; cases y
          · rw [z, pr8.at'] at y; cases y) e
        have tp9 : Tape G9 tp p := by
          obtain ⟨us, j, r, z, ha, hs, y⟩ := tp8
          exact ⟨us, j, r, z, c9 _ _ (ne_of ha pr8.at' (by intro z; cases z)) ha, c9 _ _ (ne_of hs pr8.at' (by intro z; cases z)) hs, y⟩
        have ts89 : TS G8 G9 := fun b xs e => c9 _ _ (ne_of e pr8.at' (by intro z; cases z)) e
        have fd := due_fine (F := F) (p := q) (r := r)
        have hd1' := hd1.ts ts89 fd.1
        have hrq9 := hrq8.ts ts89 tonly_rq
        have bx9 : Box (due F q r).2 := bx.due gp
        have li9 : LI G9 tp p tr pa := ⟨tp9, (due F q r).2, α', β', ps', t9, pr9, bx9, nso8, fun p w e hb => by
          rcases org p w e with ⟨w', e1, e2⟩ | e1
          · rw [e2] at hb
            rcases own _ hb with z | z
            · exact nb p w' e1 z
            · rw [pr.ws p w' e1] at z; cases z
          · obtain ⟨o, ho⟩ := t8.live hb
            rw [ho] at e1; cases e1⟩
        refine ⟨(due F q r).1, (due F q r).1, hd1'.dp, hd2.dp, fd.2, fd.2, _, rfl, ?_⟩
        rw [PySem.SeqAt.eqv_refl _ (SeqAt.canLay_of_shaped fd.2)]
        refine iteF ⟨_, rfl, szl rfl, fun e1 he1 => fun d1 hd1 => ?_⟩
        have sA := Same.new (o := .tup []) he1
        have heA : (upd G9 e1 (.tup [])) e1 = some (.tup []) := upd_same
        generalize upd G9 e1 (.tup []) = GA at sA heA hd1
        refine ⟨_, tr, (due F q r).2, α', [], .ref e1, d1, [], by rw [t9.root]; rfl, flat_call (t9.same (sA.trans (Same.new hd1))) bx9 ⟨e1, rfl, Same.new hd1 _ _ heA⟩ upd_same (Same.new hd1) hd1 fun GB qs sB prf _ => ?_⟩
        refine ⟨_, rfl, ne_parts prf (pr9.same (sA.trans sB)) ⟨_, rfl, iteF ?_⟩⟩
        exact ⟨_, _, _, _, rfl, li9.same (sA.trans sB)⟩
    · rintro σ G ⟨v4, v5, v6, v7, rfl, li⟩
      clear li4 li3 li2 t4 c4 t3 own3 hc s3 t2 bx2
      dsimp only
      refine (go_set (d := .list bad1) ?lit1 fun b1 Ga sa ha => ?_)
      case lit1 => unfold bad1 one1; (repeat first | exact lit_int _ | exact lit_str _ | exact lit_bl _ | exact lit_non | exact lit_nil | exact lit_neg _ | exact lit_pow32 | refine lit_cons ?_ ?_ | refine lit_rep49 ?_ | refine lit_tup ?_ | refine lit_lst ?_)
      refine ⟨_, rfl, go_lst (ds := bad2) ?lit2 fun b2 Gb sb hb => ?_⟩
      case lit2 => unfold bad2 one1; (repeat first | exact lit_int _ | exact lit_str _ | exact lit_bl _ | exact lit_non | exact lit_nil | exact lit_neg _ | exact lit_pow32 | refine lit_cons ?_ ?_ | refine lit_rep49 ?_ | refine lit_tup ?_ | refine lit_lst ?_)
      have ha := ha.same sb
      cases ha with
      | @lst x1 xs1 _ hx1 hs1 =>
      cases hb with
      | @lst x2 xs2 _ hx2 hs2 =>
      have l1 : xs1.length = 7 := hs1.len
      have l2 : xs2.length = 5 := hs2.len
      refine ⟨x1, x2, _, _, rfl, rfl, hx1, hx2, szn (by omega), fun y1 hy1 => ?_⟩
      have sc := Same.new (o := .lst (xs1 ++ xs2)) hy1
      have hs12 := (hs1.append hs2).same sc
      have hyy : (upd Gb y1 (.lst (xs1 ++ xs2))) y1 = some (.lst (xs1 ++ xs2)) := upd_same
      generalize upd Gb y1 (.lst (xs1 ++ xs2)) = Gc at sc hs12 hyy
      refine ⟨_, rfl, go_lst (ds := bad3) ?lit3 fun b3 Gd sd hd3 => ?_⟩
      case lit3 => unfold bad3 one1; (repeat first | exact lit_int _ | exact lit_str _ | exact lit_bl _ | exact lit_non | exact lit_nil | exact lit_neg _ | exact lit_pow32 | refine lit_cons ?_ ?_ | refine lit_rep49 ?_ | refine lit_tup ?_ | refine lit_lst ?_)
      cases hd3 with
      | @lst x3 xs3 _ hx3 hs3 =>
      have l3 : xs3.length = 4 := hs3.len
      refine ⟨y1, x3, _, _, rfl, rfl, sd _ _ hyy, hx3, szn (by rw [List.length_append]; omega), fun y2 hy2 => ?_⟩
      have se := Same.new (o := .lst (xs1 ++ xs2 ++ xs3)) hy2
      have hs123 := ((hs12.same sd).append hs3).same se
      have hyz : (upd Gd y2 (.lst (xs1 ++ xs2 ++ xs3))) y2 = some (.lst (xs1 ++ xs2 ++ xs3)) := upd_same
      generalize upd Gd y2 (.lst (xs1 ++ xs2 ++ xs3)) = Ge at se hs123 hyz
      refine ⟨_, rfl, y2, rfl, ⟨_, SqL.of hyz⟩, fun D hD => lc_list (K := K) (xs := xs1 ++ xs2 ++ xs3) (fun i G => Same Ge G ∧ G D = some (.lst [])) ⟨Same.new hD, upd_same⟩ (fun i G _ h => SqL.of (h.1 _ _ hyz)) ?_ ?_⟩
      · rintro i x Gf hx ⟨sf, hf⟩
        obtain ⟨dd, hdd, hx'⟩ := hs123.getV hx
        obtain ⟨okd, isd⟩ := bad_one (List.mem_of_getElem? hdd)
        refine ⟨rfl, _, rfl, x, dd, rfl, hx'.same sf, okd, fun Gg sg => ?_⟩
        rw [isd]
        refine ⟨_, _, rfl, rfl, _, rfl, ?_⟩
        exact ⟨sf.trans sg, sg _ _ hf⟩
      · rintro Gf ⟨sf, hf⟩
        refine ⟨_, _, rfl, .inl (SqL.of hf), rfl, ?_⟩
        exact k Gf
end
end My

namespace My
open PySem L2
/-! ### what the top has written, and the end -/
/-- an error of the class at S is what an except of S names -/
theorem exm_self {K : PySem.W.Frag} {S : Addr} (h1 : PySem.W.subIn K (.ref S) (.type "BaseException") = some true) (h2 : PySem.W.isClsIn K S = true) (h3 : PySem.W.typeIn K (.ref S) = some (.type "type")) (h4 : PySem.W.subIn K (.ref S) (.ref S) = some true) : PySem.W.exmOne K (.ref S) (.ref S) = some true := by
  have e1 : (PySem.W.subIn K (.ref S) (.type "BaseException") == some true) = true := by rw [h1] <;> rfl
  have e2 : ((PySem.W.clsIn K S).isSome && PySem.W.typeIn K (.ref S) == some (.type "type")) = true := by
    have h2' : (PySem.W.clsIn K S).isSome = true := h2
    rw [h2', h3] <;> rfl
  unfold PySem.W.exmOne PySem.W.kitCls
  refine (if_pos e1).trans ((if_pos e2).trans ?_)
  exact h4
theorem all_mk {l : PySem.W.OpenLaw} {w : World} {K : PySem.W.Frag} {h : Heap} {mg : Str → Option Value} {fa : Addr} (X : K.In h) (G : h.Ns mainGlobals mg) (hfa : mg "law" = some (.ref fa))
    {f_law_next : Addr} {od_law_next an_law_next : Option Addr} {sl_law_next : Array (Option Value)} {oc_law_next kV_law_next dc_law_next pm_law_next cd_law_next ct_law_next : Value}
    {f_is_at_least : Addr} {od_is_at_least an_is_at_least : Option Addr} {sl_is_at_least : Array (Option Value)} {oc_is_at_least kV_is_at_least dc_is_at_least pm_is_at_least cd_is_at_least ct_is_at_least : Value}
    {f_is_between : Addr} {od_is_between an_is_between : Option Addr} {sl_is_between : Array (Option Value)} {oc_is_between kV_is_between dc_is_between pm_is_between cd_is_between ct_is_between : Value}
    {f_is_word : Addr} {od_is_word an_is_word : Option Addr} {sl_is_word : Array (Option Value)} {oc_is_word kV_is_word dc_is_word pm_is_word cd_is_word ct_is_word : Value}
    {f_is_name : Addr} {od_is_name an_is_name : Option Addr} {sl_is_name : Array (Option Value)} {oc_is_name kV_is_name dc_is_name pm_is_name cd_is_name ct_is_name : Value}
    {f_is_number : Addr} {od_is_number an_is_number : Option Addr} {sl_is_number : Array (Option Value)} {oc_is_number kV_is_number dc_is_number pm_is_number cd_is_number ct_is_number : Value}
    {f_is_path : Addr} {od_is_path an_is_path : Option Addr} {sl_is_path : Array (Option Value)} {oc_is_path kV_is_path dc_is_path pm_is_path cd_is_path ct_is_path : Value}
    {f_are_words : Addr} {od_are_words an_are_words : Option Addr} {sl_are_words : Array (Option Value)} {oc_are_words kV_are_words dc_are_words pm_are_words cd_are_words ct_are_words : Value}
    {f_are_none : Addr} {od_are_none an_are_none : Option Addr} {sl_are_none : Array (Option Value)} {oc_are_none kV_are_none dc_are_none pm_are_none cd_are_none ct_are_none : Value}
    {f_is_one_number : Addr} {od_is_one_number an_is_one_number : Option Addr} {sl_is_one_number : Array (Option Value)} {oc_is_one_number kV_is_one_number dc_is_one_number pm_is_one_number cd_is_one_number ct_is_one_number : Value}
    {f_are_two_numbers : Addr} {od_are_two_numbers an_are_two_numbers : Option Addr} {sl_are_two_numbers : Array (Option Value)} {oc_are_two_numbers kV_are_two_numbers dc_are_two_numbers pm_are_two_numbers cd_are_two_numbers ct_are_two_numbers : Value}
    {f_are_place_and_words : Addr} {od_are_place_and_words an_are_place_and_words : Option Addr} {sl_are_place_and_words : Array (Option Value)} {oc_are_place_and_words kV_are_place_and_words dc_are_place_and_words pm_are_place_and_words cd_are_place_and_words ct_are_place_and_words : Value}
    {f_is_one_kind : Addr} {od_is_one_kind an_is_one_kind : Option Addr} {sl_is_one_kind : Array (Option Value)} {oc_is_one_kind kV_is_one_kind dc_is_one_kind pm_is_one_kind cd_is_one_kind ct_is_one_kind : Value}
    {f_is_request : Addr} {od_is_request an_is_request : Option Addr} {sl_is_request : Array (Option Value)} {oc_is_request kV_is_request dc_is_request pm_is_request cd_is_request ct_is_request : Value}
    {f_is_directory : Addr} {od_is_directory an_is_directory : Option Addr} {sl_is_directory : Array (Option Value)} {oc_is_directory kV_is_directory dc_is_directory pm_is_directory cd_is_directory ct_is_directory : Value}
    {f_part_at : Addr} {od_part_at an_part_at : Option Addr} {sl_part_at : Array (Option Value)} {oc_part_at kV_part_at dc_part_at pm_part_at cd_part_at ct_part_at : Value}
    {f_new_tree : Addr} {od_new_tree an_new_tree : Option Addr} {sl_new_tree : Array (Option Value)} {oc_new_tree kV_new_tree dc_new_tree pm_new_tree cd_new_tree ct_new_tree : Value}
    {f_list : Addr} {od_list an_list : Option Addr} {sl_list : Array (Option Value)} {oc_list kV_list dc_list pm_list cd_list ct_list : Value}
    {f_put : Addr} {od_put an_put : Option Addr} {sl_put : Array (Option Value)} {oc_put kV_put dc_put pm_put cd_put ct_put : Value}
    {f_make : Addr} {od_make an_make : Option Addr} {sl_make : Array (Option Value)} {oc_make kV_make dc_make pm_make cd_make ct_make : Value}
    {f_drop : Addr} {od_drop an_drop : Option Addr} {sl_drop : Array (Option Value)} {oc_drop kV_drop dc_drop pm_drop cd_drop ct_drop : Value}
    {f_ask_file : Addr} {od_ask_file an_ask_file : Option Addr} {sl_ask_file : Array (Option Value)} {oc_ask_file kV_ask_file dc_ask_file pm_ask_file cd_ask_file ct_ask_file : Value}
    {f_ask : Addr} {od_ask an_ask : Option Addr} {sl_ask : Array (Option Value)} {oc_ask kV_ask dc_ask pm_ask cd_ask ct_ask : Value}
    {f_copied : Addr} {od_copied an_copied : Option Addr} {sl_copied : Array (Option Value)} {oc_copied kV_copied dc_copied pm_copied cd_copied ct_copied : Value}
    {f_law_flat : Addr} {od_law_flat an_law_flat : Option Addr} {sl_law_flat : Array (Option Value)} {oc_law_flat kV_law_flat dc_law_flat pm_law_flat cd_law_flat ct_law_flat : Value}
    {f_law_names : Addr} {od_law_names an_law_names : Option Addr} {sl_law_names : Array (Option Value)} {oc_law_names kV_law_names dc_law_names pm_law_names cd_law_names ct_law_names : Value}
    {f_law_file : Addr} {od_law_file an_law_file : Option Addr} {sl_law_file : Array (Option Value)} {oc_law_file kV_law_file dc_law_file pm_law_file cd_law_file ct_law_file : Value}
    {f_law_due : Addr} {od_law_due an_law_due : Option Addr} {sl_law_due : Array (Option Value)} {oc_law_due kV_law_due dc_law_due pm_law_due cd_law_due ct_law_due : Value}
    {f_law_path : Addr} {od_law_path an_law_path : Option Addr} {sl_law_path : Array (Option Value)} {oc_law_path kV_law_path dc_law_path pm_law_path cd_law_path ct_law_path : Value}
    {f_law_request : Addr} {od_law_request an_law_request : Option Addr} {sl_law_request : Array (Option Value)} {oc_law_request kV_law_request dc_law_request pm_law_request cd_law_request ct_law_request : Value}
    {f_law : Addr} {od_law an_law : Option Addr} {sl_law : Array (Option Value)} {oc_law kV_law dc_law pm_law cd_law ct_law : Value}
    {A_PARTS : Addr} {n_PARTS : Nat} {es_PARTS : Array DictEntry}
    {t_MOST_WORDS : Tok}
    {t_TOP : Tok}
    (a_law_next : PySem.W.nsIn K mainGlobals "_law_next" = some (some (.ref f_law_next)))
    (l_law_next : K.lookup f_law_next = some ⟨oc_law_next, od_law_next, .func (PySem.W.fnOf "_law_next" "_law_next" (defArgs s_law_next) (defBody s_law_next) (defScope s_law_next) .none kV_law_next dc_law_next pm_law_next an_law_next cd_law_next ct_law_next), sl_law_next⟩)
    (q_law_next : PySem.W.codeIn K cd_law_next "_law_next" = true)
    (k_law_next : PySem.W.keepIn K (.ref f_law_next) = true)
    (a_is_at_least : PySem.W.nsIn K mainGlobals "is_at_least" = some (some (.ref f_is_at_least)))
    (l_is_at_least : K.lookup f_is_at_least = some ⟨oc_is_at_least, od_is_at_least, .func (PySem.W.fnOf "is_at_least" "is_at_least" (defArgs s_is_at_least) (defBody s_is_at_least) (defScope s_is_at_least) .none kV_is_at_least dc_is_at_least pm_is_at_least an_is_at_least cd_is_at_least ct_is_at_least), sl_is_at_least⟩)
    (q_is_at_least : PySem.W.codeIn K cd_is_at_least "is_at_least" = true)
    (k_is_at_least : PySem.W.keepIn K (.ref f_is_at_least) = true)
    (a_is_between : PySem.W.nsIn K mainGlobals "is_between" = some (some (.ref f_is_between)))
    (l_is_between : K.lookup f_is_between = some ⟨oc_is_between, od_is_between, .func (PySem.W.fnOf "is_between" "is_between" (defArgs s_is_between) (defBody s_is_between) (defScope s_is_between) .none kV_is_between dc_is_between pm_is_between an_is_between cd_is_between ct_is_between), sl_is_between⟩)
    (q_is_between : PySem.W.codeIn K cd_is_between "is_between" = true)
    (k_is_between : PySem.W.keepIn K (.ref f_is_between) = true)
    (a_is_word : PySem.W.nsIn K mainGlobals "is_word" = some (some (.ref f_is_word)))
    (l_is_word : K.lookup f_is_word = some ⟨oc_is_word, od_is_word, .func (PySem.W.fnOf "is_word" "is_word" (defArgs s_is_word) (defBody s_is_word) (defScope s_is_word) .none kV_is_word dc_is_word pm_is_word an_is_word cd_is_word ct_is_word), sl_is_word⟩)
    (q_is_word : PySem.W.codeIn K cd_is_word "is_word" = true)
    (k_is_word : PySem.W.keepIn K (.ref f_is_word) = true)
    (a_is_name : PySem.W.nsIn K mainGlobals "is_name" = some (some (.ref f_is_name)))
    (l_is_name : K.lookup f_is_name = some ⟨oc_is_name, od_is_name, .func (PySem.W.fnOf "is_name" "is_name" (defArgs s_is_name) (defBody s_is_name) (defScope s_is_name) .none kV_is_name dc_is_name pm_is_name an_is_name cd_is_name ct_is_name), sl_is_name⟩)
    (q_is_name : PySem.W.codeIn K cd_is_name "is_name" = true)
    (k_is_name : PySem.W.keepIn K (.ref f_is_name) = true)
    (a_is_number : PySem.W.nsIn K mainGlobals "_is_number" = some (some (.ref f_is_number)))
    (l_is_number : K.lookup f_is_number = some ⟨oc_is_number, od_is_number, .func (PySem.W.fnOf "_is_number" "_is_number" (defArgs s_is_number) (defBody s_is_number) (defScope s_is_number) .none kV_is_number dc_is_number pm_is_number an_is_number cd_is_number ct_is_number), sl_is_number⟩)
    (q_is_number : PySem.W.codeIn K cd_is_number "_is_number" = true)
    (k_is_number : PySem.W.keepIn K (.ref f_is_number) = true)
    (a_is_path : PySem.W.nsIn K mainGlobals "_is_path" = some (some (.ref f_is_path)))
    (l_is_path : K.lookup f_is_path = some ⟨oc_is_path, od_is_path, .func (PySem.W.fnOf "_is_path" "_is_path" (defArgs s_is_path) (defBody s_is_path) (defScope s_is_path) .none kV_is_path dc_is_path pm_is_path an_is_path cd_is_path ct_is_path), sl_is_path⟩)
    (q_is_path : PySem.W.codeIn K cd_is_path "_is_path" = true)
    (k_is_path : PySem.W.keepIn K (.ref f_is_path) = true)
    (a_are_words : PySem.W.nsIn K mainGlobals "_are_words" = some (some (.ref f_are_words)))
    (l_are_words : K.lookup f_are_words = some ⟨oc_are_words, od_are_words, .func (PySem.W.fnOf "_are_words" "_are_words" (defArgs s_are_words) (defBody s_are_words) (defScope s_are_words) .none kV_are_words dc_are_words pm_are_words an_are_words cd_are_words ct_are_words), sl_are_words⟩)
    (q_are_words : PySem.W.codeIn K cd_are_words "_are_words" = true)
    (k_are_words : PySem.W.keepIn K (.ref f_are_words) = true)
    (a_are_none : PySem.W.nsIn K mainGlobals "_are_none" = some (some (.ref f_are_none)))
    (l_are_none : K.lookup f_are_none = some ⟨oc_are_none, od_are_none, .func (PySem.W.fnOf "_are_none" "_are_none" (defArgs s_are_none) (defBody s_are_none) (defScope s_are_none) .none kV_are_none dc_are_none pm_are_none an_are_none cd_are_none ct_are_none), sl_are_none⟩)
    (q_are_none : PySem.W.codeIn K cd_are_none "_are_none" = true)
    (k_are_none : PySem.W.keepIn K (.ref f_are_none) = true)
    (a_is_one_number : PySem.W.nsIn K mainGlobals "_is_one_number" = some (some (.ref f_is_one_number)))
    (l_is_one_number : K.lookup f_is_one_number = some ⟨oc_is_one_number, od_is_one_number, .func (PySem.W.fnOf "_is_one_number" "_is_one_number" (defArgs s_is_one_number) (defBody s_is_one_number) (defScope s_is_one_number) .none kV_is_one_number dc_is_one_number pm_is_one_number an_is_one_number cd_is_one_number ct_is_one_number), sl_is_one_number⟩)
    (q_is_one_number : PySem.W.codeIn K cd_is_one_number "_is_one_number" = true)
    (k_is_one_number : PySem.W.keepIn K (.ref f_is_one_number) = true)
    (a_are_two_numbers : PySem.W.nsIn K mainGlobals "_are_two_numbers" = some (some (.ref f_are_two_numbers)))
    (l_are_two_numbers : K.lookup f_are_two_numbers = some ⟨oc_are_two_numbers, od_are_two_numbers, .func (PySem.W.fnOf "_are_two_numbers" "_are_two_numbers" (defArgs s_are_two_numbers) (defBody s_are_two_numbers) (defScope s_are_two_numbers) .none kV_are_two_numbers dc_are_two_numbers pm_are_two_numbers an_are_two_numbers cd_are_two_numbers ct_are_two_numbers), sl_are_two_numbers⟩)
    (q_are_two_numbers : PySem.W.codeIn K cd_are_two_numbers "_are_two_numbers" = true)
    (k_are_two_numbers : PySem.W.keepIn K (.ref f_are_two_numbers) = true)
    (a_are_place_and_words : PySem.W.nsIn K mainGlobals "_are_place_and_words" = some (some (.ref f_are_place_and_words)))
    (l_are_place_and_words : K.lookup f_are_place_and_words = some ⟨oc_are_place_and_words, od_are_place_and_words, .func (PySem.W.fnOf "_are_place_and_words" "_are_place_and_words" (defArgs s_are_place_and_words) (defBody s_are_place_and_words) (defScope s_are_place_and_words) .none kV_are_place_and_words dc_are_place_and_words pm_are_place_and_words an_are_place_and_words cd_are_place_and_words ct_are_place_and_words), sl_are_place_and_words⟩)
    (q_are_place_and_words : PySem.W.codeIn K cd_are_place_and_words "_are_place_and_words" = true)
    (k_are_place_and_words : PySem.W.keepIn K (.ref f_are_place_and_words) = true)
    (a_is_one_kind : PySem.W.nsIn K mainGlobals "_is_one_kind" = some (some (.ref f_is_one_kind)))
    (l_is_one_kind : K.lookup f_is_one_kind = some ⟨oc_is_one_kind, od_is_one_kind, .func (PySem.W.fnOf "_is_one_kind" "_is_one_kind" (defArgs s_is_one_kind) (defBody s_is_one_kind) (defScope s_is_one_kind) .none kV_is_one_kind dc_is_one_kind pm_is_one_kind an_is_one_kind cd_is_one_kind ct_is_one_kind), sl_is_one_kind⟩)
    (q_is_one_kind : PySem.W.codeIn K cd_is_one_kind "_is_one_kind" = true)
    (k_is_one_kind : PySem.W.keepIn K (.ref f_is_one_kind) = true)
    (a_is_request : PySem.W.nsIn K mainGlobals "is_request" = some (some (.ref f_is_request)))
    (l_is_request : K.lookup f_is_request = some ⟨oc_is_request, od_is_request, .func (PySem.W.fnOf "is_request" "is_request" (defArgs s_is_request) (defBody s_is_request) (defScope s_is_request) .none kV_is_request dc_is_request pm_is_request an_is_request cd_is_request ct_is_request), sl_is_request⟩)
    (q_is_request : PySem.W.codeIn K cd_is_request "is_request" = true)
    (k_is_request : PySem.W.keepIn K (.ref f_is_request) = true)
    (a_is_directory : PySem.W.nsIn K mainGlobals "is_directory" = some (some (.ref f_is_directory)))
    (l_is_directory : K.lookup f_is_directory = some ⟨oc_is_directory, od_is_directory, .func (PySem.W.fnOf "is_directory" "is_directory" (defArgs s_is_directory) (defBody s_is_directory) (defScope s_is_directory) .none kV_is_directory dc_is_directory pm_is_directory an_is_directory cd_is_directory ct_is_directory), sl_is_directory⟩)
    (q_is_directory : PySem.W.codeIn K cd_is_directory "is_directory" = true)
    (k_is_directory : PySem.W.keepIn K (.ref f_is_directory) = true)
    (a_part_at : PySem.W.nsIn K mainGlobals "part_at" = some (some (.ref f_part_at)))
    (l_part_at : K.lookup f_part_at = some ⟨oc_part_at, od_part_at, .func (PySem.W.fnOf "part_at" "part_at" (defArgs s_part_at) (defBody s_part_at) (defScope s_part_at) .none kV_part_at dc_part_at pm_part_at an_part_at cd_part_at ct_part_at), sl_part_at⟩)
    (q_part_at : PySem.W.codeIn K cd_part_at "part_at" = true)
    (k_part_at : PySem.W.keepIn K (.ref f_part_at) = true)
    (a_new_tree : PySem.W.nsIn K mainGlobals "new_tree" = some (some (.ref f_new_tree)))
    (l_new_tree : K.lookup f_new_tree = some ⟨oc_new_tree, od_new_tree, .func (PySem.W.fnOf "new_tree" "new_tree" (defArgs s_new_tree) (defBody s_new_tree) (defScope s_new_tree) .none kV_new_tree dc_new_tree pm_new_tree an_new_tree cd_new_tree ct_new_tree), sl_new_tree⟩)
    (q_new_tree : PySem.W.codeIn K cd_new_tree "new_tree" = true)
    (k_new_tree : PySem.W.keepIn K (.ref f_new_tree) = true)
    (a_list : PySem.W.nsIn K mainGlobals "_list" = some (some (.ref f_list)))
    (l_list : K.lookup f_list = some ⟨oc_list, od_list, .func (PySem.W.fnOf "_list" "_list" (defArgs s_list) (defBody s_list) (defScope s_list) .none kV_list dc_list pm_list an_list cd_list ct_list), sl_list⟩)
    (q_list : PySem.W.codeIn K cd_list "_list" = true)
    (k_list : PySem.W.keepIn K (.ref f_list) = true)
    (a_put : PySem.W.nsIn K mainGlobals "_put" = some (some (.ref f_put)))
    (l_put : K.lookup f_put = some ⟨oc_put, od_put, .func (PySem.W.fnOf "_put" "_put" (defArgs s_put) (defBody s_put) (defScope s_put) .none kV_put dc_put pm_put an_put cd_put ct_put), sl_put⟩)
    (q_put : PySem.W.codeIn K cd_put "_put" = true)
    (k_put : PySem.W.keepIn K (.ref f_put) = true)
    (a_make : PySem.W.nsIn K mainGlobals "_make" = some (some (.ref f_make)))
    (l_make : K.lookup f_make = some ⟨oc_make, od_make, .func (PySem.W.fnOf "_make" "_make" (defArgs s_make) (defBody s_make) (defScope s_make) .none kV_make dc_make pm_make an_make cd_make ct_make), sl_make⟩)
    (q_make : PySem.W.codeIn K cd_make "_make" = true)
    (k_make : PySem.W.keepIn K (.ref f_make) = true)
    (a_drop : PySem.W.nsIn K mainGlobals "_drop" = some (some (.ref f_drop)))
    (l_drop : K.lookup f_drop = some ⟨oc_drop, od_drop, .func (PySem.W.fnOf "_drop" "_drop" (defArgs s_drop) (defBody s_drop) (defScope s_drop) .none kV_drop dc_drop pm_drop an_drop cd_drop ct_drop), sl_drop⟩)
    (q_drop : PySem.W.codeIn K cd_drop "_drop" = true)
    (k_drop : PySem.W.keepIn K (.ref f_drop) = true)
    (a_ask_file : PySem.W.nsIn K mainGlobals "_ask_file" = some (some (.ref f_ask_file)))
    (l_ask_file : K.lookup f_ask_file = some ⟨oc_ask_file, od_ask_file, .func (PySem.W.fnOf "_ask_file" "_ask_file" (defArgs s_ask_file) (defBody s_ask_file) (defScope s_ask_file) .none kV_ask_file dc_ask_file pm_ask_file an_ask_file cd_ask_file ct_ask_file), sl_ask_file⟩)
    (q_ask_file : PySem.W.codeIn K cd_ask_file "_ask_file" = true)
    (k_ask_file : PySem.W.keepIn K (.ref f_ask_file) = true)
    (a_ask : PySem.W.nsIn K mainGlobals "ask" = some (some (.ref f_ask)))
    (l_ask : K.lookup f_ask = some ⟨oc_ask, od_ask, .func (PySem.W.fnOf "ask" "ask" (defArgs s_ask) (defBody s_ask) (defScope s_ask) .none kV_ask dc_ask pm_ask an_ask cd_ask ct_ask), sl_ask⟩)
    (q_ask : PySem.W.codeIn K cd_ask "ask" = true)
    (k_ask : PySem.W.keepIn K (.ref f_ask) = true)
    (a_copied : PySem.W.nsIn K mainGlobals "copied" = some (some (.ref f_copied)))
    (l_copied : K.lookup f_copied = some ⟨oc_copied, od_copied, .func (PySem.W.fnOf "copied" "copied" (defArgs s_copied) (defBody s_copied) (defScope s_copied) .none kV_copied dc_copied pm_copied an_copied cd_copied ct_copied), sl_copied⟩)
    (q_copied : PySem.W.codeIn K cd_copied "copied" = true)
    (k_copied : PySem.W.keepIn K (.ref f_copied) = true)
    (a_law_flat : PySem.W.nsIn K mainGlobals "_law_flat" = some (some (.ref f_law_flat)))
    (l_law_flat : K.lookup f_law_flat = some ⟨oc_law_flat, od_law_flat, .func (PySem.W.fnOf "_law_flat" "_law_flat" (defArgs s_law_flat) (defBody s_law_flat) (defScope s_law_flat) .none kV_law_flat dc_law_flat pm_law_flat an_law_flat cd_law_flat ct_law_flat), sl_law_flat⟩)
    (q_law_flat : PySem.W.codeIn K cd_law_flat "_law_flat" = true)
    (k_law_flat : PySem.W.keepIn K (.ref f_law_flat) = true)
    (a_law_names : PySem.W.nsIn K mainGlobals "_law_names" = some (some (.ref f_law_names)))
    (l_law_names : K.lookup f_law_names = some ⟨oc_law_names, od_law_names, .func (PySem.W.fnOf "_law_names" "_law_names" (defArgs s_law_names) (defBody s_law_names) (defScope s_law_names) .none kV_law_names dc_law_names pm_law_names an_law_names cd_law_names ct_law_names), sl_law_names⟩)
    (q_law_names : PySem.W.codeIn K cd_law_names "_law_names" = true)
    (k_law_names : PySem.W.keepIn K (.ref f_law_names) = true)
    (a_law_file : PySem.W.nsIn K mainGlobals "_law_file" = some (some (.ref f_law_file)))
    (l_law_file : K.lookup f_law_file = some ⟨oc_law_file, od_law_file, .func (PySem.W.fnOf "_law_file" "_law_file" (defArgs s_law_file) (defBody s_law_file) (defScope s_law_file) .none kV_law_file dc_law_file pm_law_file an_law_file cd_law_file ct_law_file), sl_law_file⟩)
    (q_law_file : PySem.W.codeIn K cd_law_file "_law_file" = true)
    (k_law_file : PySem.W.keepIn K (.ref f_law_file) = true)
    (a_law_due : PySem.W.nsIn K mainGlobals "_law_due" = some (some (.ref f_law_due)))
    (l_law_due : K.lookup f_law_due = some ⟨oc_law_due, od_law_due, .func (PySem.W.fnOf "_law_due" "_law_due" (defArgs s_law_due) (defBody s_law_due) (defScope s_law_due) .none kV_law_due dc_law_due pm_law_due an_law_due cd_law_due ct_law_due), sl_law_due⟩)
    (q_law_due : PySem.W.codeIn K cd_law_due "_law_due" = true)
    (k_law_due : PySem.W.keepIn K (.ref f_law_due) = true)
    (a_law_path : PySem.W.nsIn K mainGlobals "_law_path" = some (some (.ref f_law_path)))
    (l_law_path : K.lookup f_law_path = some ⟨oc_law_path, od_law_path, .func (PySem.W.fnOf "_law_path" "_law_path" (defArgs s_law_path) (defBody s_law_path) (defScope s_law_path) .none kV_law_path dc_law_path pm_law_path an_law_path cd_law_path ct_law_path), sl_law_path⟩)
    (q_law_path : PySem.W.codeIn K cd_law_path "_law_path" = true)
    (k_law_path : PySem.W.keepIn K (.ref f_law_path) = true)
    (a_law_request : PySem.W.nsIn K mainGlobals "_law_request" = some (some (.ref f_law_request)))
    (l_law_request : K.lookup f_law_request = some ⟨oc_law_request, od_law_request, .func (PySem.W.fnOf "_law_request" "_law_request" (defArgs s_law_request) (defBody s_law_request) (defScope s_law_request) .none kV_law_request dc_law_request pm_law_request an_law_request cd_law_request ct_law_request), sl_law_request⟩)
    (q_law_request : PySem.W.codeIn K cd_law_request "_law_request" = true)
    (k_law_request : PySem.W.keepIn K (.ref f_law_request) = true)
    (a_law : PySem.W.nsIn K mainGlobals "law" = some (some (.ref f_law)))
    (l_law : K.lookup f_law = some ⟨oc_law, od_law, .func (PySem.W.fnOf "law" "law" (defArgs s_law) (defBody s_law) (defScope s_law) .none kV_law dc_law pm_law an_law cd_law ct_law), sl_law⟩)
    (q_law : PySem.W.codeIn K cd_law "law" = true)
    (k_law : PySem.W.keepIn K (.ref f_law) = true)
    (y__PARTS : PySem.W.nsIn K mainGlobals "_PARTS" = some (some (.ref A_PARTS)))
    (l__PARTS : K.lookup A_PARTS = some ⟨.type "dict", none, .dict es_PARTS n_PARTS, #[]⟩)
    (kl__PARTS : PySem.W.KeysLit w.params es_PARTS.toList)
    (lo__PARTS : (A_PARTS == sysModules) = false)
    (p0 : PySem.W.nsIn K A_PARTS "make" = some (some (.ref f_is_one_kind)))
    (p1 : PySem.W.nsIn K A_PARTS "put" = some (some (.ref f_are_place_and_words)))
    (p2 : PySem.W.nsIn K A_PARTS "get" = some (some (.ref f_are_two_numbers)))
    (p3 : PySem.W.nsIn K A_PARTS "size" = some (some (.ref f_are_none)))
    (p4 : PySem.W.nsIn K A_PARTS "shrink" = some (some (.ref f_is_one_number)))
    (p5 : PySem.W.nsIn K A_PARTS "drop" = some (some (.ref f_are_none)))
    (p6 : PySem.W.nsIn K A_PARTS "list" = some (some (.ref f_are_none)))
    (p7 : PySem.W.nsIn K A_PARTS "sync" = some none)
    (z_abs : PySem.W.nsIn K mainGlobals "abs" = some none)
    (z_all : PySem.W.nsIn K mainGlobals "all" = some none)
    (z_bool : PySem.W.nsIn K mainGlobals "bool" = some none)
    (z_dict : PySem.W.nsIn K mainGlobals "dict" = some none)
    (z_int : PySem.W.nsIn K mainGlobals "int" = some none)
    (z_isinstance : PySem.W.nsIn K mainGlobals "isinstance" = some none)
    (z_len : PySem.W.nsIn K mainGlobals "len" = some none)
    (z_list : PySem.W.nsIn K mainGlobals "list" = some none)
    (z_max : PySem.W.nsIn K mainGlobals "max" = some none)
    (z_range : PySem.W.nsIn K mainGlobals "range" = some none)
    (z_sorted : PySem.W.nsIn K mainGlobals "sorted" = some none)
    (z_str : PySem.W.nsIn K mainGlobals "str" = some none)
    (z_tuple : PySem.W.nsIn K mainGlobals "tuple" = some none)
    (y_MOST_WORDS : PySem.W.nsIn K mainGlobals "MOST_WORDS" = some (some (.int 48 t_MOST_WORDS)))
    (y_TOP : PySem.W.nsIn K mainGlobals "TOP" = some (some (.int 4294967295 t_TOP))) :
    ∃ fd : FuncData, (∀ (s : Shared) (v : Value), BindsTo s fd ⟨[v], []⟩ [("script", v)]) ∧ ∀ base : Heap, K.In base → base.Ns mainGlobals mg → FnOk l.prog w K mg base CX0 7 fa fd ["script"] (spLaw K) := by
  have e := hfa.symm.trans (PySem.W.mg_of X G a_law)
  cases e
  have T : Txt K mg w A_PARTS := ⟨PySem.W.mg_none_of X G z_abs, PySem.W.mg_none_of X G z_all, PySem.W.mg_none_of X G z_bool, PySem.W.mg_none_of X G z_dict, PySem.W.mg_none_of X G z_int, PySem.W.mg_none_of X G z_isinstance, PySem.W.mg_none_of X G z_len, PySem.W.mg_none_of X G z_list, PySem.W.mg_none_of X G z_max, PySem.W.mg_none_of X G z_range, PySem.W.mg_none_of X G z_sorted, PySem.W.mg_none_of X G z_str, PySem.W.mg_none_of X G z_tuple, ⟨_, PySem.W.mg_of X G y_MOST_WORDS⟩, ⟨_, PySem.W.mg_of X G y_TOP⟩, PySem.W.mg_of X G y__PARTS, ⟨_, _, l__PARTS⟩, ⟨_, PySem.W.mg_of X G a_is_one_kind, _, _, l__PARTS, kl__PARTS, lo__PARTS, .inl ⟨_, .ref _, p0, rfl, rfl⟩⟩, ⟨_, PySem.W.mg_of X G a_are_place_and_words, _, _, l__PARTS, kl__PARTS, lo__PARTS, .inl ⟨_, .ref _, p1, rfl, rfl⟩⟩, ⟨_, PySem.W.mg_of X G a_are_two_numbers, _, _, l__PARTS, kl__PARTS, lo__PARTS, .inl ⟨_, .ref _, p2, rfl, rfl⟩⟩, ⟨_, PySem.W.mg_of X G a_are_none, _, _, l__PARTS, kl__PARTS, lo__PARTS, .inl ⟨_, .ref _, p3, rfl, rfl⟩⟩, ⟨_, PySem.W.mg_of X G a_is_one_number, _, _, l__PARTS, kl__PARTS, lo__PARTS, .inl ⟨_, .ref _, p4, rfl, rfl⟩⟩, ⟨_, PySem.W.mg_of X G a_are_none, _, _, l__PARTS, kl__PARTS, lo__PARTS, .inl ⟨_, .ref _, p5, rfl, rfl⟩⟩, ⟨_, PySem.W.mg_of X G a_are_none, _, _, l__PARTS, kl__PARTS, lo__PARTS, .inl ⟨_, .ref _, p6, rfl, rfl⟩⟩, ⟨_, _, l__PARTS, kl__PARTS, lo__PARTS, .inr ⟨p7, rfl⟩⟩⟩
  have F_law_next := fun_mk (st := s_law_next) l_law_next q_law_next k_law_next
  have B_law_next := F_law_next.binds (ps := ["tape", "many"]) fun _ _ _ _ _ _ us hl => match us, hl with | [_, _], _ => rfl
  have F_is_at_least := fun_mk (st := s_is_at_least) l_is_at_least q_is_at_least k_is_at_least
  have B_is_at_least := F_is_at_least.binds (ps := ["value", "least"]) fun _ _ _ _ _ _ us hl => match us, hl with | [_, _], _ => rfl
  have F_is_between := fun_mk (st := s_is_between) l_is_between q_is_between k_is_between
  have B_is_between := F_is_between.binds (ps := ["value", "least", "most"]) fun _ _ _ _ _ _ us hl => match us, hl with | [_, _, _], _ => rfl
  have F_is_word := fun_mk (st := s_is_word) l_is_word q_is_word k_is_word
  have B_is_word := F_is_word.binds (ps := ["value"]) fun _ _ _ _ _ _ us hl => match us, hl with | [_], _ => rfl
  have F_is_name := fun_mk (st := s_is_name) l_is_name q_is_name k_is_name
  have B_is_name := F_is_name.binds (ps := ["value"]) fun _ _ _ _ _ _ us hl => match us, hl with | [_], _ => rfl
  have F_is_number := fun_mk (st := s_is_number) l_is_number q_is_number k_is_number
  have B_is_number := F_is_number.binds (ps := ["value"]) fun _ _ _ _ _ _ us hl => match us, hl with | [_], _ => rfl
  have F_is_path := fun_mk (st := s_is_path) l_is_path q_is_path k_is_path
  have B_is_path := F_is_path.binds (ps := ["value"]) fun _ _ _ _ _ _ us hl => match us, hl with | [_], _ => rfl
  have F_are_words := fun_mk (st := s_are_words) l_are_words q_are_words k_are_words
  have B_are_words := F_are_words.binds (ps := ["value"]) fun _ _ _ _ _ _ us hl => match us, hl with | [_], _ => rfl
  have F_are_none := fun_mk (st := s_are_none) l_are_none q_are_none k_are_none
  have B_are_none := F_are_none.binds (ps := ["parts"]) fun _ _ _ _ _ _ us hl => match us, hl with | [_], _ => rfl
  have F_is_one_number := fun_mk (st := s_is_one_number) l_is_one_number q_is_one_number k_is_one_number
  have B_is_one_number := F_is_one_number.binds (ps := ["parts"]) fun _ _ _ _ _ _ us hl => match us, hl with | [_], _ => rfl
  have F_are_two_numbers := fun_mk (st := s_are_two_numbers) l_are_two_numbers q_are_two_numbers k_are_two_numbers
  have B_are_two_numbers := F_are_two_numbers.binds (ps := ["parts"]) fun _ _ _ _ _ _ us hl => match us, hl with | [_], _ => rfl
  have F_are_place_and_words := fun_mk (st := s_are_place_and_words) l_are_place_and_words q_are_place_and_words k_are_place_and_words
  have B_are_place_and_words := F_are_place_and_words.binds (ps := ["parts"]) fun _ _ _ _ _ _ us hl => match us, hl with | [_], _ => rfl
  have F_is_one_kind := fun_mk (st := s_is_one_kind) l_is_one_kind q_is_one_kind k_is_one_kind
  have B_is_one_kind := F_is_one_kind.binds (ps := ["parts"]) fun _ _ _ _ _ _ us hl => match us, hl with | [_], _ => rfl
  have F_is_request := fun_mk (st := s_is_request) l_is_request q_is_request k_is_request
  have B_is_request := F_is_request.binds (ps := ["value"]) fun _ _ _ _ _ _ us hl => match us, hl with | [_], _ => rfl
  have F_is_directory := fun_mk (st := s_is_directory) l_is_directory q_is_directory k_is_directory
  have B_is_directory := F_is_directory.binds (ps := ["part"]) fun _ _ _ _ _ _ us hl => match us, hl with | [_], _ => rfl
  have F_part_at := fun_mk (st := s_part_at) l_part_at q_part_at k_part_at
  have B_part_at := F_part_at.binds (ps := ["tree", "path"]) fun _ _ _ _ _ _ us hl => match us, hl with | [_, _], _ => rfl
  have F_new_tree := fun_mk (st := s_new_tree) l_new_tree q_new_tree k_new_tree
  have B_new_tree := F_new_tree.binds (ps := []) fun _ _ _ _ _ _ us hl => match us, hl with | [], _ => rfl
  have F_list := fun_mk (st := s_list) l_list q_list k_list
  have B_list := F_list.binds (ps := ["part"]) fun _ _ _ _ _ _ us hl => match us, hl with | [_], _ => rfl
  have F_put := fun_mk (st := s_put) l_put q_put k_put
  have B_put := F_put.binds (ps := ["words", "offset", "new"]) fun _ _ _ _ _ _ us hl => match us, hl with | [_, _, _], _ => rfl
  have F_make := fun_mk (st := s_make) l_make q_make k_make
  have B_make := F_make.binds (ps := ["tree", "path", "kind"]) fun _ _ _ _ _ _ us hl => match us, hl with | [_, _, _], _ => rfl
  have F_drop := fun_mk (st := s_drop) l_drop q_drop k_drop
  have B_drop := F_drop.binds (ps := ["tree", "path", "part"]) fun _ _ _ _ _ _ us hl => match us, hl with | [_, _, _], _ => rfl
  have F_ask_file := fun_mk (st := s_ask_file) l_ask_file q_ask_file k_ask_file
  have B_ask_file := F_ask_file.binds (ps := ["words", "word", "parts"]) fun _ _ _ _ _ _ us hl => match us, hl with | [_, _, _], _ => rfl
  have F_ask := fun_mk (st := s_ask) l_ask q_ask k_ask
  have B_ask := F_ask.binds (ps := ["tree", "request"]) fun _ _ _ _ _ _ us hl => match us, hl with | [_, _], _ => rfl
  have F_copied := fun_mk (st := s_copied) l_copied q_copied k_copied
  have B_copied := F_copied.binds (ps := ["tree"]) fun _ _ _ _ _ _ us hl => match us, hl with | [_], _ => rfl
  have F_law_flat := fun_mk (st := s_law_flat) l_law_flat q_law_flat k_law_flat
  have B_law_flat := F_law_flat.binds (ps := ["tree", "path", "found"]) fun _ _ _ _ _ _ us hl => match us, hl with | [_, _, _], _ => rfl
  have F_law_names := fun_mk (st := s_law_names) l_law_names q_law_names k_law_names
  have B_law_names := F_law_names.binds (ps := ["parts", "path"]) fun _ _ _ _ _ _ us hl => match us, hl with | [_, _], _ => rfl
  have F_law_file := fun_mk (st := s_law_file) l_law_file q_law_file k_law_file
  have B_law_file := F_law_file.binds (ps := ["parts", "request"]) fun _ _ _ _ _ _ us hl => match us, hl with | [_, _], _ => rfl
  have F_law_due := fun_mk (st := s_law_due) l_law_due q_law_due k_law_due
  have B_law_due := F_law_due.binds (ps := ["parts", "request"]) fun _ _ _ _ _ _ us hl => match us, hl with | [_, _], _ => rfl
  have F_law_path := fun_mk (st := s_law_path) l_law_path q_law_path k_law_path
  have B_law_path := F_law_path.binds (ps := ["tape"]) fun _ _ _ _ _ _ us hl => match us, hl with | [_], _ => rfl
  have F_law_request := fun_mk (st := s_law_request) l_law_request q_law_request k_law_request
  have B_law_request := F_law_request.binds (ps := ["tape"]) fun _ _ _ _ _ _ us hl => match us, hl with | [_], _ => rfl
  have F_law := fun_mk (st := s_law) l_law q_law k_law
  refine ⟨PySem.W.fnOf "law" "law" (defArgs s_law) (defBody s_law) (defScope s_law) .none kV_law dc_law pm_law an_law cd_law ct_law, fun s v => .of_eq rfl, fun base _ _ => ?_⟩
  have D_law_next : Dfn l.prog w K mg base CX0 1 "_law_next" ["tape", "many"] spNext := ⟨f_law_next, _, ok_law_next F_law_next T , PySem.W.mg_of X G a_law_next, k_law_next, B_law_next⟩
  have D_is_at_least : Dfn l.prog w K mg base CX0 1 "is_at_least" ["value", "least"] spGe := ⟨f_is_at_least, _, ok_is_at_least F_is_at_least T , PySem.W.mg_of X G a_is_at_least, k_is_at_least, B_is_at_least⟩
  have D_is_between : Dfn l.prog w K mg base CX0 2 "is_between" ["value", "least", "most"] spBtw := ⟨f_is_between, _, ok_is_between F_is_between T D_is_at_least, PySem.W.mg_of X G a_is_between, k_is_between, B_is_between⟩
  have D_is_word : Dfn l.prog w K mg base CX0 3 "is_word" ["value"] spWord := ⟨f_is_word, _, ok_is_word F_is_word T D_is_between, PySem.W.mg_of X G a_is_word, k_is_word, B_is_word⟩
  have D_is_name : Dfn l.prog w K mg base CX0 4 "is_name" ["value"] (spD0 isNm) := ⟨f_is_name, _, ok_is_name F_is_name T D_is_word, PySem.W.mg_of X G a_is_name, k_is_name, B_is_name⟩
  have D_is_number : Dfn l.prog w K mg base CX0 3 "_is_number" ["value"] (spD0 isNum) := ⟨f_is_number, _, ok_is_number F_is_number T D_is_between, PySem.W.mg_of X G a_is_number, k_is_number, B_is_number⟩
  have D_is_path : Dfn l.prog w K mg base CX0 5 "_is_path" ["value"] (spD isPath) := ⟨f_is_path, _, ok_is_path F_is_path T D_is_name, PySem.W.mg_of X G a_is_path, k_is_path, B_is_path⟩
  have D_are_words : Dfn l.prog w K mg base CX0 4 "_are_words" ["value"] (spD areW) := ⟨f_are_words, _, ok_are_words F_are_words T D_is_between D_is_word, PySem.W.mg_of X G a_are_words, k_are_words, B_are_words⟩
  have D_are_none : Dfn l.prog w K mg base CX0 1 "_are_none" ["parts"] (spParts pNone) := ⟨f_are_none, _, ok_are_none F_are_none T , PySem.W.mg_of X G a_are_none, k_are_none, B_are_none⟩
  have D_is_one_number : Dfn l.prog w K mg base CX0 4 "_is_one_number" ["parts"] (spParts pNum) := ⟨f_is_one_number, _, ok_is_one_number F_is_one_number T D_is_number, PySem.W.mg_of X G a_is_one_number, k_is_one_number, B_is_one_number⟩
  have D_are_two_numbers : Dfn l.prog w K mg base CX0 4 "_are_two_numbers" ["parts"] (spParts pTwo) := ⟨f_are_two_numbers, _, ok_are_two_numbers F_are_two_numbers T D_is_number, PySem.W.mg_of X G a_are_two_numbers, k_are_two_numbers, B_are_two_numbers⟩
  have D_are_place_and_words : Dfn l.prog w K mg base CX0 5 "_are_place_and_words" ["parts"] (spParts pPut) := ⟨f_are_place_and_words, _, ok_are_place_and_words F_are_place_and_words T D_is_number D_are_words, PySem.W.mg_of X G a_are_place_and_words, k_are_place_and_words, B_are_place_and_words⟩
  have D_is_one_kind : Dfn l.prog w K mg base CX0 1 "_is_one_kind" ["parts"] (spParts pKind) := ⟨f_is_one_kind, _, ok_is_one_kind F_is_one_kind T , PySem.W.mg_of X G a_is_one_kind, k_is_one_kind, B_is_one_kind⟩
  have D_is_request : Dfn l.prog w K mg base CX0 6 "is_request" ["value"] spReq := ⟨f_is_request, _, ok_is_request F_is_request T D_is_path D_is_one_kind D_are_place_and_words D_are_two_numbers D_are_none D_is_one_number, PySem.W.mg_of X G a_is_request, k_is_request, B_is_request⟩
  have D_is_directory : Dfn l.prog w K mg base CX0 1 "is_directory" ["part"] spIsDir := ⟨f_is_directory, _, ok_is_directory F_is_directory T , PySem.W.mg_of X G a_is_directory, k_is_directory, B_is_directory⟩
  have D_part_at : Dfn l.prog w K mg base CX0 2 "part_at" ["tree", "path"] spAt := ⟨f_part_at, _, ok_part_at F_part_at T D_is_directory, PySem.W.mg_of X G a_part_at, k_part_at, B_part_at⟩
  have D_new_tree : Dfn l.prog w K mg base CX0 1 "new_tree" [] spNew := ⟨f_new_tree, _, ok_new_tree F_new_tree T , PySem.W.mg_of X G a_new_tree, k_new_tree, B_new_tree⟩
  have D_list : Dfn l.prog w K mg base CX0 2 "_list" ["part"] spLst := ⟨f_list, _, ok_list F_list T D_is_directory, PySem.W.mg_of X G a_list, k_list, B_list⟩
  have D_put : Dfn l.prog w K mg base CX0 1 "_put" ["words", "offset", "new"] spPut := ⟨f_put, _, ok_put F_put T , PySem.W.mg_of X G a_put, k_put, B_put⟩
  have D_make : Dfn l.prog w K mg base CX0 3 "_make" ["tree", "path", "kind"] spMake := ⟨f_make, _, ok_make F_make T D_part_at D_is_directory D_new_tree, PySem.W.mg_of X G a_make, k_make, B_make⟩
  have D_drop : Dfn l.prog w K mg base CX0 3 "_drop" ["tree", "path", "part"] spDrop := ⟨f_drop, _, ok_drop F_drop T D_part_at D_is_directory, PySem.W.mg_of X G a_drop, k_drop, B_drop⟩
  have D_ask_file : Dfn l.prog w K mg base CX0 2 "_ask_file" ["words", "word", "parts"] spAskFile := ⟨f_ask_file, _, ok_ask_file F_ask_file T D_put, PySem.W.mg_of X G a_ask_file, k_ask_file, B_ask_file⟩
  have D_ask : Dfn l.prog w K mg base CX0 4 "ask" ["tree", "request"] spAsk := ⟨f_ask, _, ok_ask F_ask T D_make D_part_at D_drop D_list D_is_directory D_ask_file, PySem.W.mg_of X G a_ask, k_ask, B_ask⟩
  have D_copied : Dfn l.prog w K mg base CX0 2 "copied" ["tree"] spCopied := ⟨f_copied, _, ok_copied F_copied T D_is_directory, PySem.W.mg_of X G a_copied, k_copied, B_copied⟩
  have D_law_flat : Dfn l.prog w K mg base CX0 5 "_law_flat" ["tree", "path", "found"] (spFlat 3) := ⟨f_law_flat, _, ok_law_flat F_law_flat T  ⟨PySem.W.mg_of X G a_law_flat, k_law_flat, B_law_flat⟩, PySem.W.mg_of X G a_law_flat, k_law_flat, B_law_flat⟩
  have D_law_names : Dfn l.prog w K mg base CX0 1 "_law_names" ["parts", "path"] spNames := ⟨f_law_names, _, ok_law_names F_law_names T , PySem.W.mg_of X G a_law_names, k_law_names, B_law_names⟩
  have D_law_file : Dfn l.prog w K mg base CX0 1 "_law_file" ["parts", "request"] spFile := ⟨f_law_file, _, ok_law_file F_law_file T , PySem.W.mg_of X G a_law_file, k_law_file, B_law_file⟩
  have D_law_due : Dfn l.prog w K mg base CX0 2 "_law_due" ["parts", "request"] spDue := ⟨f_law_due, _, ok_law_due F_law_due T D_law_names D_law_file, PySem.W.mg_of X G a_law_due, k_law_due, B_law_due⟩
  have D_law_path : Dfn l.prog w K mg base CX0 2 "_law_path" ["tape"] spPath := ⟨f_law_path, _, ok_law_path F_law_path T D_law_next, PySem.W.mg_of X G a_law_path, k_law_path, B_law_path⟩
  have D_law_request : Dfn l.prog w K mg base CX0 3 "_law_request" ["tape"] spRequest := ⟨f_law_request, _, ok_law_request F_law_request T D_law_next D_law_path, PySem.W.mg_of X G a_law_request, k_law_request, B_law_request⟩
  exact ok_law F_law T D_new_tree D_copied D_law_next D_law_request D_is_request D_law_flat D_ask D_law_due
theorem walk {l : PySem.W.OpenLaw} {q : Program} {loose : List Str} {XP : (Str → Option Value) → Heap → Prop} {YP : World → Heap → Prop} {d : DefRec} {K : Params → PySem.W.Frag} (hn : l.most = some 63) (hdf : d.params.defaults = [])
    (hY : ∀ (w : World) (h : Heap), YP w h → (K w.params).In h)
    (F : ∀ (w : World) (mg : Str → Option Value) (fa : Addr) (h : Heap), (K w.params).In h → h.Ns mainGlobals mg → mg d.name = some (.ref fa) →
      ∃ fd : FuncData, (∀ (s : Shared) (u : Value), BindsTo s fd ⟨[u], []⟩ [("script", u)]) ∧ ∀ base : Heap, (K w.params).In base → base.Ns mainGlobals mg → FnOk l.prog w (K w.params) mg base CX0 7 fa fd ["script"] (spLaw (K w.params))) :
    PySem.W.WalkO q loose XP YP l.row.toRowW d [] (fun f vs => PySem.call f vs) :=
  L2.walk_of (n := 63) (k := 7) (x := "script") (CX := fun _ => CX0) (sp := fun w => spLaw (K w.params)) hn (by decide) hdf ⟨rfl, by decide, by decide⟩ hY F (fun _ _ a ns hl _ hS => ⟨a, ns, rfl, hS, fun _ => rfl⟩) fun _ _ _ _ _ z => z
end My
open PySem PySem.W PyProof.Rows in
set_option maxRecDepth 100000 in
set_option maxHeartbeats 0 in
theorem PySem.Challenge.cw_steadhold_k04_trees_holds : PySem.Challenge.rw_steadhold_k04_trees.Holds := by
  w_on; o_law; k_head; (case hw => w_witness2)
  k_fill
  refine My.walk (l := PySem.Challenge.rw_steadhold_k04_trees) rfl rfl (fun w h Y => PySem.W.kIn_of Y) ?F
  case F =>
    intro w mg fa h KX G hmg
    refine' My.all_mk KX G hmg ?a_law_next ?l_law_next ?q_law_next ?k_law_next ?a_is_at_least ?l_is_at_least ?q_is_at_least ?k_is_at_least ?a_is_between ?l_is_between ?q_is_between ?k_is_between ?a_is_word ?l_is_word ?q_is_word ?k_is_word ?a_is_name ?l_is_name ?q_is_name ?k_is_name ?a_is_number ?l_is_number ?q_is_number ?k_is_number ?a_is_path ?l_is_path ?q_is_path ?k_is_path ?a_are_words ?l_are_words ?q_are_words ?k_are_words ?a_are_none ?l_are_none ?q_are_none ?k_are_none ?a_is_one_number ?l_is_one_number ?q_is_one_number ?k_is_one_number ?a_are_two_numbers ?l_are_two_numbers ?q_are_two_numbers ?k_are_two_numbers ?a_are_place_and_words ?l_are_place_and_words ?q_are_place_and_words ?k_are_place_and_words ?a_is_one_kind ?l_is_one_kind ?q_is_one_kind ?k_is_one_kind ?a_is_request ?l_is_request ?q_is_request ?k_is_request ?a_is_directory ?l_is_directory ?q_is_directory ?k_is_directory ?a_part_at ?l_part_at ?q_part_at ?k_part_at ?a_new_tree ?l_new_tree ?q_new_tree ?k_new_tree ?a_list ?l_list ?q_list ?k_list ?a_put ?l_put ?q_put ?k_put ?a_make ?l_make ?q_make ?k_make ?a_drop ?l_drop ?q_drop ?k_drop ?a_ask_file ?l_ask_file ?q_ask_file ?k_ask_file ?a_ask ?l_ask ?q_ask ?k_ask ?a_copied ?l_copied ?q_copied ?k_copied ?a_law_flat ?l_law_flat ?q_law_flat ?k_law_flat ?a_law_names ?l_law_names ?q_law_names ?k_law_names ?a_law_file ?l_law_file ?q_law_file ?k_law_file ?a_law_due ?l_law_due ?q_law_due ?k_law_due ?a_law_path ?l_law_path ?q_law_path ?k_law_path ?a_law_request ?l_law_request ?q_law_request ?k_law_request ?a_law ?l_law ?q_law ?k_law ?y__PARTS ?l__PARTS ?kl__PARTS ?lo__PARTS ?p0 ?p1 ?p2 ?p3 ?p4 ?p5 ?p6 ?p7 ?z_abs ?z_all ?z_bool ?z_dict ?z_int ?z_isinstance ?z_len ?z_list ?z_max ?z_range ?z_sorted ?z_str ?z_tuple ?y_MOST_WORDS ?y_TOP
    (case a_law_next => k_is)
    (case l_law_next => k_is)
    (case q_law_next => k_is)
    (case k_law_next => k_is)
    (case a_is_at_least => k_is)
    (case l_is_at_least => k_is)
    (case q_is_at_least => k_is)
    (case k_is_at_least => k_is)
    (case a_is_between => k_is)
    (case l_is_between => k_is)
    (case q_is_between => k_is)
    (case k_is_between => k_is)
    (case a_is_word => k_is)
    (case l_is_word => k_is)
    (case q_is_word => k_is)
    (case k_is_word => k_is)
    (case a_is_name => k_is)
    (case l_is_name => k_is)
    (case q_is_name => k_is)
    (case k_is_name => k_is)
    (case a_is_number => k_is)
    (case l_is_number => k_is)
    (case q_is_number => k_is)
    (case k_is_number => k_is)
    (case a_is_path => k_is)
    (case l_is_path => k_is)
    (case q_is_path => k_is)
    (case k_is_path => k_is)
    (case a_are_words => k_is)
    (case l_are_words => k_is)
    (case q_are_words => k_is)
    (case k_are_words => k_is)
    (case a_are_none => k_is)
    (case l_are_none => k_is)
    (case q_are_none => k_is)
    (case k_are_none => k_is)
    (case a_is_one_number => k_is)
    (case l_is_one_number => k_is)
    (case q_is_one_number => k_is)
    (case k_is_one_number => k_is)
    (case a_are_two_numbers => k_is)
    (case l_are_two_numbers => k_is)
    (case q_are_two_numbers => k_is)
    (case k_are_two_numbers => k_is)
    (case a_are_place_and_words => k_is)
    (case l_are_place_and_words => k_is)
    (case q_are_place_and_words => k_is)
    (case k_are_place_and_words => k_is)
    (case a_is_one_kind => k_is)
    (case l_is_one_kind => k_is)
    (case q_is_one_kind => k_is)
    (case k_is_one_kind => k_is)
    (case a_is_request => k_is)
    (case l_is_request => k_is)
    (case q_is_request => k_is)
    (case k_is_request => k_is)
    (case a_is_directory => k_is)
    (case l_is_directory => k_is)
    (case q_is_directory => k_is)
    (case k_is_directory => k_is)
    (case a_part_at => k_is)
    (case l_part_at => k_is)
    (case q_part_at => k_is)
    (case k_part_at => k_is)
    (case a_new_tree => k_is)
    (case l_new_tree => k_is)
    (case q_new_tree => k_is)
    (case k_new_tree => k_is)
    (case a_list => k_is)
    (case l_list => k_is)
    (case q_list => k_is)
    (case k_list => k_is)
    (case a_put => k_is)
    (case l_put => k_is)
    (case q_put => k_is)
    (case k_put => k_is)
    (case a_make => k_is)
    (case l_make => k_is)
    (case q_make => k_is)
    (case k_make => k_is)
    (case a_drop => k_is)
    (case l_drop => k_is)
    (case q_drop => k_is)
    (case k_drop => k_is)
    (case a_ask_file => k_is)
    (case l_ask_file => k_is)
    (case q_ask_file => k_is)
    (case k_ask_file => k_is)
    (case a_ask => k_is)
    (case l_ask => k_is)
    (case q_ask => k_is)
    (case k_ask => k_is)
    (case a_copied => k_is)
    (case l_copied => k_is)
    (case q_copied => k_is)
    (case k_copied => k_is)
    (case a_law_flat => k_is)
    (case l_law_flat => k_is)
    (case q_law_flat => k_is)
    (case k_law_flat => k_is)
    (case a_law_names => k_is)
    (case l_law_names => k_is)
    (case q_law_names => k_is)
    (case k_law_names => k_is)
    (case a_law_file => k_is)
    (case l_law_file => k_is)
    (case q_law_file => k_is)
    (case k_law_file => k_is)
    (case a_law_due => k_is)
    (case l_law_due => k_is)
    (case q_law_due => k_is)
    (case k_law_due => k_is)
    (case a_law_path => k_is)
    (case l_law_path => k_is)
    (case q_law_path => k_is)
    (case k_law_path => k_is)
    (case a_law_request => k_is)
    (case l_law_request => k_is)
    (case q_law_request => k_is)
    (case k_law_request => k_is)
    (case a_law => k_is)
    (case l_law => k_is)
    (case q_law => k_is)
    (case k_law => k_is)
    (case y__PARTS => k_is)
    (case l__PARTS => k_is)
    (case kl__PARTS => first | k_is | (repeat (first | exact trivial | refine ⟨⟨_, _, rfl, rfl⟩, ?_⟩)))
    (case lo__PARTS => first | rfl | k_is | decide)
    (case p0 => k_is)
    (case p1 => k_is)
    (case p2 => k_is)
    (case p3 => k_is)
    (case p4 => k_is)
    (case p5 => k_is)
    (case p6 => k_is)
    (case p7 => k_is)
    (case z_abs => k_is)
    (case z_all => k_is)
    (case z_bool => k_is)
    (case z_dict => k_is)
    (case z_int => k_is)
    (case z_isinstance => k_is)
    (case z_len => k_is)
    (case z_list => k_is)
    (case z_max => k_is)
    (case z_range => k_is)
    (case z_sorted => k_is)
    (case z_str => k_is)
    (case z_tuple => k_is)
    (case y_MOST_WORDS => k_is)
    (case y_TOP => k_is)
