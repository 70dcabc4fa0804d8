import PyProof.Rows.All
import Wide.All
import OpenK.AllK
import Wide.FinOn
import HandS.ForMost
import HandS.IsInst
import HandS.Exc
import HandS.TryOnly
import HandS.ExcOwn
import HandS.WordsExc
import HandS.RaiseMore
import HandS.Codes
import HandS.TupAny
import PyProof.NeKinds
import HandS.DictComp
import HandS.DeepEq
import HandS.TupMul
import HandS.Style
import HandS.DictTup
import PySem.Challenge.RW_steadhold_k33_pages_never_give_more_than
import HandS.Conv
import HandS.WordsDict
import HandS.SetKeys
import HandS.Deep
set_option Elab.async false
set_option linter.all false
set_option maxRecDepth 100000
set_option maxHeartbeats 4000000
namespace My
open PySem L2
/-! ### rules that the layer lacks -/
section
variable {X : Cx}
/-- xs[i] as the read of xs[i] op= e -/
theorem get_list : PGet X (rIxL X.K) := fun pins s0 σ H o1 o2 u1 u2 Q I r1 r2 hh => by
  obtain ⟨l, xs, n, z, e1, e2, hl, hn, q⟩ := hh
  subst e1; subst e2
  cases r1
  obtain ⟨tk, e3⟩ := r2
  subst e3
  obtain ⟨us, rel, pll, _⟩ := I.list hl
  obtain ⟨j, c1, c2, _, c4, c5⟩ := atI_get hn
  obtain ⟨u, hu, ru⟩ := rel.get c2
  have len := rel.length
  have big := line63
  have goal : EP X pins σ Q u s0 := ⟨z, H, I, ru, q⟩
  rcases Int.lt_or_le n 0 with neg | pos
  · have hj : (n + (us.toArray.size : Int)).toNat = j := by
      rw [seqIndex_neg neg c4] at c1
      have c1' := Option.some.inj c1
      simpa [← len] using c1'
    exact PySem.wpAny_getItem_list_neg pll.isList neg (by simp; omega) (by omega) (by rw [hj]; simpa using hu) goal
  · have hj : n.toNat = j := by
      rw [seqIndex_of pos c5] at c1
      exact Option.some.inj c1
    exact PySem.wpAny_getItem_list pll.isList pos (by omega) (by rw [hj]; simpa using hu) goal
/-- a module's int, text -/
theorem pe_gint {x : Str} {i : Int} {pos : Pos} (hg : Gl X x) (hm : ∃ t, X.mg x = some (.int i t)) (hd : (x == ("__debug__" : Str)) = false := by decide) : PE X (.Name x pos) (tC (.int i)) := by
  obtain ⟨t, hm⟩ := hm
  exact pe_glob hg hm ⟨t, rfl⟩ hd
theorem pe_gstr {x i : Str} {pos : Pos} (hg : Gl X x) (hm : ∃ t, X.mg x = some (.str i t)) (hd : (x == ("__debug__" : Str)) = false := by decide) : PE X (.Name x pos) (tC (.str i)) := by
  obtain ⟨t, hm⟩ := hm
  exact pe_glob hg hm ⟨t, rfl⟩ hd
end
/-! ### rules with the written part named -/
def rLen (K : PySem.W.Frag) : List V → Hp → VK → Prop := fun xs H Q => ∃ p ys, xs = [.ref p] ∧ (SqL K H p ys ∨ SqT K H p ys) ∧ Q (.int ys.length) H
def rListOf (K : PySem.W.Frag) : List V → Hp → VK → Prop := fun xs H Q => ∃ p ys, xs = [.ref p] ∧ (SqL K H p ys ∨ SqT K H p ys) ∧ ∀ l, H l = none → Q (.ref l) (upd H l (.lst ys))
def rTupOf (K : PySem.W.Frag) : List V → Hp → VK → Prop := fun xs H Q => ∃ p ys, xs = [.ref p] ∧ ((SqL K H p ys ∧ ∀ l, H l = none → Q (.ref l) (upd H l (.tup ys))) ∨ (SqT K H p ys ∧ Q (.ref p) H))
section
variable {X : Cx} (K : PySem.W.Frag)
theorem kIxL (h : X.K = K := by rfl) : IxR X (rIxL K) := by subst h; exact ix_list
theorem kIxT (h : X.K = K := by rfl) : IxR X (rIxT K) := by subst h; exact ix_tup
theorem kGetL (h : X.K = K := by rfl) : PGet X (rIxL K) := by subst h; exact get_list
theorem kSlL (h : X.K = K := by rfl) : SlR X (rSlL K) := by subst h; exact sl_list
theorem kSlT (h : X.K = K := by rfl) : SlR X (rSlA K) := by subst h; exact sl_tupA
theorem kEqD (hu : X.A.units + 64 < cLine) (h : X.K = K := by rfl) : OpR X (compareOp .Eq) (rEqD K) := by subst h; exact op_eqD hu
theorem kNeD (hu : X.A.units + 64 < cLine) (h : X.K = K := by rfl) : OpR X (compareOp .NotEq) (rNeD K) := by subst h; exact op_neD hu
theorem kIn (h : X.K = K := by rfl) : OpR X (compareOp .In) (rIn K false) := by subst h; exact op_in_seq
theorem kNotIn (h : X.K = K := by rfl) : OpR X (compareOp .NotIn) (rIn K true) := by subst h; exact op_notIn_seq
theorem kCatT (h : X.K = K := by rfl) : OpR X (binaryOp .Add) (rCatA K) := by subst h; exact op_catA
theorem kLen (h : X.K = K := by rfl) : CallR X (.builtin "len") (rLen K) := by subst h; exact call_len_seq
theorem kListOf (h : X.K = K := by rfl) : CallR X (.type "list") (rListOf K) := by subst h; exact call_list_of
theorem kTupOf (h : X.K = K := by rfl) : CallR X (.type "tuple") (rTupOf K) := by subst h; exact call_tuple_of
theorem kIsi (h : X.K = K := by rfl) : CallR X (.builtin "isinstance") (rIsi K) := by subst h; exact call_isi
theorem kAll (hc : X.calm = true) (h : X.K = K := by rfl) : CallR X (.builtin "all") (rAll K) := by subst h; exact cr_all hc
theorem kAny (hc : X.calm = true) (h : X.K = K := by rfl) : CallR X (.builtin "any") (rAny K) := by subst h; exact cr_any hc
theorem kSum (hc : X.calm = true) (h : X.K = K := by rfl) : CallR X (.builtin "sum") (rSum K) := by subst h; exact cr_sum hc
theorem kSorted (h : X.K = K := by rfl) : CallR X (.builtin "sorted") (rSorted K) := by subst h; exact cr_sorted
theorem kIndex (h : X.K = K := by rfl) : MtR X "list.index" (rIndex K) := by subst h; exact mt_index
section
variable {tg l : Expr} {tl : TE} {pos : Pos}
theorem kpiL (hl : PE X l tl) (h : X.K = K := by rfl) : PI X tg l (iList K tl) := by subst h; exact pi_list hl
theorem kpiT (hl : PE X l tl) (h : X.K = K := by rfl) : PI X tg l (iTup K tl) := by subst h; exact pi_tup hl
theorem kpgT {es : List Expr} {k : Nat} {t : TGs} {n : Nat} (hc : X.calm = true) (hh : PGs X es t)
    (hn : (assignEach es X.env).length = n := by rfl) (hst : (assignEach es X.env).findIdx? (·.1) = none := by rfl) (h : X.K = K := by rfl) : PG X (.Tuple es k pos) (gTup K n t) := by subst h; exact pg_tup hc hh hn hst
theorem kBM0 {o : Expr} {to : TE} {name : Str} {apos cpos : Pos} {T id : String} {r : V → List V → Hp → VK → Prop} (pa : PlainAttrs T) (slot : Slot T name id) (hty : typeOf (.builtin id) = pure (.type "method_descriptor")) (hm : MtR X id r) (ho : PE X o to)
    (hbase : attributeBase o name X.env (eval o X.env) = eval o X.env := by rfl) (hline : (apos.endLine == cpos.line) = true := by rfl) (h : X.K = K := by rfl) : PE X (.Call (.Attribute o name apos) [] [] cpos) (tBM0 K T r to) := by
  subst h; exact pe_bm0 pa slot hty hm ho hbase hline
theorem kBM {o e : Expr} {es : List Expr} {to : TE} {t : TA} {name : Str} {apos cpos : Pos} {T id : String} {r : V → List V → Hp → VK → Prop} (pa : PlainAttrs T) (slot : Slot T name id) (hty : typeOf (.builtin id) = pure (.type "method_descriptor")) (hm : MtR X id r) (ho : PE X o to) (ha : PA X (e :: es) t)
    (hbase : attributeBase o name X.env (eval o X.env) = eval o X.env := by rfl)
    (hfew : ((backTo cpos (starEach (e :: es) X.env)).all (fun x => !x.1) && (backToKw cpos (keywordEach [] X.env)).all (fun x => x.1.isSome)
      && decide ((e :: es).length + ([] : List Keyword).length + (if ([] : List Keyword).isEmpty then 0 else 1) < 30)) = true := by rfl)
    (hline : (apos.endLine == cpos.line) = true := by rfl) (hs : starEach (e :: es) X.env = (false, eval e X.env) :: starEach es X.env := by rfl) (hplain : (backTo cpos (starEach es X.env)).any (·.1) = false := by rfl) (h : X.K = K := by rfl) :
    PE X (.Call (.Attribute o name apos) (e :: es) [] cpos) (tBM K T r to t) := by
  subst h; exact pe_bm pa slot hty hm ho ha hbase hfew hline hs hplain
theorem kSFld {o value : Expr} {f : Str} {pos' : Pos} {ta tv : TE} (ha : PE X o ta) (hv : PE X value tv) (hs : swapsWith value (some (.Attribute o f pos')) pos.line X.env = pure false) (h : X.K = K := by rfl) : PS X (.Assign [.Attribute o f pos'] value pos) (sFld K ta tv f) := by subst h; exact ps_fld ha hv hs
theorem kSFldA {o value : Expr} {f : Str} {tpos : Pos} {ta tv : TE} {op : Operator} {rd : V → V → Hp → VK → Prop} (ha : PE X o ta) (hv : PE X value tv) (hop : InOp X op rd) (h : X.K = K := by rfl) : PS X (.AugAssign (.Attribute o f tpos) op value pos) (sFldAug K ta tv rd f) := by subst h; exact ps_fldaug ha hv hop
theorem kFld {f : Str} (he : PE X l tl) (hb : attributeBase l f X.env (eval l X.env) = eval l X.env) (h : X.K = K := by rfl) : PE X (.Attribute l f pos) (tFld K tl f) := by subst h; exact pe_fld he hb
end
end
/-! ### xs.count(y), flat items -/
theorem countP_eqU {x : V} {v : Value} (rx : RelV x v) : ∀ {xs : List V} {us : List Value}, Vals xs us → xs.all flatV = true → us.countP (eqU x) = xs.countP fun y => eqV y x
  | _, _, .nil, _ => rfl
  | y :: xs, u :: us, .cons r t, f => by
    rw [List.all_cons, Bool.and_eq_true] at f
    rw [List.countP_cons, List.countP_cons, countP_eqU rx t f.2, eqU_of r f.1]
def rCount (K : PySem.W.Frag) : V → List V → Hp → VK → Prop := fun x vs H Q => ∃ (p : Addr) (xs : List V) (y : V), x = .ref p ∧ vs = [y] ∧ SqL K H p xs ∧ flatV y = true ∧ xs.all flatV = true ∧ Q (.int (xs.countP (fun z => eqV z y) : Nat)) H
theorem kCount {X : Cx} (K : PySem.W.Frag) (h : X.K = K := by rfl) : MtR X "list.count" (rCount K) := by
  subst h
  intro pins s0 σ H x vs u us Q I r1 r2 hh
  obtain ⟨p, xs, y, rfl, rfl, hl, fy, fx, q⟩ := hh
  cases r1
  cases r2 with
  | cons ry rn =>
    cases rn
    obtain ⟨ws, rel, ⟨⟨c0, d0, dat, sl0⟩, n, ho, hc, _, hd⟩, _⟩ := I.list hl
    dsimp only at hc hd
    subst hc hd
    refine call_meets PySem.F.slot_list_count ⟨_, ho, rfl⟩ PySem.F.entry_list_count (PySem.F.args_list_count_2 _ _)
      (SeqAt.list_countAt p ws.toArray n d0 sl0 _ (eqU y)) ⟨ho, fun z hz => mem_eqAt ry fy rel fx z (by simpa using hz), ?_⟩
    refine ⟨.int (xs.countP (fun z => eqV z y) : Nat), H, I.tok _, ⟨s0.toks, ?_⟩, q⟩
    rw [← countP_eqU ry rel fx]
/-! ### a def by its name -/
section
variable {P : Program} {w : World} {K : PySem.W.Frag} {mg : Str → Option Value} {base : Heap}
structure Dfn (P : Program) (w : World) (K : PySem.W.Frag) (mg : Str → Option Value) (base : Heap) (CX : CXT) (k : Nat) (x : Str) (ps : List Str) (sp : Sp) : Prop where
  ex : ∃ f fd, FnOk P w K mg base CX k f fd ps sp ∧ mg x = some (.ref f) ∧ PySem.W.keepIn K (.ref f) = true ∧ Binds K fd ps []
theorem Dfn.imp {CX : CXT} {k : Nat} {x : Str} {ps : List Str} {sp sp' : Sp} (D : Dfn P w K mg base CX k x ps sp) (h : ∀ vs H Q E, sp' vs H Q E → sp vs H Q E) : Dfn P w K mg base CX k x ps sp' := by
  obtain ⟨f, fd, F, a, b, c⟩ := D.ex
  exact ⟨f, fd, F.imp h, a, b, c⟩
end
section
variable {X : Cx} {CX : CXT} {k : Nat} {x : Str} {ps : List Str} {sp : Sp} {E : XK} {t : TA} {e : Expr} {es : List Expr} {p pos : Pos}
theorem pe_dcall (D : Dfn X.prog X.w X.K X.mg X.base CX k x ps sp) (hr : Room k X.A) (hg : Gl X x) (hx : Passes CX X E) (ha : PA X (e :: es) t) (hdb : (x == ("__debug__" : Str)) = false := by decide)
    (he : starEach (e :: es) X.env = (false, eval e X.env) :: starEach es X.env := by rfl) (hpl : (backTo pos (starEach es X.env)).any (·.1) = false := by rfl) : PE X (.Call (.Name x p) (e :: es) [] pos) (tCall sp [] E t) := by
  obtain ⟨f, fd, F, hm, hk, hb⟩ := D.ex
  exact pe_call F hr hg hm hk hb .nil hx ha hdb he hpl
theorem pe_dcall0 (D : Dfn X.prog X.w X.K X.mg X.base CX k x ps sp) (hr : Room k X.A) (hg : Gl X x) (hx : Passes CX X E) (hdb : (x == ("__debug__" : Str)) = false := by decide) : PE X (.Call (.Name x p) [] [] pos) (tCall sp [] E tNil) := by
  obtain ⟨f, fd, F, hm, hk, hb⟩ := D.ex
  exact pe_call0 F hr hg hm hk hb .nil hx hdb
end
/-! ### own errors, objects, methods by their names -/
/-- an own error class without an __init__, over ValueError -/
structure Exn (K : PySem.W.Frag) (mg : Str → Option Value) (x : Str) (C : Addr) : Prop where
  gC : mg x = some (.ref C)
  kC : PySem.W.keepIn K (.ref C) = true
  xI : PySem.W.excIn K C [.type "ValueError", .type "Exception", .type "BaseException", .type "object"] "ValueError.__new__" = true
  bE : PySem.W.subIn K (.ref C) (.type "BaseException") = some true
  tE : PySem.W.typeIn K (.ref C) = some (.type "type")
  eE : PySem.W.exmOne K (.ref C) (.ref C) = some true
section
variable {X : Cx} {C : Addr} {x : Str} {p pos : Pos}
/-- X() of such a class -/
theorem pmk_x (N : Exn X.K X.mg x C) (hg : Gl X x) (hdb : (x == ("__debug__" : Str)) = false := by decide) : PMk X (.Call (.Name x p) [] [] pos) (fun _ H Q => Q (.ref C) none H) := fun pins s σ H Q I h => by
  refine wpAny_Call_Name_kw (ld_glob I hg N.gC ?_ hdb)
  refine PySem.W.callWith_K0 (first := []) I.kIn N.kC ?_
  obtain ⟨m1, m2, m3, m4, m5, m6, m7, m8, m9, m10, m11, r0, r1, r2, r3, r4, mN, hC, hN, hi, tl⟩ := exc_obj I.kIn N.xI
  exact wpAny_call_exc_subT PySem.F.excBase_ValueError tl hC hN hi (fun _ _ made => mk_of I made (raises_own N.bE N.tE) h (I.hok.gone made.new)) (Nat.zero_le _)
end
section
variable {P : Program} {w : World} {K : PySem.W.Frag} {mg : Str → Option Value} {base : Heap}
/-- a method of the class at C -/
structure Mth (P : Program) (w : World) (K : PySem.W.Frag) (mg : Str → Option Value) (base : Heap) (CX : CXT) (k : Nat) (C : Addr) (m : Str) (ps : List Str) (sp : Sp) : Prop where
  ex : ∃ f fd, FnOk P w K mg base CX k f fd ps sp ∧ Meth K C m f ∧ Binds K fd ps [] ∧ Cls K C
/-- the making of its instances -/
structure Mkr (P : Program) (w : World) (K : PySem.W.Frag) (mg : Str → Option Value) (base : Heap) (CX : CXT) (k : Nat) (x : Str) (C : Addr) (ps : List Str) (sp : Sp) : Prop where
  ex : ∃ f fd, Mk K C f ∧ FnOk P w K mg base CX k f fd ps sp ∧ Binds K fd ps [] ∧ mg x = some (.ref C)
end
section
variable {X : Cx} {CX : CXT} {k : Nat} {C : Addr} {m x : Str} {ps : List Str} {sp : Sp} {E : XK} {t : TA} {ta : TE} {e o : Expr} {es : List Expr} {p pos apos : Pos}
theorem pe_dmeth {pl : Sem Bool} (he : PE X o ta) (D : Mth X.prog X.w X.K X.mg X.base CX k C m ps sp) (hr : Room k X.A) (hx : Passes CX X E) (ha : PA X (e :: es) t)
    (hst : starEach (e :: es) X.env = (false, eval e X.env) :: starEach es X.env := by rfl) (hpl : (backTo pos (starEach es X.env)).any (·.1) = false := by rfl)
    (ht : eval (.Call (.Attribute o m apos) (e :: es) [] pos) X.env = (do
      let ov ← eval o X.env
      standAt apos.atName
      let (f, first) ← holding [ov] (getMethod ov m pl)
      callWith pos f first (backTo pos (starEach (e :: es) X.env)) (backToKw pos (keywordEach [] X.env))) := by rfl) :
    PE X (.Call (.Attribute o m apos) (e :: es) [] pos) (tMeth C m sp [] E ta t) := by
  obtain ⟨f, fd, F, hm, hb, c⟩ := D.ex
  exact pe_meth (pl := pl) he c hm F hr hb .nil hx ha hst hpl ht
theorem pe_dmeth0 {pl : Sem Bool} (he : PE X o ta) (D : Mth X.prog X.w X.K X.mg X.base CX k C m ps sp) (hr : Room k X.A) (hx : Passes CX X E)
    (ht : eval (.Call (.Attribute o m apos) [] [] pos) X.env = (do
      let ov ← eval o X.env
      standAt apos.atName
      let (f, first) ← holding [ov] (getMethod ov m pl)
      callWith pos f first (backTo pos (starEach [] X.env)) (backToKw pos (keywordEach [] X.env))) := by rfl) :
    PE X (.Call (.Attribute o m apos) [] [] pos) (tMeth C m sp [] E ta tNil) := by
  obtain ⟨f, fd, F, hm, hb, c⟩ := D.ex
  exact pe_meth0 (pl := pl) he c hm F hr hb .nil hx ht
theorem pe_dmake (D : Mkr X.prog X.w X.K X.mg X.base CX k x C ps sp) (hr : Room (k + 1) X.A) (hg : Gl X x) (hx : Passes CX X E) (ha : PA X (e :: es) t) (hdb : (x == ("__debug__" : Str)) = false := by decide)
    (he : starEach (e :: es) X.env = (false, eval e X.env) :: starEach es X.env := by rfl) (hpl : (backTo pos (starEach es X.env)).any (·.1) = false := by rfl) : PE X (.Call (.Name x p) (e :: es) [] pos) (tMake C sp [] E t) := by
  obtain ⟨f, fd, M, F, hb, hm⟩ := D.ex
  exact pe_make M F hr hg hm hb .nil hx ha hdb he hpl
/-- out of a try's body: what is wished at all slots -/
abbrev EA (W : WX) : XK := fun cls d H => ∀ σ, W cls d σ H
theorem passT {W : WX} (tk : Takes X W) : Passes (L2.CX X.prog X.w) X (EA W) := passes_call tk fun _ _ σ _ h => h σ
end
/-! ### heaps -/
/-- all but a is kept -/
def Chg (a : Addr) (H H' : Hp) : Prop := ∀ b o, b ≠ a → H b = some o → H' b = some o
/-- tuples never change -/
def TS (H H' : Hp) : Prop := ∀ b xs, H b = some (.tup xs) → H' b = some (.tup xs)
theorem TS.refl (H : Hp) : TS H H := fun _ _ h => h
theorem TS.trans {H H1 H2 : Hp} (a : TS H H1) (b : TS H1 H2) : TS H H2 := fun c xs h => b c xs (a c xs h)
theorem Same.ts {H H' : Hp} (s : Same H H') : TS H H' := fun b xs h => s b _ h
theorem Chg.refl (a : Addr) (H : Hp) : Chg a H H := fun _ _ _ h => h
theorem Chg.trans {a : Addr} {H H1 H2 : Hp} (x : Chg a H H1) (y : Chg a H1 H2) : Chg a H H2 := fun b o n h => y b o n (x b o n h)
theorem Same.chg {a : Addr} {H H' : Hp} (s : Same H H') : Chg a H H' := fun b o _ h => s b o h
theorem Same.new {H : Hp} {p : Addr} {o : HO} (h : H p = none) : Same H (upd H p o) := fun b u e => by
  rw [upd_ne (ne_of_none e h)]
  exact e
theorem Chg.upd {a : Addr} {H : Hp} {o : HO} : Chg a H (upd H a o) := fun b u n e => by
  rw [upd_ne n]
  exact e
theorem Chg.ts {a : Addr} {H H' : Hp} {xs : List V} (c : Chg a H H') (h : H a = some (.lst xs)) : TS H H' := fun b ys e => c b _ (ne_of e h (by intro z; cases z)) e
/-- a new object may change at will -/
theorem Same.mut {H H' : Hp} {p : Addr} {o : HO} (s : Same H H') (h : H p = none) : Same H (L2.upd H' p o) := fun b u e => by
  rw [upd_ne (ne_of_none e h)]
  exact s b u e
theorem Chg.mut {a : Addr} {H H' : Hp} {p : Addr} {o : HO} (s : Chg a H H') (h : H p = none) : Chg a H (L2.upd H' p o) := fun b u n e => by
  rw [upd_ne (ne_of_none e h)]
  exact s b u n e
/-- a word that the steps do not look into -/
@[irreducible] def Hide (p : Prop) : Prop := p
theorem hide {p : Prop} (h : p) : Hide p := by unfold Hide; exact h
theorem Hide.out {p : Prop} (h : Hide p) : p := by unfold Hide at h; exact h
/-! ### small lemmas of readings -/
theorem iteD {c : Prop} [Decidable c] {A B : Prop} (h1 : c → A) (h2 : ¬ c → B) : if decide c = true then A else B := by
  by_cases h : c
  · rw [if_pos (decide_eq_true h)]; exact h1 h
  · rw [if_neg (by rw [decide_eq_false h]; decide)]; exact h2 h
theorem iteDn {c : Prop} [Decidable c] {A B : Prop} (h1 : ¬ c → A) (h2 : c → B) : if (!decide c) = true then A else B := by
  by_cases h : c
  · rw [if_neg (by rw [decide_eq_true h]; decide)]; exact h2 h
  · rw [if_pos (by rw [decide_eq_false h]; rfl)]; exact h1 h
theorem iteB {b : Bool} {A B : Prop} (h1 : b = true → A) (h2 : b = false → B) : if b = true then A else B := by
  cases b
  · rw [if_neg Bool.false_ne_true]; exact h2 rfl
  · rw [if_pos rfl]; exact h1 rfl
theorem at0 {a : V} {l : List V} : atI (a :: l) 0 = some a := by
  rw [show (0 : Int) = ((0 : Nat) : Int) from rfl]; exact atI_nat (by rfl)
theorem atC {xs : List V} {i : Int} {v : V} (j : Nat) (e : i = (j : Int)) (h : xs[j]? = some v) : atI xs i = some v := by rw [e]; exact atI_nat h
theorem ixC {n : Nat} {i : Int} (j : Nat) (e : i = (j : Int)) (h : j < n) : ixN n i = some j := by
  subst e
  unfold ixN
  rw [if_pos (by omega), if_pos (by omega)]
  simp
theorem szl {n : Nat} (h : Nat.ble n 100 = true) : n ≤ sizeLine := Nat.le_trans (Nat.le_of_ble_eq_true h) (by decide)
theorem szn {n : Nat} (h : n ≤ 100000) : n ≤ sizeLine := Nat.le_trans h (by decide)
theorem szt {n : Nat} (h : n < 100000) : n < sizeLine := Nat.lt_of_lt_of_le h (by decide)
/-! ### data over the heap -/
mutual
inductive Dt (H : Hp) : V → PyData → Prop
  | non : Dt H .non .none
  | bl (b : Bool) : Dt H (.bl b) (.bool b)
  | int (i : Int) : Dt H (.int i) (.int i)
  | str (x : Str) : Dt H (.str x) (.str x)
  | lst {a : Addr} {xs : List V} {ds : List PyData} : H a = some (.lst xs) → DtAll H xs ds → Dt H (.ref a) (.list ds)
  | tup {a : Addr} {xs : List V} {ds : List PyData} : H a = some (.tup xs) → DtAll H xs ds → Dt H (.ref a) (.tuple ds)
inductive DtAll (H : Hp) : List V → List PyData → Prop
  | nil : DtAll H [] []
  | cons {v : V} {vs : List V} {d : PyData} {ds : List PyData} : Dt H v d → DtAll H vs ds → DtAll H (v :: vs) (d :: ds)
end
mutual
def tonly : PyData → Bool
  | .list _ => false
  | .dict _ => false
  | .tuple xs => tonlyAll xs
  | _ => true
def tonlyAll : List PyData → Bool
  | [] => true
  | x :: xs => tonly x && tonlyAll xs
end
mutual
theorem Dt.same {H H' : Hp} (s : Same H H') : ∀ {d : PyData} {v : V}, Dt H v d → Dt H' v d
  | .none, _, h => by cases h; exact .non
  | .bool b, _, h => by cases h; exact .bl b
  | .int i, _, h => by cases h; exact .int i
  | .str x, _, h => by cases h; exact .str x
  | .list ds, _, h => by
    cases h with
    | lst ha hs => exact .lst (s _ _ ha) (DtAll.same s hs)
  | .tuple ds, _, h => by
    cases h with
    | tup ha hs => exact .tup (s _ _ ha) (DtAll.same s hs)
  | .dict _, _, h => by cases h
theorem DtAll.same {H H' : Hp} (s : Same H H') : ∀ {ds : List PyData} {vs : List V}, DtAll H vs ds → DtAll H' vs ds
  | [], _, h => by cases h; exact .nil
  | d :: ds, _, h => by
    cases h with
    | cons h1 h2 => exact .cons (Dt.same s h1) (DtAll.same s h2)
end
mutual
theorem Dt.ts {H H' : Hp} (s : TS H H') : ∀ {d : PyData} {v : V}, tonly d = true → Dt H v d → Dt H' v d
  | .none, _, _, h => by cases h; exact .non
  | .bool b, _, _, h => by cases h; exact .bl b
  | .int i, _, _, h => by cases h; exact .int i
  | .str x, _, _, h => by cases h; exact .str x
  | .list ds, _, t, h => by unfold tonly at t; cases t
  | .tuple ds, _, t, h => by
    unfold tonly at t
    cases h with
    | tup ha hs => exact .tup (s _ _ ha) (DtAll.ts s t hs)
  | .dict _, _, _, h => by cases h
theorem DtAll.ts {H H' : Hp} (s : TS H H') : ∀ {ds : List PyData} {vs : List V}, tonlyAll ds = true → DtAll H vs ds → DtAll H' vs ds
  | [], _, _, h => by cases h; exact .nil
  | d :: ds, _, t, h => by
    unfold tonlyAll at t
    rw [Bool.and_eq_true] at t
    cases h with
    | cons h1 h2 => exact .cons (Dt.ts s t.1 h1) (DtAll.ts s t.2 h2)
end
mutual
theorem Dt.dp {K : PySem.W.Frag} {H : Hp} : ∀ {d : PyData} {v : V}, Dt H v d → Dp K H v d
  | .none, _, h => by cases h; exact .non
  | .bool b, _, h => by cases h; exact .bl b
  | .int i, _, h => by cases h; exact .int i
  | .str x, _, h => by cases h; exact .str x
  | .list ds, _, h => by
    cases h with
    | lst ha hs => exact .lst (SqL.of ha) (DtAll.dp hs)
  | .tuple ds, _, h => by
    cases h with
    | tup ha hs => exact .tup (SqT.of ha) (DtAll.dp hs)
  | .dict _, _, h => by cases h
theorem DtAll.dp {K : PySem.W.Frag} {H : Hp} : ∀ {ds : List PyData} {vs : List V}, DtAll H vs ds → DpAll K H vs ds
  | [], _, h => by cases h; exact .nil
  | d :: ds, _, h => by
    cases h with
    | cons h1 h2 => exact .cons (Dt.dp h1) (DtAll.dp h2)
end
theorem DtAll.len {H : Hp} : ∀ {ds : List PyData} {vs : List V}, DtAll H vs ds → vs.length = ds.length
  | [], _, h => by cases h; rfl
  | d :: ds, _, h => by
    cases h with
    | cons h1 h2 => rw [List.length_cons, List.length_cons, DtAll.len h2]
theorem DtAll.get {H : Hp} : ∀ {ds : List PyData} {vs : List V} {i : Nat} {d : PyData}, DtAll H vs ds → ds[i]? = some d → ∃ v, vs[i]? = some v ∧ Dt H v d
  | [], _, i, d, h, e => by simp at e
  | d :: ds, _, 0, d', h, e => by
    cases h with
    | cons h1 h2 => simp at e; subst e; exact ⟨_, rfl, h1⟩
  | d :: ds, _, i + 1, d', h, e => by
    cases h with
    | cons h1 h2 =>
      obtain ⟨v, a, b⟩ := DtAll.get (i := i) h2 (by simpa using e)
      exact ⟨v, by simpa using a, b⟩
theorem DtAll.getV {H : Hp} : ∀ {ds : List PyData} {vs : List V} {i : Nat} {v : V}, DtAll H vs ds → vs[i]? = some v → ∃ d, ds[i]? = some d ∧ Dt H v d
  | [], _, i, d, h, e => by cases h; simp at e
  | d :: ds, _, 0, d', h, e => by
    cases h with
    | cons h1 h2 => simp at e; subst e; exact ⟨_, rfl, h1⟩
  | d :: ds, _, i + 1, d', h, e => by
    cases h with
    | cons h1 h2 =>
      obtain ⟨v, a, b⟩ := DtAll.getV (i := i) h2 (by simpa using e)
      exact ⟨v, by simpa using a, b⟩
theorem DtAll.append {H : Hp} : ∀ {ds es : List PyData} {vs us : List V}, DtAll H vs ds → DtAll H us es → DtAll H (vs ++ us) (ds ++ es)
  | [], _, _, _, h, h' => by cases h; exact h'
  | d :: ds, _, _, _, h, h' => by
    cases h with
    | cons h1 h2 => exact .cons h1 (DtAll.append h2 h')
/-! ### data that == may look at -/
theorem lay_all : ∀ {ds : List PyData}, (∀ d ∈ ds, d.canLay0 = true) → PyData.canLayAll0 ds = true
  | [], _ => by rw [PyData.canLayAll0]
  | d :: ds, h => by
    rw [PyData.canLayAll0, h d List.mem_cons_self, lay_all fun e he => h e (List.mem_cons_of_mem _ he)]; rfl
theorem dep_all {n : Nat} : ∀ {ds : List PyData}, (∀ d ∈ ds, d.depth ≤ n) → PyData.depthAll ds ≤ n
  | [], _ => by rw [PyData.depthAll]; exact Nat.zero_le _
  | d :: ds, h => by
    rw [PyData.depthAll]
    exact Nat.max_le.mpr ⟨h d List.mem_cons_self, dep_all fun e he => h e (List.mem_cons_of_mem _ he)⟩
/-- shaped, of so little depth -/
def Sh (n : Nat) (d : PyData) : Prop := d.canLay0 = true ∧ d.depth ≤ n
theorem Sh.int (n : Nat) (i : Int) : Sh n (.int i) := ⟨by rw [PyData.canLay0], by rw [PyData.depth]; exact Nat.zero_le _⟩
theorem Sh.bool (n : Nat) (i : Bool) : Sh n (.bool i) := ⟨by rw [PyData.canLay0], by rw [PyData.depth]; exact Nat.zero_le _⟩
theorem Sh.none (n : Nat) : Sh n .none := ⟨by rw [PyData.canLay0], by rw [PyData.depth]; exact Nat.zero_le _⟩
theorem Sh.tup {n : Nat} {ds : List PyData} (h : ∀ d ∈ ds, Sh n d) : Sh (n + 1) (.tuple ds) := ⟨by rw [PyData.canLay0]; exact lay_all fun d hd => (h d hd).1, by rw [PyData.depth]; exact Nat.succ_le_succ (dep_all fun d hd => (h d hd).2)⟩
theorem Sh.lst {n : Nat} {ds : List PyData} (h : ∀ d ∈ ds, Sh n d) : Sh (n + 1) (.list ds) := ⟨by rw [PyData.canLay0]; exact lay_all fun d hd => (h d hd).1, by rw [PyData.depth]; exact Nat.succ_le_succ (dep_all fun d hd => (h d hd).2)⟩
theorem Sh.ok {n : Nat} {d : PyData} (h : Sh n d) (hn : n ≤ 64 := by decide) : SeqAt.shaped d = true := by
  unfold SeqAt.shaped
  rw [h.1, decide_eq_true (Nat.le_trans h.2 hn)]; rfl
def tyName : PyData → String
  | .none => "NoneType"
  | .bool _ => "bool"
  | .int _ => "int"
  | .str _ => "str"
  | .list _ => "list"
  | .tuple _ => "tuple"
  | .dict _ => "dict"
theorem Dt.ty {K : PySem.W.Frag} {H : Hp} : ∀ {d : PyData} {v : V}, Dt H v d → TyX K H v (.type (tyName d))
  | .none, _, h => by cases h; exact .base .non
  | .bool b, _, h => by cases h; exact .base (.bl b)
  | .int i, _, h => by cases h; exact .base (.int i)
  | .str x, _, h => by cases h; exact .base (.str x)
  | .list ds, _, h => by
    cases h with
    | lst ha hs => exact .base (.lst ha)
  | .tuple ds, _, h => by
    cases h with
    | tup ha hs => exact .base (.tup ha)
  | .dict _, _, h => by cases h
def isNoneD : PyData → Bool
  | .none => true
  | _ => false
theorem Dt.isNon {H : Hp} {d : PyData} {v : V} (h : Dt H v d) : decide (v = V.non) = isNoneD d := by
  cases h <;> rfl
def isIntD : PyData → Bool
  | .int _ => true
  | .bool _ => true
  | _ => false
def isBoolD : PyData → Bool
  | .bool _ => true
  | _ => false
def isTupD : PyData → Bool
  | .tuple _ => true
  | _ => false
def isListD : PyData → Bool
  | .list _ => true
  | _ => false
theorem kitInt : ∀ d : PyData, kitB (tyName d) "int" = some (isIntD d)
  | .none => (by decide +kernel : kitB "NoneType" "int" = some false)
  | .bool _ => (by decide +kernel : kitB "bool" "int" = some true)
  | .int _ => (by decide +kernel : kitB "int" "int" = some true)
  | .str _ => (by decide +kernel : kitB "str" "int" = some false)
  | .list _ => (by decide +kernel : kitB "list" "int" = some false)
  | .tuple _ => (by decide +kernel : kitB "tuple" "int" = some false)
  | .dict _ => (by decide +kernel : kitB "dict" "int" = some false)
theorem kitBool : ∀ d : PyData, kitB (tyName d) "bool" = some (isBoolD d)
  | .none => (by decide +kernel : kitB "NoneType" "bool" = some false)
  | .bool _ => (by decide +kernel : kitB "bool" "bool" = some true)
  | .int _ => (by decide +kernel : kitB "int" "bool" = some false)
  | .str _ => (by decide +kernel : kitB "str" "bool" = some false)
  | .list _ => (by decide +kernel : kitB "list" "bool" = some false)
  | .tuple _ => (by decide +kernel : kitB "tuple" "bool" = some false)
  | .dict _ => (by decide +kernel : kitB "dict" "bool" = some false)
theorem kitTup : ∀ d : PyData, kitB (tyName d) "tuple" = some (isTupD d)
  | .none => (by decide +kernel : kitB "NoneType" "tuple" = some false)
  | .bool _ => (by decide +kernel : kitB "bool" "tuple" = some false)
  | .int _ => (by decide +kernel : kitB "int" "tuple" = some false)
  | .str _ => (by decide +kernel : kitB "str" "tuple" = some false)
  | .list _ => (by decide +kernel : kitB "list" "tuple" = some false)
  | .tuple _ => (by decide +kernel : kitB "tuple" "tuple" = some true)
  | .dict _ => (by decide +kernel : kitB "dict" "tuple" = some false)
theorem kitList : ∀ d : PyData, kitB (tyName d) "list" = some (isListD d)
  | .none => (by decide +kernel : kitB "NoneType" "list" = some false)
  | .bool _ => (by decide +kernel : kitB "bool" "list" = some false)
  | .int _ => (by decide +kernel : kitB "int" "list" = some false)
  | .str _ => (by decide +kernel : kitB "str" "list" = some false)
  | .list _ => (by decide +kernel : kitB "list" "list" = some true)
  | .tuple _ => (by decide +kernel : kitB "tuple" "list" = some false)
  | .dict _ => (by decide +kernel : kitB "dict" "list" = some false)
theorem r_isi {K : PySem.W.Frag} {H : Hp} {v : V} {d : PyData} {T : String} {b : Bool} {Q : VK} (h : Dt H v d) (e : kitB (tyName d) T = some b) (k : Q (.bl b) H) : rIsi K [v, .ty T] H Q :=
  ⟨_, _, _, _, _, rfl, .ty _, h.ty, kit_ty e, k⟩
/-- lo ≤ i ≤ hi, of a whole number -/
def isI (d : PyData) (lo hi : Int) : Bool := match d with
  | .int i => decide (lo ≤ i) && decide (i ≤ hi)
  | _ => false
def geI (d : PyData) (lo : Int) : Bool := match d with
  | .int i => decide (lo ≤ i)
  | _ => false
def spGe : Sp := fun vs H Q _ => ∃ v d lo, vs = [v, .int lo] ∧ Dt H v d ∧ Q (.bl (geI d lo)) H
def spBtw : Sp := fun vs H Q _ => ∃ v d lo hi, vs = [v, .int lo, .int hi] ∧ Dt H v d ∧ Q (.bl (isI d lo hi)) H
def spIdx : Sp := fun vs H Q _ => ∃ v d n, vs = [v, .int n] ∧ Dt H v d ∧ Q (.bl (isI d 0 (n - 1))) H
def spWord : Sp := fun vs H Q _ => ∃ v d, vs = [v] ∧ Dt H v d ∧ Q (.bl (isI d 0 4294967295)) H
theorem Dt.new {H : Hp} {p : Addr} {xs : List V} {ds : List PyData} (h : DtAll H xs ds) (hp : H p = none) : Dt (upd H p (.tup xs)) (.ref p) (.tuple ds) := .tup upd_same (h.same (Same.new hp))
/-- t + u of data -/
theorem r_catD {K : PySem.W.Frag} {H : Hp} {v u : V} {ds es : List PyData} {Q : VK} (h1 : Dt H v (.tuple ds)) (h2 : Dt H u (.tuple es)) (hz : ds.length + es.length ≤ 100000) (k : ∀ v' H', Same H H' → Dt H' v' (.tuple (ds ++ es)) → Q v' H') : rCatA K v u H Q := by
  cases h1 with
  | @tup a xs _ ha hs =>
    cases h2 with
    | @tup b ys _ hb ht =>
      refine ⟨a, b, xs, ys, rfl, rfl, SqT.of ha, SqT.of hb, szn (by rw [hs.len, ht.len]; exact hz), fun e => ?_, fun _ e => ?_, fun _ _ p hp => ?_⟩
      · subst e
        have : ds = [] := List.length_eq_zero_iff.mp (by rw [← hs.len]; rfl)
        subst this
        exact k _ _ (Same.refl H) (.tup hb ht)
      · subst e
        have : es = [] := List.length_eq_zero_iff.mp (by rw [← ht.len]; rfl)
        subst this
        rw [List.append_nil] at k
        exact k _ _ (Same.refl H) (.tup ha hs)
      · exact k _ _ (Same.new hp) (Dt.new (hs.append ht) hp)
/-! ### comprehensions whose elements change nothing that stood -/
theorem take_snoc {α : Type} {l : List α} {i : Nat} {y : α} (h : l[i]? = some y) : l.take i ++ [y] = l.take (i + 1) := by
  rw [List.take_add_one, h]; rfl
section
variable {K : PySem.W.Frag} {g : TG} {te : TE} {vs : List Nat} {σ : L2.St} {H : Hp} {D : Addr} {Qd : Hp → Prop}
/-- over a tuple: ys are the elements -/
theorem lcT {a : Addr} {xs : List V} (ys : List V) (hl : ys.length = xs.length) (hz : xs.length < 100000) (hx : H a = some (.tup xs)) (hD : H D = none)
    (step : ∀ (j : Nat) (x y : V) (H1 : Hp) (Q' : VK), xs[j]? = some x → ys[j]? = some y → Same H H1 → (∀ H2, Same H1 H2 → Q' y H2) → g x (wipe σ vs) H1 fun σ2 H2 => wipe σ2 vs = wipe σ vs ∧ te σ2 H2 Q')
    (k : ∀ H1, Same H H1 → H1 D = some (.lst ys) → Qd H1) :
    ∃ W : Nat → Nat → Hp → Prop, (∃ m, W 0 m (upd H D (.lst []))) ∧ ∀ i m H, W i m H →
      ((Itt K a).stop i H ∧ Qd H) ∨ ((Itt K a).go i H ∧ ∃ Nx : Hp → Prop, (∀ H', Nx H' → ∃ m', m' < m ∧ W (i + 1) m' H') ∧ ∀ x H', (Itt K a).yld i H x H' → g x (wipe σ vs) H' fun σ2 H2 => wipe σ2 vs = wipe σ vs ∧ tYes σ2 H2 fun b H3 =>
        if b = true then te σ2 H3 fun y H4 => ∃ acc, H4 D = some (.lst acc) ∧ acc.length < sizeLine ∧ Nx (upd H4 D (.lst (acc ++ [y]))) else Nx H3) := by
  refine lc_tup (K := K) (xs := xs) (fun i H1 => Same H H1 ∧ H1 D = some (.lst (ys.take i))) ⟨Same.new hD, upd_same⟩ (fun i H1 _ h => SqT.of (h.1 _ _ hx)) ?_ ?_
  · rintro i x H1 hi ⟨s1, d1⟩
    have hil : i < xs.length := (List.getElem?_eq_some_iff.mp hi).1
    have hy : ys[i]? = some ys[i] := List.getElem?_eq_getElem (by omega)
    refine step i x _ H1 _ hi hy s1 fun H2 s2 => ?_
    refine ⟨_, s2 _ _ d1, ?_, Same.mut (s1.trans s2) hD, ?_⟩
    · rw [List.length_take]
      exact Nat.lt_of_lt_of_le (Nat.lt_of_le_of_lt (Nat.min_le_right _ _) (by omega : ys.length < 100000)) (by decide)
    · rw [take_snoc hy]; exact upd_same
  · rintro H1 ⟨s1, d1⟩
    rw [List.take_of_length_le (by omega)] at d1
    exact k H1 s1 d1
/-- over a list: ys are the elements -/
theorem lcL {a : Addr} {xs : List V} (ys : List V) (hl : ys.length = xs.length) (hz : xs.length < 100000) (hx : H a = some (.lst xs)) (hD : H D = none)
    (step : ∀ (j : Nat) (x y : V) (H1 : Hp) (Q' : VK), xs[j]? = some x → ys[j]? = some y → Same H H1 → (∀ H2, Same H1 H2 → Q' y H2) → g x (wipe σ vs) H1 fun σ2 H2 => wipe σ2 vs = wipe σ vs ∧ te σ2 H2 Q')
    (k : ∀ H1, Same H H1 → H1 D = some (.lst ys) → Qd H1) :
    ∃ W : Nat → Nat → Hp → Prop, (∃ m, W 0 m (upd H D (.lst []))) ∧ ∀ i m H, W i m H →
      ((Itl K a).stop i H ∧ Qd H) ∨ ((Itl K a).go i H ∧ ∃ Nx : Hp → Prop, (∀ H', Nx H' → ∃ m', m' < m ∧ W (i + 1) m' H') ∧ ∀ x H', (Itl K a).yld i H x H' → g x (wipe σ vs) H' fun σ2 H2 => wipe σ2 vs = wipe σ vs ∧ tYes σ2 H2 fun b H3 =>
        if b = true then te σ2 H3 fun y H4 => ∃ acc, H4 D = some (.lst acc) ∧ acc.length < sizeLine ∧ Nx (upd H4 D (.lst (acc ++ [y]))) else Nx H3) := by
  refine lc_list (K := K) (xs := xs) (fun i H1 => Same H H1 ∧ H1 D = some (.lst (ys.take i))) ⟨Same.new hD, upd_same⟩ (fun i H1 _ h => SqL.of (h.1 _ _ hx)) ?_ ?_
  · rintro i x H1 hi ⟨s1, d1⟩
    have hil : i < xs.length := (List.getElem?_eq_some_iff.mp hi).1
    have hy : ys[i]? = some ys[i] := List.getElem?_eq_getElem (by omega)
    refine step i x _ H1 _ hi hy s1 fun H2 s2 => ?_
    refine ⟨_, s2 _ _ d1, ?_, Same.mut (s1.trans s2) hD, ?_⟩
    · rw [List.length_take]
      exact Nat.lt_of_lt_of_le (Nat.lt_of_le_of_lt (Nat.min_le_right _ _) (by omega : ys.length < 100000)) (by decide)
    · rw [take_snoc hy]; exact upd_same
  · rintro H1 ⟨s1, d1⟩
    rw [List.take_of_length_le (by omega)] at d1
    exact k H1 s1 d1
theorem lcR {lo : Int} {n : Nat} (ys : List V) (hl : ys.length = n) (hz : n < 100000) (hD : H D = none)
    (step : ∀ (j : Nat) (y : V) (H1 : Hp) (Q' : VK), ys[j]? = some y → Same H H1 → (∀ H2, Same H1 H2 → Q' y H2) → g (.int (lo + j)) (wipe σ vs) H1 fun σ2 H2 => wipe σ2 vs = wipe σ vs ∧ te σ2 H2 Q')
    (k : ∀ H1, Same H H1 → H1 D = some (.lst ys) → Qd H1) :
    ∃ W : Nat → Nat → Hp → Prop, (∃ m, W 0 m (upd H D (.lst []))) ∧ ∀ i m H, W i m H →
      ((Itr lo n).stop i H ∧ Qd H) ∨ ((Itr lo n).go i H ∧ ∃ Nx : Hp → Prop, (∀ H', Nx H' → ∃ m', m' < m ∧ W (i + 1) m' H') ∧ ∀ x H', (Itr lo n).yld i H x H' → g x (wipe σ vs) H' fun σ2 H2 => wipe σ2 vs = wipe σ vs ∧ tYes σ2 H2 fun b H3 =>
        if b = true then te σ2 H3 fun y H4 => ∃ acc, H4 D = some (.lst acc) ∧ acc.length < sizeLine ∧ Nx (upd H4 D (.lst (acc ++ [y]))) else Nx H3) := by
  refine lc_range (fun i H1 => Same H H1 ∧ H1 D = some (.lst (ys.take i))) ⟨Same.new hD, upd_same⟩ ?_ ?_
  · rintro i H1 hi ⟨s1, d1⟩
    have hy : ys[i]? = some ys[i] := List.getElem?_eq_getElem (by omega)
    refine step i _ H1 _ hy s1 fun H2 s2 => ?_
    refine ⟨_, s2 _ _ d1, ?_, Same.mut (s1.trans s2) hD, ?_⟩
    · rw [List.length_take]
      exact Nat.lt_of_lt_of_le (Nat.lt_of_le_of_lt (Nat.min_le_right _ _) (by omega : ys.length < 100000)) (by decide)
    · rw [take_snoc hy]; exact upd_same
  · rintro H1 ⟨s1, d1⟩
    rw [List.take_of_length_le (by omega)] at d1
    exact k H1 s1 d1
end
end My

namespace My
open PySem L2
theorem units1 {k : Nat} {A : Around} (r : Room k A) : A.units + 1 < cLine := by have := r.un; omega
theorem units71 {k : Nat} {A : Around} (r : Room k A) : A.units + 71 < cLine := by have := r.un; omega
/-! ### d.update(e) -/
def rUpd : V → List V → Hp → VK → Prop := fun x xs H Q => ∃ (a b : Addr) (kvs more : List (Key × V)), x = .ref a ∧ xs = [.ref b] ∧ a ≠ b ∧ H a = some (.dK kvs) ∧ H b = some (.dK more) ∧ kvs.length + more.length ≤ sizeLine ∧ Q .non (upd H a (.dK (mergeK kvs more)))
open PySem.Spec PyProof.Rows in
theorem mt_update {X : Cx} : MtR X "dict.update" rUpd := by
  intro pins s σ H x xs v us Q I rx rxs h
  obtain ⟨a, b, kvs, more, rfl, rfl, hab, ha, hb, hz, q⟩ := h
  cases rx
  obtain ⟨u, rfl, ru⟩ := rxs.one
  cases ru
  obtain ⟨z, hd, vs, rel, dd⟩ := dk_of I.hok ha
  obtain ⟨z2, hd2, vs2, rel2, dd2⟩ := dk_of I.hok hb
  refine call_meetsIn PySem.F.slot_dict_update dd.typeIs PySem.F.entry_dict_update (PySem.F.args_dict_update_2 _ _) (meets_dict_update (mixKind X.prog X.w) a b hab hd2) ⟨vs, vs2, dd, dd2, by rw [← rel.length, ← rel2.length]; exact hz, fun h' dd' _ hs => ?_⟩
  have he : ∃ q, h'.get? a = some q := let ⟨q, _, _, hq, _⟩ := dd'; ⟨q, hq⟩
  exact ⟨.non, _, d_write (t' := s.toks) I (by rw [ha]; exact True.intro) hs he (dk_new (Nat.le_trans (length_mergeK _ _) hz) hd (KV.merge rel2 rel) dd'), rfl, q⟩
/-! ### != of tuples within one model -/
section
open PySem.Spec PyProof.Rows PySem.SeqAt
open AutoSeq1 (wpAny_loadPart')
open MeetsSeq MeetsSeq2 MeetsSeq3
variable {prog : Program} {w : World}
theorem tuple_neP (l b : Addr) (items items2 : Array Value) (n n2 : Nat) (dd dd2 : Option Addr) (sl sl2 : Array (Option Value)) (e : Nat → Bool) :
    MeetsIn prog w (Builtin.«tuple.__ne__» ⟨[.ref l, .ref b], []⟩)
      (fun A R s => s.heap.get? l = some { cls := .type "tuple", dict := dd, data := .seq items n, slots := sl } ∧ s.heap.get? b = some { cls := .type "tuple", dict := dd2, data := .seq items2 n2, slots := sl2 } ∧
        (∀ j (h1 : j < items.size) (h2 : j < items2.size), EqP prog w A.in1 s items[j] items2[j] (e j)) ∧
        R (.ok (.ret (.bool (!((List.range (min items.size items2.size)).all e && items.size == items2.size))))) s) :=
  .of_wp fun A R s h => by
    obtain ⟨hp, g, d, tk, os⟩ := s; obtain ⟨hl, hb, he, h⟩ := h
    have f2 := AutoSeq1.sub_tuple_tuple
    have hZ : (items.toList.zip items2.toList).length = min items.size items2.size := by simp
    wp_walk using wpAny_loadPart' hl, wpAny_loadPart' hb, wpAny_forIn_list _ (fun rest b s' => b.1 = none ∧ s' = ⟨hp, g, d, tk, os⟩ ∧ ∃ i, rest = (items.toList.zip items2.toList).drop i ∧
      R (.ok (.ret (.bool (!(((List.range (min items.size items2.size)).drop i).all e && items.size == items2.size))))) ⟨hp, g, d, tk, os⟩) _
    case turn =>
      rintro ⟨y, x⟩ rest b s' ⟨hb', rfl, i, hz, hR⟩
      have hlt : i < (items.toList.zip items2.toList).length := by
        rcases Nat.lt_or_ge i (items.toList.zip items2.toList).length with h' | h'
        · exact h'
        · rw [List.drop_of_length_le h'] at hz; cases hz
      have hm : i < min items.size items2.size := hZ ▸ hlt
      have h1 : i < items.size := Nat.lt_of_lt_of_le hm (Nat.min_le_left _ _)
      have h2 : i < items2.size := Nat.lt_of_lt_of_le hm (Nat.min_le_right _ _)
      rw [List.drop_eq_getElem_cons hlt] at hz
      injection hz with hyx hrest
      have hy : y = items[i] := by have := congrArg Prod.fst hyx; simpa using this
      have hx : x = items2[i] := by have := congrArg Prod.snd hyx; simpa using this
      subst hy hx
      have hd : (List.range (min items.size items2.size)).drop i = i :: (List.range (min items.size items2.size)).drop (i + 1) := by simp [List.drop_eq_getElem_cons, hm]
      rw [hd, List.all_cons] at hR
      refine wpAny_bind (he i h1 h2 _ _ ?_)
      cases hy : e i with
      | true =>
        rw [hy] at hR
        wp_walk
        exact ⟨rfl, rfl, i + 1, hrest, by simpa using hR⟩
      | false =>
        rw [hy] at hR
        wp_walk
        exact ⟨_, rfl, by simpa using hR⟩
    case fin =>
      rintro ⟨b1, b2⟩ s' ⟨hb', rfl, i, hz, hR⟩
      simp only at hb'
      subst hb'
      have hge : min items.size items2.size ≤ i := by
        rcases Nat.lt_or_ge i (items.toList.zip items2.toList).length with h' | h'
        · rw [List.drop_eq_getElem_cons h'] at hz; cases hz
        · exact hZ ▸ h'
      rw [List.drop_of_length_le (by simpa using hge)] at hR
      wp_walk
      exact ⟨_, rfl, by simpa [Builtin.Tuple.tupleCompareSizes, bne] using hR⟩
    case h =>
      exact ⟨rfl, rfl, 0, rfl, by simpa using h⟩
theorem rcnP_tuples {A : Around} {s : Shared} {l b : Addr} {items items2 : Array Value} {e : Nat → Bool} (hl : s.heap.IsTuple l items) (hb : s.heap.IsTuple b items2) (hu : A.units < cLine)
    (he : ∀ j (h1 : j < items.size) (h2 : j < items2.size), EqP prog w A.in1 s items[j] items2[j] (e j)) (E Q : Value → Shared → Prop) (h : Q (.bool (!((List.range (min items.size items2.size)).all e && items.size == items2.size))) s) :
    wpAny (model prog w) A (richCompare .NotEq (.ref l) (.ref b)) Q E s := by
  obtain ⟨⟨cls, dd, data, sl⟩, ho, hc, n, hd⟩ := id hl
  obtain ⟨⟨cls2, dd2, data2, sl2⟩, ho2, hc2, n2, hd2⟩ := id hb
  simp only at hc hd hc2 hd2
  subst hc hd hc2 hd2
  have ta : s.TypeIs (.ref l) "tuple" := ⟨_, ho, rfl⟩
  have tb : s.TypeIs (.ref b) "tuple" := ⟨_, ho2, rfl⟩
  exact wpAny_richCompare_same_room (op := .NotEq) ta tb F.slot_tuple_ne (call_meetsIn F.slot_tuple_ne ta F.entry_tuple_ne (F.args_tuple_ne_2 _ _) (tuple_neP l b items items2 n n2 dd dd2 sl sl2 e)
    ⟨ho, ho2, he, (show Value.bool (!((List.range (min items.size items2.size)).all e && items.size == items2.size)) ≠ Value.notImplemented ∧ Q (.bool (!((List.range (min items.size items2.size)).all e && items.size == items2.size))) s from ⟨(fun x => nomatch x), h⟩)⟩) hu
end
/-- the same data -/
def LfV (K : PySem.W.Frag) (H : Hp) (x y : V) : Prop := ∃ d, Dp K H x d ∧ Dp K H y d ∧ SeqAt.shaped d = true
/-- lists of dicts with the same data -/
def FoV (K : PySem.W.Frag) (H : Hp) (x y : V) : Prop := EqR K H (EqR K H (LfV K H)) x y
section
variable {X : Cx} {pins : List (Addr × Obj)} {σ : L2.St} {H : Hp} {s : Shared}
theorem lf_run (I : Inv X pins σ H s) {A : Around} (hu : A.units + 64 < cLine) {x y : V} {v u : Value} (h : LfV X.K H x y) (rx : RelV x v) (ry : RelV y u) : SeqAt.EqP X.prog X.w A s v u true := by
  obtain ⟨d, h1, h2, hs⟩ := h
  obtain ⟨as, r1⟩ := Dp.reads I d x v h1 rx
  obtain ⟨bs, r2⟩ := Dp.reads I d y u h2 ry
  have z := SeqAt.eqAt_reads d d A s v u as bs r1 r2 (SeqAt.canLay_of_shaped hs) (SeqAt.canLay_of_shaped hs) (SeqAt.room_of_shaped hs hu)
  rw [SeqAt.eqv_refl _ (SeqAt.canLay_of_shaped hs)] at z
  exact z.eqP
theorem eqR_P (I : Inv X pins σ H s) {A : Around} {F : V → V → Prop} (hu : A.units < cLine) (ih : ∀ x y v u, F x y → RelV x v → RelV y u → SeqAt.EqP X.prog X.w A.in1 s v u true) {x y : V} {v u : Value} (h : EqR X.K H F x y) (rx : RelV x v) (ry : RelV y u) : SeqAt.EqP X.prog X.w A s v u true := by
  have step := eqR_run I hu ih h rx ry
  obtain ⟨a, b, rfl, rfl⟩ : ∃ a b, x = .ref a ∧ y = .ref b := by
    rcases h with ⟨a, b, _, _, e1, e2, _⟩ | ⟨a, b, _, _, e1, e2, _⟩
    · exact ⟨a, b, e1, e2⟩
    · exact ⟨a, b, e1, e2⟩
  cases (show v = Value.ref a from rx)
  cases (show u = Value.ref b from ry)
  by_cases e : a = b
  · subst e
    exact (SeqAt.EqAt.same _).eqP
  · exact SeqAt.eqP_refs e step
end
def rNeF (K : PySem.W.Frag) : R2 := fun x y H Q => ((∃ d, Dp K H x d ∧ Dp K H y d ∧ SeqAt.shaped d = true) ∨ ∃ a b z u v, x = .ref a ∧ y = .ref b ∧ SqT K H a [.str z, u] ∧ SqT K H b [.str z, v] ∧ FoV K H u v) ∧ Q (.bl false) H
open PySem.Spec PyProof.Rows in
theorem op_neF {X : Cx} (hu : X.A.units + 71 < cLine) : OpR X (compareOp .NotEq) (rNeF X.K) := by
  intro pins s σ H x y v u Q I rx ry h
  obtain ⟨⟨d, h1, h2, hs⟩ | ⟨a, b, z, v1, v2, rfl, rfl, ha, hb, hf⟩, q⟩ := h
  · obtain ⟨as, r1⟩ := Dp.reads I d x v h1 rx
    obtain ⟨bs, r2⟩ := Dp.reads I d y u h2 ry
    refine SeqAt.compareNe_shaped r1 r2 hs hs (by omega) ⟨.bl _, H, I, rfl, ?_⟩
    rw [SeqAt.eqv_refl _ (SeqAt.canLay_of_shaped hs)]
    exact q
  · cases (show v = Value.ref a from rx)
    cases (show u = Value.ref b from ry)
    obtain ⟨us, r1, p1, _⟩ := I.tuple ha
    obtain ⟨ws, r2, p2, _⟩ := I.tuple hb
    refine rcnP_tuples (e := fun _ => true) (show s.heap.IsTuple a us.toArray from p1) (show s.heap.IsTuple b ws.toArray from p2) (by omega) (fun j j1 j2 => ?_) _ _ ?_
    · cases r1 with
      | cons a1 r1 => cases r1 with
        | cons a2 r1 => cases r1; cases r2 with
          | cons b1 r2 => cases r2 with
            | cons b2 r2 =>
              cases r2
              match j, j1, j2 with
              | 0, _, _ => exact (eqAt_same (v := V.str z) a1 b1 rfl).eqP
              | 1, _, _ =>
                exact eqR_P I (A := X.A.in1) (by show X.A.units + 1 < cLine; omega) (fun x y v u h rx ry => eqR_P I (A := X.A.in1.in1) (by show X.A.units + 1 + 1 < cLine; omega) (fun x y v u h rx ry => lf_run I (by show X.A.units + 1 + 1 + 1 + 64 < cLine; omega) h rx ry) h rx ry) hf a2 b2
              | n + 2, j1, _ => exact absurd j1 (by simp)
    · have e1 : us.length = 2 := by rw [← r1.length]; rfl
      have e2 : ws.length = 2 := by rw [← r2.length]; rfl
      have e3 : (!((List.range (min us.toArray.size ws.toArray.size)).all (fun _ => true) && us.toArray.size == ws.toArray.size)) = false := by simp [e1, e2]
      rw [e3]
      exact ⟨.bl false, H, I, rfl, q⟩
theorem kNeF {X : Cx} (K : PySem.W.Frag) (hu : X.A.units + 71 < cLine) (h : X.K = K := by rfl) : OpR X (compareOp .NotEq) (rNeF K) := by subst h; exact op_neF hu
/-! ### many dicts locked -/
abbrev AK := Addr × List (Key × V)
def lockAll : Hp → List AK → List Obj → Hp
  | H, (d, kvs) :: ds, od :: ods => lockAll (upd H d (.frz od (.dK kvs))) ds ods
  | H, _, _ => H
def freeAll : Hp → List AK → Hp
  | H, [] => H
  | H, (d, kvs) :: ds => freeAll (upd H d (.dK kvs)) ds
theorem lockAll_other : ∀ {ds : List AK} {ods : List Obj} {H : Hp} {b : Addr}, b ∉ ds.map (·.1) → lockAll H ds ods b = H b
  | [], _, _, _, _ => rfl
  | (d, kvs) :: ds, [], _, _, _ => rfl
  | (d, kvs) :: ds, od :: ods, H, b, h => by
    rw [List.map_cons, List.mem_cons, not_or] at h
    show lockAll (upd H d _) ds ods b = _
    rw [lockAll_other h.2, upd_ne h.1]
theorem lockAll_at : ∀ {ds : List AK} {ods : List Obj} {H : Hp}, (ds.map (·.1)).Nodup → ods.length = ds.length → ∀ p ∈ ds, ∃ od, lockAll H ds ods p.1 = some (.frz od (.dK p.2))
  | [], _, _, _, _, p, h => by cases h
  | (d, kvs) :: ds, [], _, _, hl, _, _ => by cases hl
  | (d, kvs) :: ds, od :: ods, H, nd, hl, p, h => by
    rw [List.map_cons, List.nodup_cons] at nd
    rcases List.mem_cons.mp h with rfl | h
    · exact ⟨od, by show lockAll (upd H d _) ds ods d = _; rw [lockAll_other nd.1, upd_same]⟩
    · exact lockAll_at nd.2 (by simpa using hl) p h
theorem freeAll_other : ∀ {ds : List AK} {H : Hp} {b : Addr}, b ∉ ds.map (·.1) → freeAll H ds b = H b
  | [], _, _, _ => rfl
  | (d, kvs) :: ds, H, b, h => by
    rw [List.map_cons, List.mem_cons, not_or] at h
    show freeAll (upd H d _) ds b = _
    rw [freeAll_other h.2, upd_ne h.1]
section
variable {X : Cx} {pins : List (Addr × Obj)} {σ : L2.St} {s : Shared}
theorem inv_lockAll : ∀ {ds : List AK} {H : Hp}, Inv X pins σ H s → (ds.map (·.1)).Nodup → (∀ p ∈ ds, H p.1 = some (.dK p.2)) → ∃ ods : List Obj, ods.length = ds.length ∧ Inv X pins σ (lockAll H ds ods) s
  | [], H, I, _, _ => ⟨[], rfl, I⟩
  | (d, kvs) :: ds, H, I, nd, h => by
    rw [List.map_cons, List.nodup_cons] at nd
    obtain ⟨od, I1⟩ := I.lock (h _ List.mem_cons_self) (by exact True.intro)
    obtain ⟨ods, hl, I2⟩ := inv_lockAll (ds := ds) I1 nd.2 fun p hp => by
      rw [upd_ne (fun e => nd.1 (List.mem_map.mpr ⟨p, hp, e⟩))]
      exact h p (List.mem_cons_of_mem _ hp)
    exact ⟨od :: ods, by rw [List.length_cons, hl, List.length_cons], I2⟩
theorem inv_freeAll : ∀ {ds : List AK} {H : Hp}, Inv X pins σ H s → (ds.map (·.1)).Nodup → (∀ p ∈ ds, (∀ o' u', X.H_0 p.1 ≠ some (.frz o' u')) ∧ ∃ od, H p.1 = some (.frz od (.dK p.2))) → Inv X pins σ (freeAll H ds) s
  | [], H, I, _, _ => I
  | (d, kvs) :: ds, H, I, nd, h => by
    rw [List.map_cons, List.nodup_cons] at nd
    obtain ⟨n, od, e⟩ := h _ List.mem_cons_self
    refine inv_freeAll (ds := ds) (I.unlock e n) nd.2 fun p hp => ?_
    obtain ⟨n', od', e'⟩ := h p (List.mem_cons_of_mem _ hp)
    exact ⟨n', od', by rw [upd_ne (fun e => nd.1 (List.mem_map.mpr ⟨p, hp, e⟩))]; exact e'⟩
end
def iListL (K : PySem.W.Frag) (tl : TE) : TI := fun σ H R => tl σ H fun x H1 => ∃ (a : Addr) (ds : List AK), x = .ref a ∧ SqL K H1 a (ds.map fun p => V.ref p.1) ∧ a ∉ ds.map (·.1) ∧ (ds.map (·.1)).Nodup ∧ (∀ p ∈ ds, H1 p.1 = some (.dK p.2)) ∧ ∀ ods : List Obj, ods.length = ds.length → R (Itl K a) (lockAll H1 ds ods)
theorem pi_listL {X : Cx} {tg l : Expr} {tl : TE} (hl : PE X l tl) : PI X tg l (iListL X.K tl) := by
  refine ⟨fun pins s σ H R I h => ?_⟩
  refine thn (hl.run pins s σ H _ I h) fun v s1 ⟨x, H1, I1, r1, q1⟩ => ?_
  obtain ⟨a, ds, e, hq, ha, nd, hds, q⟩ := q1
  subst e
  cases r1
  obtain ⟨its, rv, p, hz⟩ := I1.list hq
  obtain ⟨ods, ol, I2⟩ := inv_lockAll I1 nd hds
  refine wpAny_pyIter_list p.isList ?_
  refine ⟨s1.heap.objs.size, [s1.heap.objs.size], _, _, lockAll H1 ds ods, rfl, I2.kept (t' := s1.toks) fun b o e => Heap.get?_push_of_some _ e, turn_list a _, ⟨_, Heap.get?_push_size _ rfl, rfl, rfl⟩, fun b hb => ?_, q ods ol⟩
  have e : b = s1.heap.objs.size := by simpa using hb
  subst e
  exact I2.fpOk (Nat.le_refl _) (I2.hok.fresh (Nat.le_refl _))
theorem kpiLL {X : Cx} {tg l : Expr} {tl : TE} (K : PySem.W.Frag) (hl : PE X l tl) (h : X.K = K := by rfl) : PI X tg l (iListL K tl) := by subst h; exact pi_listL hl
def tUnl (t : TE) : TE := fun σ H Q => t σ H fun v H' => ∃ ds : List AK, (ds.map (·.1)).Nodup ∧ (∀ p ∈ ds, H p.1 = none ∧ ∃ od, H' p.1 = some (.frz od (.dK p.2))) ∧ Q v (freeAll H' ds)
theorem pe_unl {X : Cx} {e : Expr} {t : TE} (h : PE X e t) : PE X e (tUnl t) := by
  refine ⟨fun pins s σ H Q I hw => ?_⟩
  refine thn (h.run pins s σ _ _ I hw) fun v s1 ⟨x, H1, I2, r, ds, nd, hds, q⟩ => ?_
  refine ⟨x, _, inv_freeAll I2 nd fun p hp => ⟨fun o' u' e => ?_, (hds p hp).2⟩, r, q⟩
  have z := I.base.frzs p.1 o' u' e
  rw [(hds p hp).1] at z
  cases z
end My

/-! d.pop(k), k a tuple that is there -/
namespace My
section
open PySem PySem.W PySem.Calls PyProof.Rows PyProof.V PySem.Spec DT
section
variable {prog : Program} {w : World} {K : Type} [DecidableEq K] {knd : HeapKind prog w K}
theorem my_meetsPop1 {d b : Addr} {k : K} (hd : (d == sysModules) = false) :
    MeetsIn prog w (Builtin.«dict.pop» ⟨[.ref d, .ref b], []⟩) (fun A R s => ∃ xs p, knd.room A.in1 ∧ knd.is s.heap k b ∧ s.heap.DictOfH knd d xs ∧ xs.length ≤ sizeLine ∧ atKey xs k = some p ∧
      ∀ h' tk, h'.DictOfH knd d (DT.dropH xs k) → Heap.SameBut d s.heap h' → R (.ok (.ret p.2)) { s with heap := h', toks := tk }) :=
  .of_wp fun A R s ⟨xs, p, hu, hkey, hm, hsz, hat, hsome⟩ => by
    obtain ⟨o, es, ep, ho, hc, hdat, he, his, hn⟩ := id hm
    have hes : es.size = xs.length := size_of_entries he
    have hpart : (keyPart (Value.ref b)).isSome = false := rfl
    unfold Builtin.«dict.pop»
    refine wpAny_bind ?_
    unfold Builtin.Dict.keyAndDefault
    refine wpAny_bind (wpAny_notOrdered_dict hm.typeIs ?_)
    show wpAny _ _ (pure (d, Value.ref b, none)) _ _ s
    refine wpAny_pure ?_
    simp only [hpart, Bool.false_eq_true, if_false]
    refine wpAny_bind (wpAny_dictEntries ho hdat (wpAny_bind (wpAny_pure ?_)))
    cases hem : es.isEmpty with
    | true =>
      have h0 : xs = [] := by
        have z : es.size = 0 := by simpa using hem
        exact List.length_eq_zero_iff.mp (by omega)
      rw [h0] at hat
      cases hat
    | false =>
      simp only [Bool.false_eq_true, if_false]
      refine wpAny_bind (DT.takeH hu hkey hm hsz (fun hno => ?_) fun p' e hp hev h' hm' hs' => ?_)
      · rw [hat] at hno; cases hno
      · rw [hat] at hp
        cases hp
        simp only [Option.isNone_some, Bool.false_eq_true, if_false]
        exact wpAny_bind (wpAny_letGo (wpAny_pure ⟨e.val, rfl, by rw [hev]; exact hsome h' _ hm' hs'⟩))
end
end
end My
namespace My
open PySem L2
def rPopT1 : V → List V → Hp → VK → Prop := fun x xs H Q => ∃ (a : Addr) (kvs : List (List L2.Key × V)) (k : List L2.Key) (b : Addr) (v : V), x = .ref a ∧ xs = [.ref b] ∧ H a = some (.dT kvs) ∧ H b = some (.tup (k.map kV)) ∧ valV kvs k = some v ∧ Q v (upd H a (.dT (dropK kvs k)))
open PySem.Spec PyProof.Rows in
theorem mt_popT1 {X : Cx} (hu : X.A.units + 1 < cLine) : MtR X "dict.pop" rPopT1 := by
  intro pins s σ H x xs v us Q I rx rxs h
  obtain ⟨a, kvs, k, b, v0, rfl, rfl, ha, hb, ev, q⟩ := h
  cases rx
  obtain ⟨u1, rfl, r1⟩ := rxs.one
  cases r1
  obtain ⟨z, hd, xs', rel, dd⟩ := dt_of I.hok ha
  have hz : xs'.length ≤ sizeLine := by rw [← Paired.length rel]; exact z
  have r := rel.val k
  rw [ev] at r
  cases hp : atKey xs' k with
  | none => rw [hp] at r; exact (show False from r).elim
  | some p =>
    rw [hp] at r
    have rv : RelV v0 p.2 := r
    refine call_meetsIn PySem.F.slot_dict_pop dd.typeIs PySem.F.entry_dict_pop (PySem.F.args_dict_pop_2 _ _) (my_meetsPop1 (knd := tupleKind (mixKind X.prog X.w)) (k := k) hd)
      ⟨xs', p, tupleKind_room_in1 hu, key_of I.hok hb, dd, hz, hp, fun h' tk dd' hs => ?_⟩
    obtain ⟨o, es, ep, hq, h2, h3, h4, _, h5⟩ := dd'
    have I2 : Inv X pins σ (upd H a (.dT (dropK kvs k))) { s with heap := h', toks := tk } :=
      d_write I (by rw [ha]; exact True.intro) hs ⟨o, hq⟩ ⟨Nat.le_trans (dropK_le kvs k) z, hd, _, (L2.DX.KT_drop k rel).keeps (fun c ys ec => (by rw [upd_ne (ne_of ec ha (fun z => nomatch z))]; exact ec)), o, es, ep, hq, h2, h3, h4, h5⟩
    show EP X pins σ Q p.2 _
    exact ⟨v0, _, I2, rv, q⟩
end My

namespace My
open PySem L2
def topS (i : Nat) : Stmt := PySem.Challenge.pw_steadhold_k33_pages_never_give_more_than.main.body.getD i (.Pass ⟨0, 0, 0, 0⟩)
structure Txt (K : PySem.W.Frag) (mg : Str → Option Value) (C_Frames C_Pages C_NotValid : Addr) : Prop where
  b_abs : mg "abs" = none
  b_all : mg "all" = none
  b_any : mg "any" = none
  b_bool : mg "bool" = none
  b_int : mg "int" = none
  b_isinstance : mg "isinstance" = none
  b_len : mg "len" = none
  b_list : mg "list" = none
  b_max : mg "max" = none
  b_range : mg "range" = none
  b_sum : mg "sum" = none
  c_ENVIRONMENTS : ∃ t, mg "ENVIRONMENTS" = some (.int 4 t)
  c_PAGES : ∃ t, mg "PAGES" = some (.int 32 t)
  c_TOP : ∃ t, mg "TOP" = some (.int 4294967295 t)
  c_WORDS : ∃ t, mg "WORDS" = some (.int 8 t)
  c__LEAST_FRAMES : ∃ t, mg "_LEAST_FRAMES" = some (.int 8 t)
  c__MOST_FRAMES : ∃ t, mg "_MOST_FRAMES" = some (.int 64 t)
  x_NotValid : Exn K mg "NotValid" C_NotValid
  o_Frames : Cls K C_Frames
  n_Frames__words : NoAttr K C_Frames "_words"
  n_Frames__shares : NoAttr K C_Frames "_shares"
  n_Frames__rights : NoAttr K C_Frames "_rights"
  n_Frames__offers : NoAttr K C_Frames "_offers"
  n_Frames__asked : NoAttr K C_Frames "_asked"
  n_Frames__ends_to_wait : NoAttr K C_Frames "_ends_to_wait"
  n_Frames__taken : NoAttr K C_Frames "_taken"
  o_Pages : Cls K C_Pages
  n_Pages__frames : NoAttr K C_Pages "_frames"
  n_Pages__entries : NoAttr K C_Pages "_entries"
end My

namespace My
open PySem L2
local macro_rules | `(tactic| walk_at "ne") => `(tactic| first | assumption | exact Ne.symm (by assumption) | exact ne_of_none (by assumption) (by assumption) | exact Ne.symm (ne_of_none (by assumption) (by assumption)))
local macro_rules | `(tactic| walk_at "hp") => `(tactic| first | assumption | with_reducible exact upd_same | (with_reducible refine Eq.trans (upd_ne ?_) ?_; rotate_left; walk_at "hp"; walk_at "ne"))
local macro_rules | `(tactic| walk_at "cnd") => `(tactic| first | omega | (show (0 : Int) < _; omega) | exact ⟨by omega, by omega⟩ | exact Or.inl ⟨by omega, by omega⟩ | exact Or.inr ⟨by omega, by omega⟩ | exact ⟨by omega, by omega, by decide⟩ | exact ⟨by omega, by omega, by omega⟩)
local macro_rules | `(tactic| walk_at "at") => `(tactic| first | exact atC 0 rfl rfl | exact atC 1 rfl rfl | exact atC 2 rfl rfl | exact atC 3 rfl rfl | exact atC 4 rfl rfl | exact atC 5 rfl rfl | exact atC 6 rfl rfl | exact atC 7 rfl rfl)
local macro_rules | `(tactic| walk_at "ix") => `(tactic| first | exact ixC 0 rfl (Nat.le_of_ble_eq_true rfl) | exact ixC 1 rfl (Nat.le_of_ble_eq_true rfl) | exact ixC 2 rfl (Nat.le_of_ble_eq_true rfl) | exact ixC 3 rfl (Nat.le_of_ble_eq_true rfl) | exact ixC 4 rfl (Nat.le_of_ble_eq_true rfl) | exact ixC 5 rfl (Nat.le_of_ble_eq_true rfl))
local macro_rules | `(tactic| walk_at "st") => `(tactic| first
  | refine ⟨_, rfl, ?_⟩
  | refine ⟨_, _, rfl, rfl, (by walk_at "cnd" : (_ : Prop)), ?_⟩
  | refine ⟨_, _, rfl, rfl, ?_⟩
  | refine ⟨rfl, ?_⟩
  | refine Or.inl ⟨_, rfl, ?_⟩
  | refine ⟨_, _, _, _, rfl, rfl, by exact SqL.of (by walk_at "hp"), by walk_at "at", ?_⟩
  | refine ⟨_, _, _, _, rfl, rfl, by exact SqT.of (by walk_at "hp"), by walk_at "at", ?_⟩
  | refine ⟨_, _, _, _, rfl, rfl, by walk_at "hp", by walk_at "ix", ?_⟩
  | refine ⟨_, _, rfl, Or.inl (by exact SqL.of (by walk_at "hp")), ?_⟩
  | refine ⟨_, _, rfl, Or.inr (by exact SqT.of (by walk_at "hp")), ?_⟩)
local macro_rules | `(tactic| walk_at "so") => `(tactic| first
  | refine ⟨_, _, _, _, _, rfl, by walk_at "hp", by assumption, by assumption, rfl, ?_⟩
  | refine ⟨_, _, _, _, rfl, by walk_at "hp", by assumption, by assumption, Nat.le_of_ble_eq_true rfl, ?_⟩
  | refine ⟨_, _, _, rfl, by walk_at "hp", rfl, ?_⟩
  | walk_at "st")
local macro_rules | `(tactic| walk_at "ro") => `(tactic| repeat walk_at "so")
local macro_rules | `(tactic| walk_at "run") => `(tactic| repeat walk_at "st")

/-! the tape -/
def Tape (H : Hp) (a s : Addr) : Prop := ∃ (ns : List Int) (i r z : Int), H a = some (.lst [.ref s, .int i, .int r, .int z]) ∧ H s = some (.lst (ns.map V.int)) ∧ 0 ≤ i ∧ 0 ≤ r ∧ 0 ≤ z ∧ z < 2147483647
def spNext : Sp := fun vs H Q _ => ∃ (a t : Addr) (many : Int), vs = [.ref a, .int many] ∧ 0 < many ∧ many < 1000000 ∧ Tape H a t ∧ ∀ v H', 0 ≤ v → v < many → Tape H' a t → Chg a H H' → Q (.int v) H'
theorem Tape.lst {H : Hp} {a t : Addr} (h : Tape H a t) : ∃ xs, H a = some (.lst xs) := by
  obtain ⟨ns, i, r, z, ha, _⟩ := h
  exact ⟨_, ha⟩
theorem Tape.at {H : Hp} {a t p : Addr} (h : Tape H a t) (hp : H p = none) : p ≠ a := by
  obtain ⟨ns, i, r, z, ha, _⟩ := h
  exact (ne_of_none ha hp).symm
theorem Tape.at2 {H : Hp} {a t p : Addr} (h : Tape H a t) (hp : H p = none) : p ≠ t := by
  obtain ⟨ns, i, r, z, ha, hs, _⟩ := h
  exact (ne_of_none hs hp).symm
theorem Tape.same {H H' : Hp} {a t : Addr} (h : Tape H a t) (s : Same H H') : Tape H' a t := by
  obtain ⟨ns, i, r, z, ha, hs, q⟩ := h
  exact ⟨ns, i, r, z, s _ _ ha, s _ _ hs, q⟩
theorem Tape.upd {H : Hp} {a t W : Addr} {o : HO} (h : Tape H a t) (n1 : W ≠ a) (n2 : W ≠ t) : Tape (L2.upd H W o) a t := by
  obtain ⟨ns, i, r, z, ha, hs, q⟩ := h
  exact ⟨ns, i, r, z, by rw [upd_ne n1.symm]; exact ha, by rw [upd_ne n2.symm]; exact hs, q⟩
theorem Tape.ts {H H' : Hp} {a t : Addr} (h : Tape H a t) (c : Chg a H H') : TS H H' := by
  obtain ⟨xs, e⟩ := h.lst
  exact c.ts e
section
variable {P : Program} {w : World} {K : PySem.W.Frag} {mg : Str → Option Value} {base : Heap} {C_Frames C_Pages C_NotValid : Addr}
abbrev s_law_next : Stmt := topS 25
abbrev ns_law_next : List Str := ["tape", "many", "rest", "cell"]
theorem sc_law_next : FnScope ns_law_next ["tape", "many"] (defScope s_law_next) := ⟨rfl, rfl, rfl, by decide +kernel, rfl, by decide +kernel, by decide +kernel⟩

theorem ok_law_next {f : Addr} {fd : FuncData} (F : Fun K "_law_next" "_law_next" s_law_next f fd) (T : Txt K mg C_Frames C_Pages C_NotValid) : FnOk P w K mg base CX0 1 f fd ["tape", "many"] spNext := by
  refine F.ok sc_law_next (fun vs H Q E h => ?_) (fun cdv A outer s H vs Q E hr h => ?_)
  · obtain ⟨a, s, many, rfl, _⟩ := h
    rfl
  · obtain ⟨a, s, many, rfl, m0, m1, ⟨ns, i, r, z, ha, hs, i0, r0, z0, z1⟩, k⟩ := h
    have nsa : s ≠ a := ne_of hs ha (by intro q; cases ns <;> cases q)
    refine ⟨_, (pss_cons (ps_set (i := 2) sc_law_next.nd rfl (Or.inl rfl) (pe_ix (kIxL K) (pv 0) pe_int (fun _ _ => rfl)))
  (pss_cons (ps_if (pt_cmpR op_gt (pv 2) pe_int (nomark _)) (pss_cons (ps_asg (pe_op op_fdiv (pv 2) (pv 1)) (pg_sub (pv 0) pe_int set_list))
  (pss_one (ps_ret (pe_op op_mod (pe_callTy call_int1 (by rfl) T.b_int (by decide +kernel) (pa_cons (pv 2) pa_nil)) (pv 1))))) pss_nil)
  (pss_cons (ps_set (i := 3) sc_law_next.nd rfl (Or.inl rfl) pe_int)
  (C8.pss_cut (ps_if (pt_cmpR op_lt (pe_ix (kIxL K) (pv 0) pe_int (fun _ _ => rfl)) (pe_callB (kLen K) (by rfl) T.b_len (by decide +kernel) (pa_cons (pe_ix (kIxL K) (pv 0) pe_int (fun _ _ => rfl)) pa_nil)) (nomark _)) (pss_cons (ps_set (i := 3) sc_law_next.nd rfl (Or.inl rfl) (pe_callB call_abs (by rfl) T.b_abs (by decide +kernel) (pa_cons (pe_ix (kIxL K) (pe_ix (kIxL K) (pv 0) pe_int (fun _ _ => rfl)) (pe_ix (kIxL K) (pv 0) pe_int (fun _ _ => rfl)) (fun _ _ => rfl)) pa_nil)))
  (pss_one (ps_augS (pv 0) pe_int (kGetL K) pe_int ip_add set_list))) pss_nil)
  (pss_cons (ps_if (pt_cmpR op_ge (pv 3) (pe_op op_pow pe_int pe_int) (nomark _)) (pss_cons (ps_asg (pe_op op_fdiv (pv 3) (pv 1)) (pg_sub (pv 0) pe_int set_list))
  (pss_one (ps_ret (pe_op op_mod (pe_callTy call_int1 (by rfl) T.b_int (by decide +kernel) (pa_cons (pv 3) pa_nil)) (pv 1))))) pss_nil)
  (pss_cons (ps_asg (pe_op op_mod (pe_callTy call_int1 (by rfl) T.b_int (by decide +kernel) (pa_cons (pe_op op_add (pe_op op_add (pe_op op_mul (pe_ix (kIxL K) (pv 0) pe_int (fun _ _ => rfl)) pe_int) (pe_op op_mul (pv 3) pe_int)) pe_int) pa_nil)) pe_int) (pg_sub (pv 0) pe_int set_list))
  (pss_one (ps_ret (pe_op op_mod (pe_callTy call_int1 (by rfl) T.b_int (by decide +kernel) (pa_cons (pe_op op_fdiv (pe_op op_mod (pe_op op_mul (pe_ix (kIxL K) (pv 0) pe_int (fun _ _ => rfl)) pe_int) pe_int) pe_int) pa_nil)) (pv 1)))))))))), ?_⟩
    -- rest = tape[2]; if rest > 0
    walk_at "run"
    refine iteD (fun h1 => ?_) (fun h1 => ?_)
    · walk_at "run"
      exact k _ _ (Int.emod_nonneg _ (by omega)) (Int.emod_lt_of_pos _ m0) ⟨ns, i, r / many, z, upd_same, by rw [upd_ne nsa]; exact hs, i0, Int.ediv_nonneg r0 (by omega), z0, z1⟩ Chg.upd
    · -- cell = 0; if tape[1] < len(tape[0])
      refine ⟨fun σ H1 => ∃ cell i', σ = [some (.ref a), some (.int many), some (.int r), some (.int cell)] ∧ 0 ≤ cell ∧ 0 ≤ i' ∧ H1 a = some (.lst [.ref s, .int i', .int r, .int z]) ∧ H1 s = some (.lst (ns.map V.int)) ∧ Chg a H H1, ?_, ?_⟩
      · walk_at "run"
        refine iteD (fun h2 => ?_) (fun h2 => ?_)
        · have hi : i.toNat < ns.length := by simpa using (show i.toNat < (ns.map V.int).length by omega)
          walk_at "run"
          refine ⟨_, _, _, _, rfl, rfl, SqL.of hs, atC i.toNat (by omega) (by rw [List.getElem?_map, List.getElem?_eq_getElem hi]; rfl), ?_⟩
          walk_at "run"
          exact ⟨_, i + 1, rfl, by split <;> omega, by omega, upd_same, by rw [upd_ne nsa]; exact hs, Chg.upd⟩
        · exact ⟨0, i, rfl, by omega, i0, ha, hs, Chg.refl _ _⟩
      · rintro σ H1 ⟨cell, i', rfl, c0, i0', ha1, hs1, ch⟩
        walk_at "run"
        refine iteD (fun h3 => ?_) (fun h3 => ?_)
        · walk_at "run"
          exact k _ _ (Int.emod_nonneg _ (by omega)) (Int.emod_lt_of_pos _ m0) ⟨ns, i', cell / many, z, upd_same, by rw [upd_ne nsa]; exact hs1, i0', Int.ediv_nonneg c0 (by omega), z0, z1⟩ (ch.trans Chg.upd)
        · walk_at "run"
          exact k _ _ (Int.emod_nonneg _ (by omega)) (Int.emod_lt_of_pos _ m0) ⟨ns, i', r, _, upd_same, by rw [upd_ne nsa]; exact hs1, i0', r0, Int.emod_nonneg _ (by decide), Int.emod_lt_of_pos _ (by decide)⟩ (ch.trans Chg.upd)
end

section
variable {P : Program} {w : World} {K : PySem.W.Frag} {mg : Str → Option Value} {base : Heap} {C_Frames C_Pages C_NotValid : Addr}
abbrev s_is_at_least : Stmt := topS 2
abbrev ns_is_at_least : List Str := ["value", "least"]
theorem sc_is_at_least : FnScope ns_is_at_least ["value", "least"] (defScope s_is_at_least) := ⟨rfl, rfl, rfl, by decide +kernel, rfl, by decide +kernel, by decide +kernel⟩

theorem ok_is_at_least {f : Addr} {fd : FuncData} (F : Fun K "is_at_least" "is_at_least" s_is_at_least f fd) (T : Txt K mg C_Frames C_Pages C_NotValid) : FnOk P w K mg base CX0 1 f fd ["value", "least"] spGe := by
  refine F.ok sc_is_at_least (fun vs H Q E h => ?_) (fun cdv A outer s H vs Q E hr h => ?_)
  · obtain ⟨v, d, lo, rfl, _⟩ := h
    rfl
  · obtain ⟨v, d, lo, rfl, hd, k⟩ := h
    refine ⟨_, (pss_one (ps_ret (pe_and (pe_callB (kIsi K) (by rfl) T.b_isinstance (by decide +kernel) (pa_cons (pv 0) (pa_cons (pe_bltn (v := .ty "int") (by rfl) T.b_int (by decide +kernel) rfl) pa_nil))) (pe_and (pe_not (pe_callB (kIsi K) (by rfl) T.b_isinstance (by decide +kernel) (pa_cons (pv 0) (pa_cons (pe_bltn (v := .ty "bool") (by rfl) T.b_bool (by decide +kernel) rfl) pa_nil)))) (pe_one (pe_cmpR op_ge (pv 0) (pv 1) (nomark _))))))), ?_⟩
    refine ⟨_, rfl, _, _, _, _, _, rfl, .ty _, hd.ty, kit_ty (kitInt d), _, rfl, ?_⟩
    cases hd with
    | int i =>
      refine iteT ⟨_, rfl, _, _, _, _, _, rfl, .ty _, (Dt.int i).ty, kit_ty (kitBool (.int i)), _, rfl, _, rfl, iteT ?_⟩
      walk_at "run"
      exact k
    | bl b => exact iteT ⟨_, rfl, _, _, _, _, _, rfl, .ty _, (Dt.bl b).ty, kit_ty (kitBool (.bool b)), _, rfl, _, rfl, iteF k⟩
    | non => exact iteF k
    | str x => exact iteF k
    | lst a b => exact iteF k
    | tup a b => exact iteF k
abbrev s_is_between : Stmt := topS 3
abbrev ns_is_between : List Str := ["value", "least", "most"]
theorem sc_is_between : FnScope ns_is_between ["value", "least", "most"] (defScope s_is_between) := ⟨rfl, rfl, rfl, by decide +kernel, rfl, by decide +kernel, by decide +kernel⟩

theorem ok_is_between {f : Addr} {fd : FuncData} (F : Fun K "is_between" "is_between" s_is_between f fd) (T : Txt K mg C_Frames C_Pages C_NotValid) (D_is_at_least : Dfn P w K mg base CX0 1 "is_at_least" ["value", "least"] spGe) : FnOk P w K mg base CX0 2 f fd ["value", "least", "most"] spBtw := by
  refine F.ok sc_is_between (fun vs H Q E h => ?_) (fun cdv A outer s H vs Q E hr h => ?_)
  · obtain ⟨v, d, lo, hi, rfl, _⟩ := h
    rfl
  · obtain ⟨v, d, lo, hi, rfl, hd, k⟩ := h
    refine ⟨_, (pss_one (ps_ret (pe_and (pe_dcall D_is_at_least (hr.mono (by decide)) (by rfl) pass0 (pa_cons (pv 0) (pa_cons (pv 1) pa_nil))) (pe_one (pe_cmpR op_le (pv 0) (pv 2) (nomark _)))))), ?_⟩
    refine ⟨_, rfl, _, rfl, _, d, _, rfl, hd, _, rfl, iteB (fun e => ?_) (fun e => ?_)⟩
    · cases hd with
      | int i =>
        walk_at "run"
        have e' : decide (lo ≤ i) = true := e
        have k' : Q (.bl (decide (lo ≤ i) && decide (i ≤ hi))) H := k
        rw [e', Bool.true_and] at k'
        exact k'
      | bl b => cases e
      | non => cases e
      | str x => cases e
      | lst a b => cases e
      | tup a b => cases e
    · have e2 : isI d lo hi = false := by
        cases d with
        | int i =>
          have e' : decide (lo ≤ i) = false := e
          show (decide (lo ≤ i) && decide (i ≤ hi)) = false
          rw [e', Bool.false_and]
        | _ => rfl
      rw [e2] at k
      exact k
abbrev s_is_index : Stmt := topS 4
abbrev ns_is_index : List Str := ["value", "many"]
theorem sc_is_index : FnScope ns_is_index ["value", "many"] (defScope s_is_index) := ⟨rfl, rfl, rfl, by decide +kernel, rfl, by decide +kernel, by decide +kernel⟩

theorem ok_is_index {f : Addr} {fd : FuncData} (F : Fun K "is_index" "is_index" s_is_index f fd) (T : Txt K mg C_Frames C_Pages C_NotValid) (D_is_between : Dfn P w K mg base CX0 2 "is_between" ["value", "least", "most"] spBtw) : FnOk P w K mg base CX0 3 f fd ["value", "many"] spIdx := by
  refine F.ok sc_is_index (fun vs H Q E h => ?_) (fun cdv A outer s H vs Q E hr h => ?_)
  · obtain ⟨v, d, n, rfl, _⟩ := h
    rfl
  · obtain ⟨v, d, n, rfl, hd, k⟩ := h
    refine ⟨_, (pss_one (ps_ret (pe_dcall D_is_between (hr.mono (by decide)) (by rfl) pass0 (pa_cons (pv 0) (pa_cons pe_int (pa_cons (pe_op op_sub (pv 1) pe_int) pa_nil)))))), ?_⟩
    walk_at "run"
    exact ⟨_, d, _, _, rfl, hd, k⟩
end

end My

namespace My
open PySem L2
local macro_rules | `(tactic| walk_at "ne") => `(tactic| first | assumption | exact Ne.symm (by assumption) | exact ne_of_none (by assumption) (by assumption) | exact Ne.symm (ne_of_none (by assumption) (by assumption)))
local macro_rules | `(tactic| walk_at "hp") => `(tactic| first | assumption | with_reducible exact upd_same | (with_reducible refine Eq.trans (upd_ne ?_) ?_; rotate_left; walk_at "hp"; walk_at "ne"))
local macro_rules | `(tactic| walk_at "cnd") => `(tactic| first | omega | (show (0 : Int) < _; omega) | exact ⟨by omega, by omega⟩ | exact Or.inl ⟨by omega, by omega⟩ | exact Or.inr ⟨by omega, by omega⟩ | exact ⟨by omega, by omega, by decide⟩ | exact ⟨by omega, by omega, by omega⟩)
local macro_rules | `(tactic| walk_at "at") => `(tactic| first | exact atC 0 rfl rfl | exact atC 1 rfl rfl | exact atC 2 rfl rfl | exact atC 3 rfl rfl | exact atC 4 rfl rfl | exact atC 5 rfl rfl | exact atC 6 rfl rfl | exact atC 7 rfl rfl)
local macro_rules | `(tactic| walk_at "ix") => `(tactic| first | exact ixC 0 rfl (Nat.le_of_ble_eq_true rfl) | exact ixC 1 rfl (Nat.le_of_ble_eq_true rfl) | exact ixC 2 rfl (Nat.le_of_ble_eq_true rfl) | exact ixC 3 rfl (Nat.le_of_ble_eq_true rfl) | exact ixC 4 rfl (Nat.le_of_ble_eq_true rfl) | exact ixC 5 rfl (Nat.le_of_ble_eq_true rfl))
local macro_rules | `(tactic| walk_at "st") => `(tactic| first
  | refine ⟨_, rfl, ?_⟩
  | refine ⟨_, _, rfl, rfl, (by walk_at "cnd" : (_ : Prop)), ?_⟩
  | refine ⟨_, _, rfl, rfl, ?_⟩
  | refine ⟨rfl, ?_⟩
  | refine Or.inl ⟨_, rfl, ?_⟩
  | refine ⟨_, _, _, _, rfl, rfl, by exact SqL.of (by walk_at "hp"), by walk_at "at", ?_⟩
  | refine ⟨_, _, _, _, rfl, rfl, by exact SqT.of (by walk_at "hp"), by walk_at "at", ?_⟩
  | refine ⟨_, _, _, _, rfl, rfl, by walk_at "hp", by walk_at "ix", ?_⟩
  | refine ⟨_, _, rfl, Or.inl (by exact SqL.of (by walk_at "hp")), ?_⟩
  | refine ⟨_, _, rfl, Or.inr (by exact SqT.of (by walk_at "hp")), ?_⟩)
local macro_rules | `(tactic| walk_at "so") => `(tactic| first
  | refine ⟨_, _, _, _, _, rfl, by walk_at "hp", by assumption, by assumption, rfl, ?_⟩
  | refine ⟨_, _, _, _, rfl, by walk_at "hp", by assumption, by assumption, Nat.le_of_ble_eq_true rfl, ?_⟩
  | refine ⟨_, _, _, rfl, by walk_at "hp", rfl, ?_⟩
  | walk_at "st")
local macro_rules | `(tactic| walk_at "ro") => `(tactic| repeat walk_at "so")
local macro_rules | `(tactic| walk_at "run") => `(tactic| repeat walk_at "st")

/-! ### what the frames hold: the mathematics -/
abbrev RL := List (Nat × Bool)
def rS (b : Bool) : Str := if b then "rw" else "r"
def rV (b : Bool) : V := .str (rS b)
def vN (n : Nat) : V := .int (n : Int)
def entR (l : RL) : List (Key × V) := l.map fun p => (.inl (p.1 : Int), rV p.2)
def getR (l : RL) (f : Nat) : Option Bool := (l.find? fun p => decide (p.1 = f)).map (·.2)
theorem keyI {a b : Nat} : (((Sum.inl (a : Int) : Key)) = .inl (b : Int)) ↔ a = b := by
  constructor
  · intro h
    injection h with h
    exact Int.ofNat.inj h
  · rintro rfl; rfl
theorem valR (f : Nat) : ∀ l : RL, valV (entR l) (.inl (f : Int)) = (getR l f).map rV
  | [] => rfl
  | p :: l => by
    have ih := valR f l
    show valV ((.inl (p.1 : Int), rV p.2) :: entR l) (.inl (f : Int)) = _
    unfold getR
    by_cases e : p.1 = f
    · rw [valV_pos (keyI.mpr e), List.find?_cons_of_pos (by simp [e])]; rfl
    · rw [valV_neg (fun q => e (keyI.mp q)), List.find?_cons_of_neg (by simp [e])]
      exact ih
theorem entR_keys (l : RL) : ((entR l).map fun kv => kV kv.1) = (l.map (·.1)).map vN := by
  unfold entR
  rw [List.map_map, List.map_map]; rfl
/-- things that stand in a list of references, one for one -/
def Each {α : Type} (rel : Hp → Addr → α → Prop) (H : Hp) (ds : List Addr) (ls : List α) : Prop := ds.length = ls.length ∧ ∀ (j : Nat) (d : Addr) (l : α), ds[j]? = some d → ls[j]? = some l → rel H d l
theorem Each.at {α : Type} {rel : Hp → Addr → α → Prop} {H : Hp} {ds : List Addr} {ls : List α} {j : Nat} {l : α} (h : Each rel H ds ls) (e : ls[j]? = some l) : ∃ d, ds[j]? = some d ∧ rel H d l := by
  have hl := (List.getElem?_eq_some_iff.mp e).1
  obtain ⟨d, hd⟩ : ∃ d, ds[j]? = some d := ⟨_, List.getElem?_eq_getElem (by rw [h.1]; exact hl)⟩
  exact ⟨d, hd, h.2 j d l hd e⟩
theorem Each.mono {α : Type} {rel rel' : Hp → Addr → α → Prop} {H H' : Hp} {ds : List Addr} {ls : List α} (h : Each rel H ds ls) (f : ∀ d l, d ∈ ds → rel H d l → rel' H' d l) : Each rel' H' ds ls :=
  ⟨h.1, fun j d l a b => f d l (List.mem_of_getElem? a) (h.2 j d l a b)⟩
def RtD (H : Hp) (d : Addr) (l : RL) : Prop := H d = some (.dK (entR l))
def NsL (H : Hp) (d : Addr) (l : List Nat) : Prop := H d = some (.lst (l.map vN))
/-- offers of an environment: a dict from frames to dicts from environments to rights -/
def entO (l : List (Nat × RL)) (is : List Addr) : List (Key × V) := (l.zip is).map fun p => (.inl (p.1.1 : Int), .ref p.2)
def OfD (H : Hp) (d : Addr) (q : List Addr × List (Nat × RL)) : Prop := H d = some (.dK (entO q.2 q.1)) ∧ Each (fun H i (p : Nat × RL) => RtD H i p.2) H q.1 q.2
structure FS where
  m : Nat
  sh : List Nat
  ask : List Nat
  wt : List Nat
  rt : List RL
  of : List (List (Nat × RL))
  tk : List (List Nat)
  wd : List (List Nat)
structure FOk (s : FS) : Prop where
  sh4 : s.sh.length = 4
  ask4 : s.ask.length = 4
  wt4 : s.wt.length = 4
  rt4 : s.rt.length = 4
  of4 : s.of.length = 4
  tk4 : s.tk.length = 4
  wdm : s.wd.length = s.m
  m64 : s.m ≤ 64
/-- frames, as they stand: P holds of all that is theirs -/
structure FA where
  (dx W S R O A E T : Addr)
  (wds rds ods tks : List Addr)
  ids : List (List Addr)
def FA.own (a : FA) (x : Addr) : List Addr := [x, a.W, a.S, a.R, a.O, a.A, a.E, a.T] ++ (a.wds ++ (a.rds ++ (a.ods ++ (a.tks ++ a.ids.flatten))))
structure Fr (C : Addr) (P : Addr → Prop) (H : Hp) (x : Addr) (a : FA) (s : FS) : Prop where
  ok : FOk s
  nd : (a.own x).Nodup
  mine : ∀ b ∈ a.own x, P b
  ins : H x = some (.ins C a.dx [("_words", .ref a.W), ("_shares", .ref a.S), ("_rights", .ref a.R), ("_offers", .ref a.O), ("_asked", .ref a.A), ("_ends_to_wait", .ref a.E), ("_taken", .ref a.T)])
  w : H a.W = some (.lst (a.wds.map V.ref))
  ws : Each NsL H a.wds s.wd
  hs : NsL H a.S s.sh
  r : H a.R = some (.lst (a.rds.map V.ref))
  rs : Each RtD H a.rds s.rt
  o : H a.O = some (.lst (a.ods.map V.ref))
  il : a.ids.length = s.of.length
  os : Each OfD H a.ods (a.ids.zip s.of)
  ha : NsL H a.A s.ask
  he : NsL H a.E s.wt
  t : H a.T = some (.lst (a.tks.map V.ref))
  ts : Each NsL H a.tks s.tk
def isF (s : FS) (d : PyData) : Bool := isI d 0 ((s.m : Int) - 1)
def isE (d : PyData) : Bool := isI d 0 3
def natD : PyData → Nat
  | .int i => i.toNat
  | _ => 0
def spEnv : Sp := fun vs H Q _ => ∃ v d, vs = [v] ∧ Dt H v d ∧ Q (.bl (isE d)) H
def spIsF (C : Addr) : Sp := fun vs H Q _ => ∃ P x a s v d, vs = [.ref x, v] ∧ Fr C P H x a s ∧ Dt H v d ∧ Q (.bl (isF s d)) H
def rightOf (s : FS) (e f : PyData) : Option Bool := if isE e = true ∧ isF s f = true then getR (s.rt.getD (natD e) []) (natD f) else none
def optR : Option Bool → V
  | none => .non
  | some b => rV b
def spRight (C : Addr) : Sp := fun vs H Q _ => ∃ P x a s v d u e, vs = [.ref x, v, u] ∧ Fr C P H x a s ∧ Dt H v d ∧ Dt H u e ∧ Q (optR (rightOf s d e)) H
def heldOf (s : FS) (e : PyData) : List Nat := if isE e = true then (s.rt.getD (natD e) []).map (·.1) else []
def spHold (C : Addr) : Sp := fun vs H Q _ => ∃ P x a s v d, vs = [.ref x, v] ∧ Fr C P H x a s ∧ Dt H v d ∧ ∀ p H', Same H H' → H p = none → NsL H' p (heldOf s d) → Q (.ref p) H'
theorem isI_nat {d : PyData} {n : Int} (h : isI d 0 n = true) : ∃ k : Nat, d = .int (k : Int) ∧ (k : Int) ≤ n := by
  cases d with
  | int i =>
    have h' : (decide ((0 : Int) ≤ i) && decide (i ≤ n)) = true := h
    rw [Bool.and_eq_true, decide_eq_true_eq, decide_eq_true_eq] at h'
    obtain ⟨k, rfl⟩ := Int.eq_ofNat_of_zero_le h'.1
    exact ⟨k, rfl, h'.2⟩
  | _ => cases h
section
variable {P : Program} {w : World} {K : PySem.W.Frag} {mg : Str → Option Value} {base : Heap} {C_Frames C_Pages C_NotValid : Addr}
abbrev s_is_environment : Stmt := topS 10
abbrev ns_is_environment : List Str := ["value"]
theorem sc_is_environment : FnScope ns_is_environment ["value"] (defScope s_is_environment) := ⟨rfl, rfl, rfl, by decide +kernel, rfl, by decide +kernel, by decide +kernel⟩

theorem ok_is_environment {f : Addr} {fd : FuncData} (F : Fun K "is_environment" "is_environment" s_is_environment f fd) (T : Txt K mg C_Frames C_Pages C_NotValid) (D_is_index : Dfn P w K mg base CX0 3 "is_index" ["value", "many"] spIdx) : FnOk P w K mg base CX0 4 f fd ["value"] spEnv := by
  refine F.ok sc_is_environment (fun vs H Q E h => ?_) (fun cdv A outer s H vs Q E hr h => ?_)
  · obtain ⟨v, d, rfl, _⟩ := h
    rfl
  · obtain ⟨v, d, rfl, hd, k⟩ := h
    refine ⟨_, (pss_one (ps_ret (pe_dcall D_is_index (hr.mono (by decide)) (by rfl) pass0 (pa_cons (pv 0) (pa_cons (pe_gint (by rfl) T.c_ENVIRONMENTS) pa_nil))))), ?_⟩
    walk_at "run"
    exact ⟨_, d, _, rfl, hd, k⟩
abbrev s_Frames_is_frame : Stmt := inClass (topS 19) 18
abbrev ns_Frames_is_frame : List Str := ["self", "value"]
theorem sc_Frames_is_frame : FnScope ns_Frames_is_frame ["self", "value"] (defScope s_Frames_is_frame) := ⟨rfl, rfl, rfl, by decide +kernel, rfl, by decide +kernel, by decide +kernel⟩

theorem ok_Frames_is_frame {f : Addr} {fd : FuncData} (F : Fun K "_is_frame" "Frames._is_frame" s_Frames_is_frame f fd) (T : Txt K mg C_Frames C_Pages C_NotValid) (D_is_index : Dfn P w K mg base CX0 3 "is_index" ["value", "many"] spIdx) : FnOk P w K mg base CX0 4 f fd ["self", "value"] (spIsF C_Frames) := by
  have ho_Frames := T.o_Frames; have hn_Frames__words := T.n_Frames__words; have hn_Frames__shares := T.n_Frames__shares; have hn_Frames__rights := T.n_Frames__rights; have hn_Frames__offers := T.n_Frames__offers; have hn_Frames__asked := T.n_Frames__asked; have hn_Frames__ends_to_wait := T.n_Frames__ends_to_wait; have hn_Frames__taken := T.n_Frames__taken
  refine F.ok sc_Frames_is_frame (fun vs H Q E h => ?_) (fun cdv A outer s H vs Q E hr h => ?_)
  · obtain ⟨P', x, a, s, v, d, rfl, _⟩ := h
    rfl
  · obtain ⟨P', x, a, s', v, d, rfl, fr, hd, k⟩ := h
    refine ⟨_, (pss_one (ps_ret (pe_dcall D_is_index (hr.mono (by decide)) (by rfl) pass0 (pa_cons (pv 1) (pa_cons (pe_callB (kLen K) (by rfl) T.b_len (by decide +kernel) (pa_cons (kFld K (pv 0) rfl) pa_nil)) pa_nil))))), ?_⟩
    have h1 := fr.ins
    have h2 := fr.w
    have wl : (a.wds.map V.ref).length = s'.m := by rw [List.length_map, fr.ws.1, fr.ok.wdm]
    walk_at "ro"
    refine ⟨v, d, _, rfl, hd, ?_⟩
    rw [wl]
    exact k
abbrev s_Frames_right : Stmt := inClass (topS 19) 6
abbrev ns_Frames_right : List Str := ["self", "environment", "frame"]
theorem sc_Frames_right : FnScope ns_Frames_right ["self", "environment", "frame"] (defScope s_Frames_right) := ⟨rfl, rfl, rfl, by decide +kernel, rfl, by decide +kernel, by decide +kernel⟩

theorem ok_Frames_right {f : Addr} {fd : FuncData} (F : Fun K "right" "Frames.right" s_Frames_right f fd) (T : Txt K mg C_Frames C_Pages C_NotValid) (D_is_environment : Dfn P w K mg base CX0 4 "is_environment" ["value"] spEnv) (D_Frames_is_frame : Mth P w K mg base CX0 4 C_Frames "_is_frame" ["self", "value"] (spIsF C_Frames)) : FnOk P w K mg base CX0 5 f fd ["self", "environment", "frame"] (spRight C_Frames) := by
  have ho_Frames := T.o_Frames; have hn_Frames__words := T.n_Frames__words; have hn_Frames__shares := T.n_Frames__shares; have hn_Frames__rights := T.n_Frames__rights; have hn_Frames__offers := T.n_Frames__offers; have hn_Frames__asked := T.n_Frames__asked; have hn_Frames__ends_to_wait := T.n_Frames__ends_to_wait; have hn_Frames__taken := T.n_Frames__taken
  refine F.ok sc_Frames_right (fun vs H Q E h => ?_) (fun cdv A outer s H vs Q E hr h => ?_)
  · obtain ⟨P', x, a, s, v, d, u, e, rfl, _⟩ := h
    rfl
  · obtain ⟨P', x, a, s', v, d, u, e, rfl, fr, hd, he, k⟩ := h
    refine ⟨_, (pss_cons (ps_if (PW.pt (pw_or (pt_not (pt_val (pe_dcall D_is_environment (hr.mono (by decide)) (by rfl) pass0 (pa_cons (pv 1) pa_nil)))) (pw_or1 (pt_not (pt_val (pe_dmeth (pv 0) D_Frames_is_frame (hr.mono (by decide)) pass0 (pa_cons (pv 2) pa_nil))))))) (pss_one (ps_ret pe_non)) pss_nil)
  (pss_one (ps_ret (pe_dget1 (units1 hr) (pe_ix (kIxL K) (kFld K (pv 0) rfl) (pv 1) (fun _ _ => rfl)) (pv 2) ⟨rfl, rfl, rfl, rfl⟩)))), ?_⟩
    have h1 := fr.ins
    have h2 := fr.r
    have bad : rightOf s' d e = none → Q .non H := fun z => by rw [z] at k; exact k
    walk_at "ro"
    refine ⟨v, d, rfl, hd, _, rfl, ?_⟩
    cases e1 : isE d with
    | false => exact iteT (bad (by unfold rightOf; rw [e1]; rfl))
    | true =>
      refine iteF ?_
      walk_at "ro"
      refine ⟨P', x, a, s', u, e, rfl, fr, he, _, rfl, ?_⟩
      cases e2 : isF s' e with
      | false => exact iteT (bad (by unfold rightOf; rw [e1, e2]; rfl))
      | true =>
        refine iteF ?_
        obtain ⟨n, rfl, n3⟩ := isI_nat e1
        obtain ⟨g, rfl, _⟩ := isI_nat e2
        cases hd
        cases he
        have er : rightOf s' (.int (n : Int)) (.int (g : Int)) = getR (s'.rt.getD n []) g := by
          unfold rightOf
          rw [if_pos ⟨e1, e2⟩]; rfl
        rw [er] at k
        have n4 : n < s'.rt.length := by rw [fr.ok.rt4]; omega
        obtain ⟨dd, hdd, hdk⟩ := fr.rs.at (List.getElem?_eq_getElem n4)
        have eg : s'.rt.getD n [] = s'.rt[n] := by rw [List.getD_eq_getElem?_getD, List.getElem?_eq_getElem n4]; rfl
        rw [eg] at k
        walk_at "ro"
        refine ⟨_, _, _, _, rfl, rfl, SqL.of h2, atC n rfl (by rw [List.getElem?_map, hdd]; rfl), ?_⟩
        refine ⟨dd, rfl, .inl ⟨_, .inl hdk⟩, ?_⟩
        walk_at "ro"
        refine ⟨_, DGet.k (k := .inl (g : Int)) hdk, ?_⟩
        rw [valR]
        cases e3 : getR s'.rt[n] g with
        | none => rw [e3] at k; exact k
        | some b => rw [e3] at k; exact k
abbrev s_Frames_holdings : Stmt := inClass (topS 19) 7
abbrev ns_Frames_holdings : List Str := ["self", "environment"]
theorem sc_Frames_holdings : FnScope ns_Frames_holdings ["self", "environment"] (defScope s_Frames_holdings) := ⟨rfl, rfl, rfl, by decide +kernel, rfl, by decide +kernel, by decide +kernel⟩

theorem ok_Frames_holdings {f : Addr} {fd : FuncData} (F : Fun K "holdings" "Frames.holdings" s_Frames_holdings f fd) (T : Txt K mg C_Frames C_Pages C_NotValid) (D_is_environment : Dfn P w K mg base CX0 4 "is_environment" ["value"] spEnv) : FnOk P w K mg base CX0 5 f fd ["self", "environment"] (spHold C_Frames) := by
  have ho_Frames := T.o_Frames; have hn_Frames__words := T.n_Frames__words; have hn_Frames__shares := T.n_Frames__shares; have hn_Frames__rights := T.n_Frames__rights; have hn_Frames__offers := T.n_Frames__offers; have hn_Frames__asked := T.n_Frames__asked; have hn_Frames__ends_to_wait := T.n_Frames__ends_to_wait; have hn_Frames__taken := T.n_Frames__taken
  refine F.ok sc_Frames_holdings (fun vs H Q E h => ?_) (fun cdv A outer s H vs Q E hr h => ?_)
  · obtain ⟨P', x, a, s, v, d, rfl, _⟩ := h
    rfl
  · obtain ⟨P', x, a, s', v, d, rfl, fr, hd, k⟩ := h
    refine ⟨_, (pss_cons (ps_if (pt_not (pt_val (pe_dcall D_is_environment (hr.mono (by decide)) (by rfl) pass0 (pa_cons (pv 1) pa_nil)))) (pss_one (ps_ret (pe_lst pa_nil))) pss_nil)
  (pss_one (ps_ret (pe_callTy (call_list_dK (by rfl)) (by rfl) T.b_list (by decide +kernel) (pa_cons (pe_ix (kIxL K) (kFld K (pv 0) rfl) (pv 1) (fun _ _ => rfl)) pa_nil))))), ?_⟩
    have h1 := fr.ins
    have h2 := fr.r
    walk_at "ro"
    refine ⟨v, d, rfl, hd, _, rfl, ?_⟩
    cases e1 : isE d with
    | false =>
      refine iteT ?_
      have er : heldOf s' d = [] := by unfold heldOf; rw [e1]; rfl
      rw [er] at k
      exact ⟨szl rfl, fun p hp => k p _ (Same.new hp) hp upd_same⟩
    | true =>
      refine iteF ?_
      obtain ⟨n, rfl, n3⟩ := isI_nat e1
      cases hd
      have n4 : n < s'.rt.length := by rw [fr.ok.rt4]; omega
      obtain ⟨dd, hdd, hdk⟩ := fr.rs.at (List.getElem?_eq_getElem n4)
      have er : heldOf s' (.int (n : Int)) = s'.rt[n].map (·.1) := by
        unfold heldOf
        rw [if_pos e1]
        show (s'.rt.getD n []).map (·.1) = _
        rw [List.getD_eq_getElem?_getD, List.getElem?_eq_getElem n4]; rfl
      rw [er] at k
      walk_at "ro"
      refine ⟨_, _, _, _, rfl, rfl, SqL.of h2, atC n rfl (by rw [List.getElem?_map, hdd]; rfl), ?_⟩
      refine ⟨dd, _, rfl, hdk, fun p hp => ?_⟩
      rw [entR_keys]
      exact k p _ (Same.new hp) hp upd_same
end
end My

namespace My
open PySem L2
local macro_rules | `(tactic| walk_at "ne") => `(tactic| first | assumption | exact Ne.symm (by assumption) | exact ne_of_none (by assumption) (by assumption) | exact Ne.symm (ne_of_none (by assumption) (by assumption)))
local macro_rules | `(tactic| walk_at "hp") => `(tactic| first | assumption | with_reducible exact upd_same | (with_reducible refine Eq.trans (upd_ne ?_) ?_; rotate_left; walk_at "hp"; walk_at "ne"))
local macro_rules | `(tactic| walk_at "cnd") => `(tactic| first | omega | (show (0 : Int) < _; omega) | exact ⟨by omega, by omega⟩ | exact Or.inl ⟨by omega, by omega⟩ | exact Or.inr ⟨by omega, by omega⟩ | exact ⟨by omega, by omega, by decide⟩ | exact ⟨by omega, by omega, by omega⟩)
local macro_rules | `(tactic| walk_at "at") => `(tactic| first | exact atC 0 rfl rfl | exact atC 1 rfl rfl | exact atC 2 rfl rfl | exact atC 3 rfl rfl | exact atC 4 rfl rfl | exact atC 5 rfl rfl | exact atC 6 rfl rfl | exact atC 7 rfl rfl)
local macro_rules | `(tactic| walk_at "ix") => `(tactic| first | exact ixC 0 rfl (Nat.le_of_ble_eq_true rfl) | exact ixC 1 rfl (Nat.le_of_ble_eq_true rfl) | exact ixC 2 rfl (Nat.le_of_ble_eq_true rfl) | exact ixC 3 rfl (Nat.le_of_ble_eq_true rfl) | exact ixC 4 rfl (Nat.le_of_ble_eq_true rfl) | exact ixC 5 rfl (Nat.le_of_ble_eq_true rfl))
local macro_rules | `(tactic| walk_at "st") => `(tactic| first
  | refine ⟨_, rfl, ?_⟩
  | refine ⟨_, _, rfl, rfl, (by walk_at "cnd" : (_ : Prop)), ?_⟩
  | refine ⟨_, _, rfl, rfl, ?_⟩
  | refine ⟨rfl, ?_⟩
  | refine Or.inl ⟨_, rfl, ?_⟩
  | refine ⟨_, _, _, _, rfl, rfl, by exact SqL.of (by walk_at "hp"), by walk_at "at", ?_⟩
  | refine ⟨_, _, _, _, rfl, rfl, by exact SqT.of (by walk_at "hp"), by walk_at "at", ?_⟩
  | refine ⟨_, _, _, _, rfl, rfl, by walk_at "hp", by walk_at "ix", ?_⟩
  | refine ⟨_, _, rfl, Or.inl (by exact SqL.of (by walk_at "hp")), ?_⟩
  | refine ⟨_, _, rfl, Or.inr (by exact SqT.of (by walk_at "hp")), ?_⟩)
local macro_rules | `(tactic| walk_at "so") => `(tactic| first
  | refine ⟨_, _, _, _, _, rfl, by walk_at "hp", by assumption, by assumption, rfl, ?_⟩
  | refine ⟨_, _, _, _, rfl, by walk_at "hp", by assumption, by assumption, Nat.le_of_ble_eq_true rfl, ?_⟩
  | refine ⟨_, _, _, rfl, by walk_at "hp", rfl, ?_⟩
  | walk_at "st")
local macro_rules | `(tactic| walk_at "ro") => `(tactic| repeat walk_at "so")
local macro_rules | `(tactic| walk_at "run") => `(tactic| repeat walk_at "st")

def shareOf (s : FS) (e : PyData) : Nat := if isE e = true then s.sh.getD (natD e) 0 else 0
def askOf (s : FS) (e : PyData) : Nat := if isE e = true then s.ask.getD (natD e) 0 else 0
def chargeOf (s : FS) (e : PyData) : Nat := (heldOf s e).length
def leftOf (s : FS) : Int := (s.m : Int) - ((s.rt.map List.length).sum : Nat)
def spNat1 (C : Addr) (g : FS → PyData → Nat) : Sp := fun vs H Q _ => ∃ P x a s v d, vs = [.ref x, v] ∧ Fr C P H x a s ∧ Dt H v d ∧ ∀ H', Same H H' → Q (.int (g s d : Nat)) H'
def heldBy (s : FS) (g : Nat) : Bool := s.rt.any fun l => (getR l g).isSome
def spTaken (C : Addr) : Sp := fun vs H Q _ => ∃ P x a s v, ∃ n : Nat, vs = [.ref x, v] ∧ v = .int (n : Int) ∧ n < 4 ∧ Fr C P H x a s ∧ ∀ p H', Same H H' → H p = none → NsL H' p (s.tk.getD n []) → Q (.ref p) H'
def spHeld (C : Addr) : Sp := fun vs H Q _ => ∃ P x a s, ∃ g : Nat, vs = [.ref x, .int (g : Int)] ∧ Fr C P H x a s ∧ ∀ H', Same H H' → Q (.bl (heldBy s g)) H'
def spLeft (C : Addr) : Sp := fun vs H Q _ => ∃ P x a s, vs = [.ref x] ∧ Fr C P H x a s ∧ ∀ H', Same H H' → Q (.int (leftOf s)) H'
theorem getVN' {ws : List Nat} {i : Nat} (h : i < ws.length) : (ws.map vN)[i]? = some (.int (ws.getD i 0 : Nat)) := by
  rw [List.getElem?_map, List.getElem?_eq_getElem h, List.getD_eq_getElem?_getD, List.getElem?_eq_getElem h]; rfl
theorem sum_nat : ∀ ns : List Nat, (ns.map fun n : Nat => (n : Int)).sum = ((ns.sum : Nat) : Int)
  | [] => rfl
  | n :: ns => by
    rw [List.map_cons, List.sum_cons, sum_nat ns, List.sum_cons]
    omega
theorem vN_map (ns : List Nat) : (ns.map fun n : Nat => (n : Int)).map V.int = ns.map vN := by rw [List.map_map]; rfl
section
variable {P : Program} {w : World} {K : PySem.W.Frag} {mg : Str → Option Value} {base : Heap} {C_Frames C_Pages C_NotValid : Addr}
abbrev s_Frames_share : Stmt := inClass (topS 19) 9
abbrev ns_Frames_share : List Str := ["self", "environment"]
theorem sc_Frames_share : FnScope ns_Frames_share ["self", "environment"] (defScope s_Frames_share) := ⟨rfl, rfl, rfl, by decide +kernel, rfl, by decide +kernel, by decide +kernel⟩

theorem ok_Frames_share {f : Addr} {fd : FuncData} (F : Fun K "share" "Frames.share" s_Frames_share f fd) (T : Txt K mg C_Frames C_Pages C_NotValid) (D_is_environment : Dfn P w K mg base CX0 4 "is_environment" ["value"] spEnv) : FnOk P w K mg base CX0 5 f fd ["self", "environment"] (spNat1 C_Frames shareOf) := by
  have ho_Frames := T.o_Frames; have hn_Frames__words := T.n_Frames__words; have hn_Frames__shares := T.n_Frames__shares; have hn_Frames__rights := T.n_Frames__rights; have hn_Frames__offers := T.n_Frames__offers; have hn_Frames__asked := T.n_Frames__asked; have hn_Frames__ends_to_wait := T.n_Frames__ends_to_wait; have hn_Frames__taken := T.n_Frames__taken
  refine F.ok sc_Frames_share (fun vs H Q E h => ?_) (fun cdv A outer s H vs Q E hr h => ?_)
  · obtain ⟨P', x, a, s, v, d, rfl, _⟩ := h
    rfl
  · obtain ⟨P', x, a, s', v, d, rfl, fr, hd, k⟩ := h
    refine ⟨_, (pss_cons (ps_if (pt_not (pt_val (pe_dcall D_is_environment (hr.mono (by decide)) (by rfl) pass0 (pa_cons (pv 1) pa_nil)))) (pss_one (ps_ret pe_int)) pss_nil)
  (pss_one (ps_ret (pe_ix (kIxL K) (kFld K (pv 0) rfl) (pv 1) (fun _ _ => rfl))))), ?_⟩
    have h1 := fr.ins
    have h2 : H a.S = some (.lst (s'.sh.map vN)) := fr.hs
    walk_at "ro"
    refine ⟨v, d, rfl, hd, _, rfl, ?_⟩
    have k := k H (Same.refl H)
    unfold shareOf at k
    cases e1 : isE d with
    | false =>
      rw [e1] at k
      exact iteT k
    | true =>
      refine iteF ?_
      rw [if_pos e1] at k
      obtain ⟨n, rfl, n3⟩ := isI_nat e1
      cases hd
      walk_at "ro"
      exact ⟨_, _, _, _, rfl, rfl, SqL.of h2, atC n rfl (getVN' (by rw [fr.ok.sh4]; omega)), k⟩
abbrev s_Frames_asked : Stmt := inClass (topS 19) 15
abbrev ns_Frames_asked : List Str := ["self", "environment"]
theorem sc_Frames_asked : FnScope ns_Frames_asked ["self", "environment"] (defScope s_Frames_asked) := ⟨rfl, rfl, rfl, by decide +kernel, rfl, by decide +kernel, by decide +kernel⟩

theorem ok_Frames_asked {f : Addr} {fd : FuncData} (F : Fun K "asked" "Frames.asked" s_Frames_asked f fd) (T : Txt K mg C_Frames C_Pages C_NotValid) (D_is_environment : Dfn P w K mg base CX0 4 "is_environment" ["value"] spEnv) : FnOk P w K mg base CX0 5 f fd ["self", "environment"] (spNat1 C_Frames askOf) := by
  have ho_Frames := T.o_Frames; have hn_Frames__words := T.n_Frames__words; have hn_Frames__shares := T.n_Frames__shares; have hn_Frames__rights := T.n_Frames__rights; have hn_Frames__offers := T.n_Frames__offers; have hn_Frames__asked := T.n_Frames__asked; have hn_Frames__ends_to_wait := T.n_Frames__ends_to_wait; have hn_Frames__taken := T.n_Frames__taken
  refine F.ok sc_Frames_asked (fun vs H Q E h => ?_) (fun cdv A outer s H vs Q E hr h => ?_)
  · obtain ⟨P', x, a, s, v, d, rfl, _⟩ := h
    rfl
  · obtain ⟨P', x, a, s', v, d, rfl, fr, hd, k⟩ := h
    refine ⟨_, (pss_cons (ps_if (pt_not (pt_val (pe_dcall D_is_environment (hr.mono (by decide)) (by rfl) pass0 (pa_cons (pv 1) pa_nil)))) (pss_one (ps_ret pe_int)) pss_nil)
  (pss_one (ps_ret (pe_ix (kIxL K) (kFld K (pv 0) rfl) (pv 1) (fun _ _ => rfl))))), ?_⟩
    have h1 := fr.ins
    have h2 : H a.A = some (.lst (s'.ask.map vN)) := fr.ha
    walk_at "ro"
    refine ⟨v, d, rfl, hd, _, rfl, ?_⟩
    have k := k H (Same.refl H)
    unfold askOf at k
    cases e1 : isE d with
    | false =>
      rw [e1] at k
      exact iteT k
    | true =>
      refine iteF ?_
      rw [if_pos e1] at k
      obtain ⟨n, rfl, n3⟩ := isI_nat e1
      cases hd
      walk_at "ro"
      exact ⟨_, _, _, _, rfl, rfl, SqL.of h2, atC n rfl (getVN' (by rw [fr.ok.ask4]; omega)), k⟩
abbrev s_Frames_charge : Stmt := inClass (topS 19) 8
abbrev ns_Frames_charge : List Str := ["self", "environment"]
theorem sc_Frames_charge : FnScope ns_Frames_charge ["self", "environment"] (defScope s_Frames_charge) := ⟨rfl, rfl, rfl, by decide +kernel, rfl, by decide +kernel, by decide +kernel⟩

theorem ok_Frames_charge {f : Addr} {fd : FuncData} (F : Fun K "charge" "Frames.charge" s_Frames_charge f fd) (T : Txt K mg C_Frames C_Pages C_NotValid) (D_Frames_holdings : Mth P w K mg base CX0 5 C_Frames "holdings" ["self", "environment"] (spHold C_Frames)) : FnOk P w K mg base CX0 6 f fd ["self", "environment"] (spNat1 C_Frames chargeOf) := by
  have ho_Frames := T.o_Frames; have hn_Frames__words := T.n_Frames__words; have hn_Frames__shares := T.n_Frames__shares; have hn_Frames__rights := T.n_Frames__rights; have hn_Frames__offers := T.n_Frames__offers; have hn_Frames__asked := T.n_Frames__asked; have hn_Frames__ends_to_wait := T.n_Frames__ends_to_wait; have hn_Frames__taken := T.n_Frames__taken
  refine F.ok sc_Frames_charge (fun vs H Q E h => ?_) (fun cdv A outer s H vs Q E hr h => ?_)
  · obtain ⟨P', x, a, s, v, d, rfl, _⟩ := h
    rfl
  · obtain ⟨P', x, a, s', v, d, rfl, fr, hd, k⟩ := h
    refine ⟨_, (pss_one (ps_ret (pe_callB (kLen K) (by rfl) T.b_len (by decide +kernel) (pa_cons (pe_dmeth (pv 0) D_Frames_holdings (hr.mono (by decide)) pass0 (pa_cons (pv 1) pa_nil)) pa_nil)))), ?_⟩
    have h1 := fr.ins
    walk_at "ro"
    refine ⟨P', x, a, s', v, d, rfl, fr, hd, fun p H' sm _ hp => ?_⟩
    have hp : H' p = some (.lst ((heldOf s' d).map vN)) := hp
    refine ⟨_, _, rfl, .inl (SqL.of hp), ?_⟩
    have k := k H' sm
    unfold chargeOf at k
    rw [List.length_map]
    exact k
abbrev s_Frames_taken : Stmt := inClass (topS 19) 17
abbrev ns_Frames_taken : List Str := ["self", "environment"]
theorem sc_Frames_taken : FnScope ns_Frames_taken ["self", "environment"] (defScope s_Frames_taken) := ⟨rfl, rfl, rfl, by decide +kernel, rfl, by decide +kernel, by decide +kernel⟩

theorem ok_Frames_taken {f : Addr} {fd : FuncData} (F : Fun K "taken" "Frames.taken" s_Frames_taken f fd) (T : Txt K mg C_Frames C_Pages C_NotValid) (D_is_environment : Dfn P w K mg base CX0 4 "is_environment" ["value"] spEnv) : FnOk P w K mg base CX0 5 f fd ["self", "environment"] (spTaken C_Frames) := by
  have ho_Frames := T.o_Frames; have hn_Frames__words := T.n_Frames__words; have hn_Frames__shares := T.n_Frames__shares; have hn_Frames__rights := T.n_Frames__rights; have hn_Frames__offers := T.n_Frames__offers; have hn_Frames__asked := T.n_Frames__asked; have hn_Frames__ends_to_wait := T.n_Frames__ends_to_wait; have hn_Frames__taken := T.n_Frames__taken
  refine F.ok sc_Frames_taken (fun vs H Q E h => ?_) (fun cdv A outer s H vs Q E hr h => ?_)
  · obtain ⟨P', x, a, s, v, n, rfl, _⟩ := h
    rfl
  · obtain ⟨P', x, a, s', v, n, rfl, rfl, n4, fr, k⟩ := h
    refine ⟨_, (pss_cons (ps_if (pt_not (pt_val (pe_dcall D_is_environment (hr.mono (by decide)) (by rfl) pass0 (pa_cons (pv 1) pa_nil)))) (pss_one (ps_ret (pe_lst pa_nil))) pss_nil)
  (pss_one (ps_ret (pe_callTy (kListOf K) (by rfl) T.b_list (by decide +kernel) (pa_cons (pe_ix (kIxL K) (kFld K (pv 0) rfl) (pv 1) (fun _ _ => rfl)) pa_nil))))), ?_⟩
    have h1 := fr.ins
    have h2 := fr.t
    walk_at "ro"
    refine ⟨_, _, rfl, .int _, _, rfl, ?_⟩
    have e1 : isE (.int (n : Int)) = true := by
      show (decide ((0 : Int) ≤ (n : Int)) && decide ((n : Int) ≤ 3)) = true
      rw [decide_eq_true (by omega), decide_eq_true (by omega)]; rfl
    rw [e1]
    refine iteF ?_
    have nt : n < s'.tk.length := by rw [fr.ok.tk4]; omega
    obtain ⟨dd, hdd, hdk⟩ := fr.ts.at (List.getElem?_eq_getElem nt)
    have eg : s'.tk.getD n [] = s'.tk[n] := by rw [List.getD_eq_getElem?_getD, List.getElem?_eq_getElem nt]; rfl
    rw [eg] at k
    have hdk : H dd = some (.lst (s'.tk[n].map vN)) := hdk
    walk_at "ro"
    refine ⟨_, _, _, _, rfl, rfl, SqL.of h2, atC n rfl (by rw [List.getElem?_map, hdd]; rfl), ?_⟩
    exact ⟨dd, _, rfl, .inl (SqL.of hdk), fun p hp => k p _ (Same.new hp) hp upd_same⟩
abbrev s_Frames_left : Stmt := inClass (topS 19) 10
abbrev ns_Frames_left : List Str := ["self", "rights"]
theorem sc_Frames_left : FnScope ns_Frames_left ["self"] (defScope s_Frames_left) := ⟨rfl, rfl, rfl, by decide +kernel, rfl, by decide +kernel, by decide +kernel⟩

theorem ok_Frames_left {f : Addr} {fd : FuncData} (F : Fun K "left" "Frames.left" s_Frames_left f fd) (T : Txt K mg C_Frames C_Pages C_NotValid) : FnOk P w K mg base CX0 1 f fd ["self"] (spLeft C_Frames) := by
  have ho_Frames := T.o_Frames; have hn_Frames__words := T.n_Frames__words; have hn_Frames__shares := T.n_Frames__shares; have hn_Frames__rights := T.n_Frames__rights; have hn_Frames__offers := T.n_Frames__offers; have hn_Frames__asked := T.n_Frames__asked; have hn_Frames__ends_to_wait := T.n_Frames__ends_to_wait; have hn_Frames__taken := T.n_Frames__taken
  refine F.ok sc_Frames_left (fun vs H Q E h => ?_) (fun cdv A outer s H vs Q E hr h => ?_)
  · obtain ⟨P', x, a, s, rfl, _⟩ := h
    rfl
  · obtain ⟨P', x, a, s', rfl, fr, k⟩ := h
    refine ⟨_, (pss_one (ps_ret (pe_op op_sub (pe_callB (kLen K) (by rfl) T.b_len (by decide +kernel) (pa_cons (kFld K (pv 0) rfl) pa_nil)) (pe_callB (kSum K rfl) (by rfl) T.b_sum (by decide +kernel) (pa_cons (pe_lc (own := [("rights", 1)]) (by rfl) sc_Frames_left.nd (kpiL K (kFld K (pv 0) rfl)) (blkOk_by (N := ns_Frames_left) (sc := defScope s_Frames_left) (by decide +kernel)) (fun _ _ _ _ _ => (pg_name (i := 1) sc_Frames_left.nd rfl (Or.inl rfl))) (fun _ _ _ _ _ => pts_nil) (fun _ _ _ _ _ => (pe_callB call_lenD (by rfl) T.b_len (by decide +kernel) (pa_cons (pv 1) pa_nil)))) pa_nil))))), ?_⟩
    have h1 := fr.ins
    have h2 := fr.w
    have h3 := fr.r
    have wl : (a.wds.map V.ref).length = s'.m := by rw [List.length_map, fr.ws.1, fr.ok.wdm]
    have rl : a.rds.length = s'.rt.length := fr.rs.1
    walk_at "ro"
    refine ⟨⟨_, SqL.of h3⟩, fun D hD => ?_⟩
    refine lcL (xs := a.rds.map V.ref) ((s'.rt.map List.length).map vN) (by simp [rl]) (by rw [List.length_map, rl, fr.ok.rt4]; decide) h3 hD ?_ ?_
    · intro j y z H2 Q' hy hz s2 q
      have hj : j < s'.rt.length := by
        have := (List.getElem?_eq_some_iff.mp hy).1
        rw [List.length_map, rl] at this
        exact this
      obtain ⟨dd, hdd, hdk⟩ := fr.rs.at (List.getElem?_eq_getElem hj)
      have ey : y = .ref dd := by
        rw [List.getElem?_map, hdd] at hy
        exact (Option.some.inj hy).symm
      have ez : z = .int (s'.rt[j].length : Nat) := by
        rw [List.getElem?_map, List.getElem?_map, List.getElem?_eq_getElem hj] at hz
        exact (Option.some.inj hz).symm
      subst ey ez
      refine ⟨rfl, ?_⟩
      walk_at "ro"
      refine ⟨dd, _, rfl, s2 _ _ hdk, ?_⟩
      have e : (entR s'.rt[j]).length = s'.rt[j].length := by unfold entR; rw [List.length_map]
      rw [e]
      exact q H2 (Same.refl _)
    · intro H2 s2 d2
      walk_at "ro"
      refine ⟨D, (s'.rt.map List.length).map fun n : Nat => (n : Int), rfl, SqL.of (by rw [vN_map]; exact d2), ?_⟩
      rw [sum_nat, wl]
      exact ⟨_, _, rfl, rfl, k H2 s2⟩
abbrev s_Frames_is_held : Stmt := inClass (topS 19) 19
abbrev ns_Frames_is_held : List Str := ["self", "frame", "rights"]
theorem sc_Frames_is_held : FnScope ns_Frames_is_held ["self", "frame"] (defScope s_Frames_is_held) := ⟨rfl, rfl, rfl, by decide +kernel, rfl, by decide +kernel, by decide +kernel⟩

theorem ok_Frames_is_held {f : Addr} {fd : FuncData} (F : Fun K "_is_held" "Frames._is_held" s_Frames_is_held f fd) (T : Txt K mg C_Frames C_Pages C_NotValid) : FnOk P w K mg base CX0 1 f fd ["self", "frame"] (spHeld C_Frames) := by
  have ho_Frames := T.o_Frames; have hn_Frames__words := T.n_Frames__words; have hn_Frames__shares := T.n_Frames__shares; have hn_Frames__rights := T.n_Frames__rights; have hn_Frames__offers := T.n_Frames__offers; have hn_Frames__asked := T.n_Frames__asked; have hn_Frames__ends_to_wait := T.n_Frames__ends_to_wait; have hn_Frames__taken := T.n_Frames__taken
  refine F.ok sc_Frames_is_held (fun vs H Q E h => ?_) (fun cdv A outer s H vs Q E hr h => ?_)
  · obtain ⟨P', x, a, s, g, rfl, _⟩ := h
    rfl
  · obtain ⟨P', x, a, s', g, rfl, fr, k⟩ := h
    refine ⟨_, (pss_one (ps_ret (pe_callB (kAny K rfl) (by rfl) T.b_any (by decide +kernel) (pa_cons (pe_lc (own := [("rights", 2)]) (by rfl) sc_Frames_is_held.nd (kpiL K (kFld K (pv 0) rfl)) (blkOk_by (N := ns_Frames_is_held) (sc := defScope s_Frames_is_held) (by decide +kernel)) (fun _ _ _ _ _ => (pg_name (i := 2) sc_Frames_is_held.nd rfl (Or.inl rfl))) (fun _ _ _ _ _ => pts_nil) (fun _ _ _ _ _ => (pe_cmp (pc_din (units1 hr) (pv 1) (pv 2))))) pa_nil)))), ?_⟩
    have h1 := fr.ins
    have h3 := fr.r
    have rl : a.rds.length = s'.rt.length := fr.rs.1
    walk_at "ro"
    refine ⟨⟨_, SqL.of h3⟩, fun D hD => ?_⟩
    refine lcL (xs := a.rds.map V.ref) ((s'.rt.map fun l => (getR l g).isSome).map V.bl) (by simp [rl]) (by rw [List.length_map, rl, fr.ok.rt4]; decide) h3 hD ?_ ?_
    · intro j y z H2 Q' hy hz s2 q
      have hj : j < s'.rt.length := by
        have := (List.getElem?_eq_some_iff.mp hy).1
        rw [List.length_map, rl] at this
        exact this
      obtain ⟨dd, hdd, hdk⟩ := fr.rs.at (List.getElem?_eq_getElem hj)
      have ey : y = .ref dd := by
        rw [List.getElem?_map, hdd] at hy
        exact (Option.some.inj hy).symm
      have ez : z = .bl (getR s'.rt[j] g).isSome := by
        rw [List.getElem?_map, List.getElem?_map, List.getElem?_eq_getElem hj] at hz
        exact (Option.some.inj hz).symm
      subst ey ez
      refine ⟨rfl, ?_⟩
      walk_at "ro"
      refine ⟨dd, _, rfl, DGet.k (k := .inl (g : Int)) (s2 _ _ hdk), ?_⟩
      have e : (valV (entR s'.rt[j]) (.inl (g : Int))).isSome = (getR s'.rt[j] g).isSome := by
        rw [valR]
        cases getR s'.rt[j] g <;> rfl
      rw [e]
      exact q H2 (Same.refl _)
    · intro H2 s2 d2
      walk_at "ro"
      refine ⟨_, _, rfl, SqL.of d2, ?_⟩
      have k := k H2 s2
      unfold heldBy at k
      rw [List.any_map]
      exact k
end
end My

namespace My
open PySem L2
local macro_rules | `(tactic| walk_at "ne") => `(tactic| first | assumption | exact Ne.symm (by assumption) | exact ne_of_none (by assumption) (by assumption) | exact Ne.symm (ne_of_none (by assumption) (by assumption)))
local macro_rules | `(tactic| walk_at "hp") => `(tactic| first | assumption | with_reducible exact upd_same | (with_reducible refine Eq.trans (upd_ne ?_) ?_; rotate_left; walk_at "hp"; walk_at "ne"))
local macro_rules | `(tactic| walk_at "cnd") => `(tactic| first | omega | (show (0 : Int) < _; omega) | exact ⟨by omega, by omega⟩ | exact Or.inl ⟨by omega, by omega⟩ | exact Or.inr ⟨by omega, by omega⟩ | exact ⟨by omega, by omega, by decide⟩ | exact ⟨by omega, by omega, by omega⟩)
local macro_rules | `(tactic| walk_at "at") => `(tactic| first | exact atC 0 rfl rfl | exact atC 1 rfl rfl | exact atC 2 rfl rfl | exact atC 3 rfl rfl | exact atC 4 rfl rfl | exact atC 5 rfl rfl | exact atC 6 rfl rfl | exact atC 7 rfl rfl)
local macro_rules | `(tactic| walk_at "ix") => `(tactic| first | exact ixC 0 rfl (Nat.le_of_ble_eq_true rfl) | exact ixC 1 rfl (Nat.le_of_ble_eq_true rfl) | exact ixC 2 rfl (Nat.le_of_ble_eq_true rfl) | exact ixC 3 rfl (Nat.le_of_ble_eq_true rfl) | exact ixC 4 rfl (Nat.le_of_ble_eq_true rfl) | exact ixC 5 rfl (Nat.le_of_ble_eq_true rfl))
local macro_rules | `(tactic| walk_at "st") => `(tactic| first
  | refine ⟨_, rfl, ?_⟩
  | refine ⟨_, _, rfl, rfl, (by walk_at "cnd" : (_ : Prop)), ?_⟩
  | refine ⟨_, _, rfl, rfl, ?_⟩
  | refine ⟨rfl, ?_⟩
  | refine Or.inl ⟨_, rfl, ?_⟩
  | refine ⟨_, _, _, _, rfl, rfl, by exact SqL.of (by walk_at "hp"), by walk_at "at", ?_⟩
  | refine ⟨_, _, _, _, rfl, rfl, by exact SqT.of (by walk_at "hp"), by walk_at "at", ?_⟩
  | refine ⟨_, _, _, _, rfl, rfl, by walk_at "hp", by walk_at "ix", ?_⟩
  | refine ⟨_, _, rfl, Or.inl (by exact SqL.of (by walk_at "hp")), ?_⟩
  | refine ⟨_, _, rfl, Or.inr (by exact SqT.of (by walk_at "hp")), ?_⟩)
local macro_rules | `(tactic| walk_at "so") => `(tactic| first
  | refine ⟨_, _, _, _, _, rfl, by walk_at "hp", by assumption, by assumption, rfl, ?_⟩
  | refine ⟨_, _, _, _, rfl, by walk_at "hp", by assumption, by assumption, Nat.le_of_ble_eq_true rfl, ?_⟩
  | refine ⟨_, _, _, rfl, by walk_at "hp", rfl, ?_⟩
  | walk_at "st")
local macro_rules | `(tactic| walk_at "ro") => `(tactic| repeat walk_at "so")
local macro_rules | `(tactic| walk_at "run") => `(tactic| repeat walk_at "st")

def freeT (s : FS) (n : Nat) : List Nat := (List.range n).filter fun f => !heldBy s f
theorem freeT_snoc (s : FS) (n : Nat) : freeT s (n + 1) = freeT s n ++ (if heldBy s n = true then [] else [n]) := by
  unfold freeT
  rw [List.range_succ, List.filter_append]
  congr 1
  cases e : heldBy s n <;> simp [e]
theorem freeT_len (s : FS) (n : Nat) : (freeT s n).length ≤ n := by
  refine Nat.le_trans (List.length_filter_le _ _) ?_
  rw [List.length_range]
  exact Nat.le_refl _
def spFree (C : Addr) : Sp := fun vs H Q _ => ∃ P x a s, vs = [.ref x] ∧ Fr C P H x a s ∧ ∀ p H', Same H H' → H p = none → NsL H' p (freeT s s.m) → Q (.ref p) H'
def unchOf (s : FS) (e : PyData) : Nat := shareOf s e - chargeOf s e
def eD (n : Nat) : PyData := .int (n : Int)
def lackOf (s : FS) : Nat := ((List.range 4).map fun n => unchOf s (eD n)).sum
def moreOf (s : FS) (e : PyData) : Bool := decide (0 < unchOf s e) || decide ((lackOf s : Int) < leftOf s)
def spMore (C : Addr) : Sp := fun vs H Q _ => ∃ P x a s v d, vs = [.ref x, v] ∧ Fr C P H x a s ∧ Dt H v d ∧ ∀ H', Same H H' → Q (.bl (moreOf s d)) H'
theorem Each.same {α : Type} {rel : Hp → Addr → α → Prop} {H H' : Hp} {ds : List Addr} {ls : List α} (h : Each rel H ds ls) (f : ∀ d l, rel H d l → rel H' d l) : Each rel H' ds ls := h.mono fun d l _ r => f d l r
theorem Fr.same {C : Addr} {P : Addr → Prop} {H H' : Hp} {x : Addr} {a : FA} {s : FS} (h : Fr C P H x a s) (m : Same H H') : Fr C P H' x a s :=
  ⟨h.ok, h.nd, h.mine, m _ _ h.ins, m _ _ h.w, h.ws.same fun _ _ r => m _ _ r, m _ _ h.hs, m _ _ h.r, h.rs.same fun _ _ r => m _ _ r, m _ _ h.o, h.il, h.os.same fun _ _ ⟨r1, r2⟩ => ⟨m _ _ r1, r2.same fun _ _ r => m _ _ r⟩, m _ _ h.ha, m _ _ h.he, m _ _ h.t, h.ts.same fun _ _ r => m _ _ r⟩
section
variable {P : Program} {w : World} {K : PySem.W.Frag} {mg : Str → Option Value} {base : Heap} {C_Frames C_Pages C_NotValid : Addr}
abbrev s_Frames_free : Stmt := inClass (topS 19) 11
abbrev ns_Frames_free : List Str := ["self", "frame"]
theorem sc_Frames_free : FnScope ns_Frames_free ["self"] (defScope s_Frames_free) := ⟨rfl, rfl, rfl, by decide +kernel, rfl, by decide +kernel, by decide +kernel⟩

theorem ok_Frames_free {f : Addr} {fd : FuncData} (F : Fun K "free" "Frames.free" s_Frames_free f fd) (T : Txt K mg C_Frames C_Pages C_NotValid) (D_Frames_is_held : Mth P w K mg base CX0 1 C_Frames "_is_held" ["self", "frame"] (spHeld C_Frames)) : FnOk P w K mg base CX0 2 f fd ["self"] (spFree C_Frames) := by
  have ho_Frames := T.o_Frames; have hn_Frames__words := T.n_Frames__words; have hn_Frames__shares := T.n_Frames__shares; have hn_Frames__rights := T.n_Frames__rights; have hn_Frames__offers := T.n_Frames__offers; have hn_Frames__asked := T.n_Frames__asked; have hn_Frames__ends_to_wait := T.n_Frames__ends_to_wait; have hn_Frames__taken := T.n_Frames__taken
  refine F.ok sc_Frames_free (fun vs H Q E h => ?_) (fun cdv A outer s H vs Q E hr h => ?_)
  · obtain ⟨P', x, a, s, rfl, _⟩ := h
    rfl
  · obtain ⟨P', x, a, s', rfl, fr, k⟩ := h
    refine ⟨_, (pss_one (ps_ret (pe_lc (own := [("frame", 1)]) (by rfl) sc_Frames_free.nd (pi_range1 (by rfl) T.b_range (pa_cons (pe_callB (kLen K) (by rfl) T.b_len (by decide +kernel) (pa_cons (kFld K (pv 0) rfl) pa_nil)) pa_nil)) (blkOk_by (N := ns_Frames_free) (sc := defScope s_Frames_free) (by decide +kernel)) (fun _ _ _ _ _ => (pg_name (i := 1) sc_Frames_free.nd rfl (Or.inl rfl))) (fun _ _ _ _ _ => (pts_one (pt_not (pt_val (pe_dmeth (pv 0) D_Frames_is_held (hr.mono (by decide)) pass0 (pa_cons (pv 1) pa_nil)))))) (fun _ _ _ _ _ => (pv 1))))), ?_⟩
    have h1 := fr.ins
    have h2 := fr.w
    have wl : (a.wds.map V.ref).length = s'.m := by rw [List.length_map, fr.ws.1, fr.ok.wdm]
    have m64 := fr.ok.m64
    walk_at "ro"
    refine ⟨by omega, by omega, fun D hD => ?_⟩
    refine lc_range (lo := 0) (n := (((a.wds.map V.ref).length : Int) - 0).toNat) (fun j Hx => Hx D = some (.lst ((freeT s' j).map vN)) ∧ Same H Hx) ⟨upd_same, Same.new hD⟩ ?_ ?_
    · rintro j Hx hj ⟨hx1, sx⟩
      have fl := freeT_len s' j
      have h1x := sx _ _ h1
      refine ⟨rfl, ?_⟩
      walk_at "ro"
      refine ⟨P', x, a, s', j, by rw [Int.zero_add]; rfl, fr.same sx, fun H4 s4 => ?_⟩
      refine ⟨_, rfl, ?_⟩
      have hx4 := s4 _ _ hx1
      have sx4 := sx.trans s4
      cases e : heldBy s' j with
      | true =>
        refine iteF ?_
        refine ⟨?_, sx4⟩
        rw [freeT_snoc, e, if_pos rfl, List.append_nil]
        exact hx4
      | false =>
        refine iteT ?_
        walk_at "ro"
        refine ⟨_, hx4, szt (by rw [List.length_map]; omega), ?_, Same.mut sx4 hD⟩
        rw [upd_same, freeT_snoc, e, Int.zero_add, List.map_append]; rfl
    · rintro Hx ⟨hx1, sx⟩
      rw [show (((a.wds.map V.ref).length : Int) - 0).toNat = s'.m by omega] at hx1
      exact k D Hx sx hD hx1
abbrev s_Frames_uncharged : Stmt := inClass (topS 19) 22
abbrev ns_Frames_uncharged : List Str := ["self", "environment"]
theorem sc_Frames_uncharged : FnScope ns_Frames_uncharged ["self", "environment"] (defScope s_Frames_uncharged) := ⟨rfl, rfl, rfl, by decide +kernel, rfl, by decide +kernel, by decide +kernel⟩

theorem ok_Frames_uncharged {f : Addr} {fd : FuncData} (F : Fun K "_uncharged" "Frames._uncharged" s_Frames_uncharged f fd) (T : Txt K mg C_Frames C_Pages C_NotValid) (D_Frames_share : Mth P w K mg base CX0 5 C_Frames "share" ["self", "environment"] (spNat1 C_Frames shareOf)) (D_Frames_charge : Mth P w K mg base CX0 6 C_Frames "charge" ["self", "environment"] (spNat1 C_Frames chargeOf)) : FnOk P w K mg base CX0 7 f fd ["self", "environment"] (spNat1 C_Frames unchOf) := by
  have ho_Frames := T.o_Frames; have hn_Frames__words := T.n_Frames__words; have hn_Frames__shares := T.n_Frames__shares; have hn_Frames__rights := T.n_Frames__rights; have hn_Frames__offers := T.n_Frames__offers; have hn_Frames__asked := T.n_Frames__asked; have hn_Frames__ends_to_wait := T.n_Frames__ends_to_wait; have hn_Frames__taken := T.n_Frames__taken
  refine F.ok sc_Frames_uncharged (fun vs H Q E h => ?_) (fun cdv A outer s H vs Q E hr h => ?_)
  · obtain ⟨P', x, a, s, v, d, rfl, _⟩ := h
    rfl
  · obtain ⟨P', x, a, s', v, d, rfl, fr, hd, k⟩ := h
    refine ⟨_, (pss_one (ps_ret (pe_callB (call_max2 rfl) (by rfl) T.b_max (by decide +kernel) (pa_cons pe_int (pa_cons (pe_op op_sub (pe_dmeth (pv 0) D_Frames_share (hr.mono (by decide)) pass0 (pa_cons (pv 1) pa_nil)) (pe_dmeth (pv 0) D_Frames_charge (hr.mono (by decide)) pass0 (pa_cons (pv 1) pa_nil))) pa_nil))))), ?_⟩
    have h1 := fr.ins
    walk_at "ro"
    refine ⟨P', x, a, s', v, d, rfl, fr, hd, fun H1 s1 => ?_⟩
    have h11 := s1 _ _ h1
    walk_at "ro"
    refine ⟨P', x, a, s', v, d, rfl, fr.same s1, hd.same s1, fun H2 s2 => ?_⟩
    have k := k H2 (s1.trans s2)
    unfold unchOf at k
    refine ⟨_, _, rfl, rfl, ?_⟩
    refine ⟨_, _, rfl, ?_⟩
    have e : (if (shareOf s' d : Int) - (chargeOf s' d : Int) > 0 then (shareOf s' d : Int) - (chargeOf s' d : Int) else 0) = ((shareOf s' d - chargeOf s' d : Nat) : Int) := by
      split <;> omega
    rw [e]
    exact k
abbrev s_Frames_may_hold_more : Stmt := inClass (topS 19) 21
abbrev ns_Frames_may_hold_more : List Str := ["self", "environment", "other"]
theorem sc_Frames_may_hold_more : FnScope ns_Frames_may_hold_more ["self", "environment"] (defScope s_Frames_may_hold_more) := ⟨rfl, rfl, rfl, by decide +kernel, rfl, by decide +kernel, by decide +kernel⟩

theorem ok_Frames_may_hold_more {f : Addr} {fd : FuncData} (F : Fun K "_may_hold_more" "Frames._may_hold_more" s_Frames_may_hold_more f fd) (T : Txt K mg C_Frames C_Pages C_NotValid) (D_Frames_uncharged : Mth P w K mg base CX0 7 C_Frames "_uncharged" ["self", "environment"] (spNat1 C_Frames unchOf)) (D_Frames_left : Mth P w K mg base CX0 1 C_Frames "left" ["self"] (spLeft C_Frames)) : FnOk P w K mg base CX0 8 f fd ["self", "environment"] (spMore C_Frames) := by
  have ho_Frames := T.o_Frames; have hn_Frames__words := T.n_Frames__words; have hn_Frames__shares := T.n_Frames__shares; have hn_Frames__rights := T.n_Frames__rights; have hn_Frames__offers := T.n_Frames__offers; have hn_Frames__asked := T.n_Frames__asked; have hn_Frames__ends_to_wait := T.n_Frames__ends_to_wait; have hn_Frames__taken := T.n_Frames__taken
  refine F.ok sc_Frames_may_hold_more (fun vs H Q E h => ?_) (fun cdv A outer s H vs Q E hr h => ?_)
  · obtain ⟨P', x, a, s, v, d, rfl, _⟩ := h
    rfl
  · obtain ⟨P', x, a, s', v, d, rfl, fr, hd, k⟩ := h
    refine ⟨_, (pss_cons (ps_if (pt_cmpR op_gt (pe_dmeth (pv 0) D_Frames_uncharged (hr.mono (by decide)) pass0 (pa_cons (pv 1) pa_nil)) pe_int (nomark _)) (pss_one (ps_ret pe_bl)) pss_nil)
  (pss_one (ps_ret (pe_cmpR op_gt (pe_dmeth0 (pv 0) D_Frames_left (hr.mono (by decide)) pass0 ) (pe_callB (kSum K rfl) (by rfl) T.b_sum (by decide +kernel) (pa_cons (pe_lc (own := [("other", 2)]) (by rfl) sc_Frames_may_hold_more.nd (pi_range1 (by rfl) T.b_range (pa_cons (pe_gint (by rfl) T.c_ENVIRONMENTS) pa_nil)) (blkOk_by (N := ns_Frames_may_hold_more) (sc := defScope s_Frames_may_hold_more) (by decide +kernel)) (fun _ _ _ _ _ => (pg_name (i := 2) sc_Frames_may_hold_more.nd rfl (Or.inl rfl))) (fun _ _ _ _ _ => pts_nil) (fun _ _ _ _ _ => (pe_dmeth (pv 0) D_Frames_uncharged (hr.mono (by decide)) pass0 (pa_cons (pv 2) pa_nil)))) pa_nil)) (nomark _))))), ?_⟩
    have h1 := fr.ins
    walk_at "ro"
    refine ⟨P', x, a, s', v, d, rfl, fr, hd, fun H1 s1 => ?_⟩
    walk_at "ro"
    unfold moreOf at k
    refine iteD (fun e1 => ?_) (fun e1 => ?_)
    · have k := k H1 s1
      rw [decide_eq_true (by omega : 0 < unchOf s' d)] at k
      exact k
    · have h11 := s1 _ _ h1
      walk_at "ro"
      refine ⟨P', x, a, s', rfl, fr.same s1, fun H2 s2 => ?_⟩
      have s02 := s1.trans s2
      walk_at "ro"
      refine ⟨by decide, by decide, fun D hD => ?_⟩
      refine lc_range (lo := 0) (n := ((4 : Int) - 0).toNat) (fun j Hx => Hx D = some (.lst (((List.range j).map fun n => unchOf s' (eD n)).map vN)) ∧ Same H2 Hx) ⟨upd_same, Same.new hD⟩ ?_ ?_
      · rintro j Hx hj ⟨hx1, sx⟩
        have hj : j < 4 := hj
        have h1x := sx _ _ (s02 _ _ h1)
        refine ⟨rfl, ?_⟩
        walk_at "ro"
        refine ⟨P', x, a, s', _, eD j, rfl, fr.same (s02.trans sx), by rw [Int.zero_add]; exact .int _, fun H4 s4 => ?_⟩
        refine ⟨_, s4 _ _ hx1, szt (by rw [List.length_map, List.length_map, List.length_range]; omega), ?_, Same.mut (sx.trans s4) hD⟩
        rw [upd_same, List.range_succ, List.map_append, List.map_append]; rfl
      · rintro Hx ⟨hx1, sx⟩
        walk_at "ro"
        refine ⟨D, ((List.range 4).map fun n => unchOf s' (eD n)).map fun n : Nat => (n : Int), rfl, SqL.of (by rw [vN_map]; exact hx1), ?_⟩
        rw [sum_nat]
        have k := k Hx (s02.trans sx)
        rw [decide_eq_false (by omega : ¬ 0 < unchOf s' d), Bool.false_or] at k
        refine ⟨_, _, rfl, rfl, ?_⟩
        exact k
end
end My

namespace My
open PySem L2
local macro_rules | `(tactic| walk_at "ne") => `(tactic| first | assumption | exact Ne.symm (by assumption) | exact ne_of_none (by assumption) (by assumption) | exact Ne.symm (ne_of_none (by assumption) (by assumption)))
local macro_rules | `(tactic| walk_at "hp") => `(tactic| first | assumption | with_reducible exact upd_same | (with_reducible refine Eq.trans (upd_ne ?_) ?_; rotate_left; walk_at "hp"; walk_at "ne"))
local macro_rules | `(tactic| walk_at "cnd") => `(tactic| first | omega | (show (0 : Int) < _; omega) | exact ⟨by omega, by omega⟩ | exact Or.inl ⟨by omega, by omega⟩ | exact Or.inr ⟨by omega, by omega⟩ | exact ⟨by omega, by omega, by decide⟩ | exact ⟨by omega, by omega, by omega⟩)
local macro_rules | `(tactic| walk_at "at") => `(tactic| first | exact atC 0 rfl rfl | exact atC 1 rfl rfl | exact atC 2 rfl rfl | exact atC 3 rfl rfl | exact atC 4 rfl rfl | exact atC 5 rfl rfl | exact atC 6 rfl rfl | exact atC 7 rfl rfl)
local macro_rules | `(tactic| walk_at "ix") => `(tactic| first | exact ixC 0 rfl (Nat.le_of_ble_eq_true rfl) | exact ixC 1 rfl (Nat.le_of_ble_eq_true rfl) | exact ixC 2 rfl (Nat.le_of_ble_eq_true rfl) | exact ixC 3 rfl (Nat.le_of_ble_eq_true rfl) | exact ixC 4 rfl (Nat.le_of_ble_eq_true rfl) | exact ixC 5 rfl (Nat.le_of_ble_eq_true rfl))
local macro_rules | `(tactic| walk_at "st") => `(tactic| first
  | refine ⟨_, rfl, ?_⟩
  | refine ⟨_, _, rfl, rfl, (by walk_at "cnd" : (_ : Prop)), ?_⟩
  | refine ⟨_, _, rfl, rfl, ?_⟩
  | refine ⟨rfl, ?_⟩
  | refine Or.inl ⟨_, rfl, ?_⟩
  | refine ⟨_, _, _, _, rfl, rfl, by exact SqL.of (by walk_at "hp"), by walk_at "at", ?_⟩
  | refine ⟨_, _, _, _, rfl, rfl, by exact SqT.of (by walk_at "hp"), by walk_at "at", ?_⟩
  | refine ⟨_, _, _, _, rfl, rfl, by walk_at "hp", by walk_at "ix", ?_⟩
  | refine ⟨_, _, rfl, Or.inl (by exact SqL.of (by walk_at "hp")), ?_⟩
  | refine ⟨_, _, rfl, Or.inr (by exact SqT.of (by walk_at "hp")), ?_⟩)
local macro_rules | `(tactic| walk_at "so") => `(tactic| first
  | refine ⟨_, _, _, _, _, rfl, by walk_at "hp", by assumption, by assumption, rfl, ?_⟩
  | refine ⟨_, _, _, _, rfl, by walk_at "hp", by assumption, by assumption, Nat.le_of_ble_eq_true rfl, ?_⟩
  | refine ⟨_, _, _, rfl, by walk_at "hp", rfl, ?_⟩
  | walk_at "st")
local macro_rules | `(tactic| walk_at "ro") => `(tactic| repeat walk_at "so")
local macro_rules | `(tactic| walk_at "run") => `(tactic| repeat walk_at "st")

def getO (l : List (Nat × RL)) (f : Nat) : Option RL := (l.find? fun p => decide (p.1 = f)).map (·.2)
theorem valO {H : Hp} (f : Nat) : ∀ {l : List (Nat × RL)} {is : List Addr}, Each (fun H i (p : Nat × RL) => RtD H i p.2) H is l → (∃ i rl, valV (entO l is) (.inl (f : Int)) = some (.ref i) ∧ getO l f = some rl ∧ RtD H i rl ∧ i ∈ is) ∨ (valV (entO l is) (.inl (f : Int)) = none ∧ getO l f = none)
  | [], is, _ => .inr ⟨by unfold entO; rw [List.zip_nil_left]; rfl, rfl⟩
  | p :: l, [], h => by cases h.1
  | p :: l, i :: is, h => by
    have h' : Each (fun H i (p : Nat × RL) => RtD H i p.2) H is l := ⟨by simpa using h.1, fun j d q a b => h.2 (j + 1) d q (by simpa using a) (by simpa using b)⟩
    have h0 := h.2 0 i p rfl rfl
    have e0 : entO (p :: l) (i :: is) = (.inl (p.1 : Int), .ref i) :: entO l is := rfl
    rw [e0]
    unfold getO
    by_cases e : p.1 = f
    · rw [valV_pos (keyI.mpr e), List.find?_cons_of_pos (by simp [e])]
      exact .inl ⟨i, p.2, rfl, rfl, h0, List.mem_cons_self⟩
    · rw [valV_neg (fun q => e (keyI.mp q)), List.find?_cons_of_neg (by simp [e])]
      rcases valO f h' with ⟨i', rl, a, b, c, d⟩ | h
      · exact .inl ⟨i', rl, a, b, c, List.mem_cons_of_mem _ d⟩
      · exact .inr h
def offOf (s : FS) (w f o : PyData) : Option Bool := if isE w = true ∧ isE o = true ∧ isF s f = true then getR ((getO (s.of.getD (natD w) []) (natD f)).getD []) (natD o) else none
def spOff (C : Addr) : Sp := fun vs H Q _ => ∃ P x a s v d u e z g, vs = [.ref x, v, u, z] ∧ Fr C P H x a s ∧ Dt H v d ∧ Dt H u e ∧ Dt H z g ∧ ∀ H', Same H H' → Q (optR (offOf s d e g)) H'
section
variable {P : Program} {w : World} {K : PySem.W.Frag} {mg : Str → Option Value} {base : Heap} {C_Frames C_Pages C_NotValid : Addr}
abbrev s_Frames_offered : Stmt := inClass (topS 19) 20
abbrev ns_Frames_offered : List Str := ["self", "owner", "frame", "other"]
theorem sc_Frames_offered : FnScope ns_Frames_offered ["self", "owner", "frame", "other"] (defScope s_Frames_offered) := ⟨rfl, rfl, rfl, by decide +kernel, rfl, by decide +kernel, by decide +kernel⟩

theorem ok_Frames_offered {f : Addr} {fd : FuncData} (F : Fun K "_offered" "Frames._offered" s_Frames_offered f fd) (T : Txt K mg C_Frames C_Pages C_NotValid) (D_is_environment : Dfn P w K mg base CX0 4 "is_environment" ["value"] spEnv) (D_Frames_is_frame : Mth P w K mg base CX0 4 C_Frames "_is_frame" ["self", "value"] (spIsF C_Frames)) : FnOk P w K mg base CX0 5 f fd ["self", "owner", "frame", "other"] (spOff C_Frames) := by
  have ho_Frames := T.o_Frames; have hn_Frames__words := T.n_Frames__words; have hn_Frames__shares := T.n_Frames__shares; have hn_Frames__rights := T.n_Frames__rights; have hn_Frames__offers := T.n_Frames__offers; have hn_Frames__asked := T.n_Frames__asked; have hn_Frames__ends_to_wait := T.n_Frames__ends_to_wait; have hn_Frames__taken := T.n_Frames__taken
  refine F.ok sc_Frames_offered (fun vs H Q E h => ?_) (fun cdv A outer s H vs Q E hr h => ?_)
  · obtain ⟨P', x, a, s, v, d, u, e, z, g, rfl, _⟩ := h
    rfl
  · obtain ⟨P', x, a, s', v, d, u, e, z, g, rfl, fr, hd, he, hg, k⟩ := h
    refine ⟨_, (pss_cons (ps_if (PW.pt (pw_or (pt_not (pt_val (pe_dcall D_is_environment (hr.mono (by decide)) (by rfl) pass0 (pa_cons (pv 1) pa_nil)))) (pw_or (pt_not (pt_val (pe_dcall D_is_environment (hr.mono (by decide)) (by rfl) pass0 (pa_cons (pv 3) pa_nil)))) (pw_or1 (pt_not (pt_val (pe_dmeth (pv 0) D_Frames_is_frame (hr.mono (by decide)) pass0 (pa_cons (pv 2) pa_nil)))))))) (pss_one (ps_ret pe_non)) pss_nil)
  (pss_one (ps_ret (pe_dget1 (units1 hr) (pe_dget2 (units1 hr) (pe_ix (kIxL K) (kFld K (pv 0) rfl) (pv 1) (fun _ _ => rfl)) (pv 2) pe_dnewK ⟨rfl, rfl, rfl, rfl⟩) (pv 3) ⟨rfl, rfl, rfl, rfl⟩)))), ?_⟩
    have h1 := fr.ins
    have h2 := fr.o
    have bad : offOf s' d e g = none → Q .non H := fun q => by
      have k := k H (Same.refl H)
      rw [q] at k
      exact k
    walk_at "ro"
    refine ⟨v, d, rfl, hd, _, rfl, ?_⟩
    cases e1 : isE d with
    | false => exact iteT (bad (by unfold offOf; rw [e1]; rfl))
    | true =>
      refine iteF ?_
      walk_at "ro"
      refine ⟨z, g, rfl, hg, _, rfl, ?_⟩
      cases e2 : isE g with
      | false => exact iteT (bad (by unfold offOf; rw [e1, e2]; rfl))
      | true =>
        refine iteF ?_
        walk_at "ro"
        refine ⟨P', x, a, s', u, e, rfl, fr, he, _, rfl, ?_⟩
        cases e3 : isF s' e with
        | false => exact iteT (bad (by unfold offOf; rw [e1, e2, e3]; rfl))
        | true =>
          refine iteF ?_
          obtain ⟨n, rfl, n3⟩ := isI_nat e1
          obtain ⟨o, rfl, o3⟩ := isI_nat e2
          obtain ⟨t, rfl, _⟩ := isI_nat e3
          cases hd
          cases he
          cases hg
          have er : offOf s' (.int (n : Int)) (.int (t : Int)) (.int (o : Int)) = getR ((getO (s'.of.getD n []) t).getD []) o := by
            unfold offOf
            rw [if_pos ⟨e1, e2, e3⟩]; rfl
          rw [er] at k
          have n4 : n < s'.of.length := by rw [fr.ok.of4]; omega
          have nz : (a.ids.zip s'.of)[n]? = some (a.ids[n]'(by rw [fr.il]; exact n4), s'.of[n]) := by
            rw [List.getElem?_zip_eq_some]
            exact ⟨List.getElem?_eq_getElem _, List.getElem?_eq_getElem _⟩
          obtain ⟨dd, hdd, hdk, hdi⟩ := fr.os.at nz
          have eg : s'.of.getD n [] = s'.of[n] := by rw [List.getD_eq_getElem?_getD, List.getElem?_eq_getElem n4]; rfl
          rw [eg] at k
          walk_at "ro"
          refine ⟨_, _, _, _, rfl, rfl, SqL.of h2, atC n rfl (by rw [List.getElem?_map, hdd]; rfl), ?_⟩
          refine ⟨dd, rfl, .inl ⟨_, .inl hdk⟩, ?_⟩
          walk_at "ro"
          refine fun q hq => ?_
          have sq := Same.new (o := .dK []) hq
          refine ⟨_, DGet.k (k := .inl (t : Int)) (sq _ _ hdk), ?_⟩
          rcases valO t hdi with ⟨i, rl, a1, a2, a3, _⟩ | ⟨a1, a2⟩
          · rw [a1]
            rw [a2] at k
            refine ⟨i, rfl, .inl ⟨_, .inl (sq _ _ a3)⟩, ?_⟩
            walk_at "ro"
            refine ⟨_, DGet.k (k := .inl (o : Int)) (sq _ _ a3), ?_⟩
            rw [valR]
            have k := k _ sq
            show Q (((getR rl o).map rV).getD .non) _
            have k : Q (optR (getR rl o)) _ := k
            cases e5 : getR rl o with
            | none => rw [e5] at k; exact k
            | some b => rw [e5] at k; exact k
          · rw [a1]
            rw [a2] at k
            refine ⟨q, rfl, .inl ⟨_, .inl upd_same⟩, ?_⟩
            walk_at "ro"
            refine ⟨_, DGet.k (k := .inl (o : Int)) upd_same, ?_⟩
            exact k _ sq
end
end My

namespace My
open PySem L2
local macro_rules | `(tactic| walk_at "ne") => `(tactic| first | assumption | exact Ne.symm (by assumption) | exact ne_of_none (by assumption) (by assumption) | exact Ne.symm (ne_of_none (by assumption) (by assumption)))
local macro_rules | `(tactic| walk_at "hp") => `(tactic| first | assumption | with_reducible exact upd_same | (with_reducible refine Eq.trans (upd_ne ?_) ?_; rotate_left; walk_at "hp"; walk_at "ne"))
local macro_rules | `(tactic| walk_at "cnd") => `(tactic| first | omega | (show (0 : Int) < _; omega) | exact ⟨by omega, by omega⟩ | exact Or.inl ⟨by omega, by omega⟩ | exact Or.inr ⟨by omega, by omega⟩ | exact ⟨by omega, by omega, by decide⟩ | exact ⟨by omega, by omega, by omega⟩)
local macro_rules | `(tactic| walk_at "at") => `(tactic| first | exact atC 0 rfl rfl | exact atC 1 rfl rfl | exact atC 2 rfl rfl | exact atC 3 rfl rfl | exact atC 4 rfl rfl | exact atC 5 rfl rfl | exact atC 6 rfl rfl | exact atC 7 rfl rfl)
local macro_rules | `(tactic| walk_at "ix") => `(tactic| first | exact ixC 0 rfl (Nat.le_of_ble_eq_true rfl) | exact ixC 1 rfl (Nat.le_of_ble_eq_true rfl) | exact ixC 2 rfl (Nat.le_of_ble_eq_true rfl) | exact ixC 3 rfl (Nat.le_of_ble_eq_true rfl) | exact ixC 4 rfl (Nat.le_of_ble_eq_true rfl) | exact ixC 5 rfl (Nat.le_of_ble_eq_true rfl))
local macro_rules | `(tactic| walk_at "st") => `(tactic| first
  | refine ⟨_, rfl, ?_⟩
  | refine ⟨_, _, rfl, rfl, (by walk_at "cnd" : (_ : Prop)), ?_⟩
  | refine ⟨_, _, rfl, rfl, ?_⟩
  | refine ⟨rfl, ?_⟩
  | refine Or.inl ⟨_, rfl, ?_⟩
  | refine ⟨_, _, _, _, rfl, rfl, by exact SqL.of (by walk_at "hp"), by walk_at "at", ?_⟩
  | refine ⟨_, _, _, _, rfl, rfl, by exact SqT.of (by walk_at "hp"), by walk_at "at", ?_⟩
  | refine ⟨_, _, _, _, rfl, rfl, by walk_at "hp", by walk_at "ix", ?_⟩
  | refine ⟨_, _, rfl, Or.inl (by exact SqL.of (by walk_at "hp")), ?_⟩
  | refine ⟨_, _, rfl, Or.inr (by exact SqT.of (by walk_at "hp")), ?_⟩)
local macro_rules | `(tactic| walk_at "so") => `(tactic| first
  | refine ⟨_, _, _, _, _, rfl, by walk_at "hp", by assumption, by assumption, rfl, ?_⟩
  | refine ⟨_, _, _, _, rfl, by walk_at "hp", by assumption, by assumption, Nat.le_of_ble_eq_true rfl, ?_⟩
  | refine ⟨_, _, _, rfl, by walk_at "hp", rfl, ?_⟩
  | walk_at "st")
local macro_rules | `(tactic| walk_at "ro") => `(tactic| repeat walk_at "so")
local macro_rules | `(tactic| walk_at "run") => `(tactic| repeat walk_at "st")

/-! ### single changes -/
theorem nd_ne {xs ys : List Addr} (h : (xs ++ ys).Nodup) {a b : Addr} (ha : a ∈ xs) (hb : b ∈ ys) : a ≠ b := (List.nodup_append.mp h).2.2 a ha b hb
theorem Each.upd {α : Type} {rel : Hp → Addr → α → Prop} {H : Hp} {p : Addr} {o : HO} {ds : List Addr} {ls : List α} (h : Each rel H ds ls) (n : p ∉ ds) (f : ∀ d l, d ≠ p → rel H d l → rel (L2.upd H p o) d l) : Each rel (L2.upd H p o) ds ls :=
  ⟨h.1, fun j d l a b => f d l (fun e => n (by rw [← e]; exact List.mem_of_getElem? a)) (h.2 j d l a b)⟩
/-- one thing of the list changes -/
theorem Each.put {α : Type} {rel : Hp → Addr → α → Prop} {H : Hp} {p : Addr} {o : HO} {ds : List Addr} {ls : List α} {e : Nat} {l' : α} (h : Each rel H ds ls) (nd : ds.Nodup) (he : ds[e]? = some p) (f : ∀ d l, d ≠ p → rel H d l → rel (L2.upd H p o) d l) (g : rel (L2.upd H p o) p l') : Each rel (L2.upd H p o) ds (ls.set e l') := by
  refine ⟨by rw [List.length_set]; exact h.1, fun j d l a b => ?_⟩
  by_cases q : e = j
  · subst q
    rw [he] at a
    cases a
    have hl : e < ls.length := by rw [← h.1]; exact (List.getElem?_eq_some_iff.mp he).1
    rw [List.getElem?_set_self hl] at b
    cases b
    exact g
  · rw [List.getElem?_set_ne q] at b
    refine f d l (fun z => q ?_) (h.2 j d l a b)
    subst z
    exact (List.getElem?_inj (List.getElem?_eq_some_iff.mp he).1 nd).mp (he.trans a.symm)
theorem RtD.upd {H : Hp} {p : Addr} {o : HO} {d : Addr} {l : RL} (n : d ≠ p) (h : RtD H d l) : RtD (L2.upd H p o) d l := by
  unfold RtD at h ⊢
  rw [upd_ne n]; exact h
theorem NsL.upd {H : Hp} {p : Addr} {o : HO} {d : Addr} {l : List Nat} (n : d ≠ p) (h : NsL H d l) : NsL (L2.upd H p o) d l := by
  unfold NsL at h ⊢
  rw [upd_ne n]; exact h
theorem OfD.upd {H : Hp} {p : Addr} {o : HO} {d : Addr} {q : List Addr × List (Nat × RL)} (n : d ≠ p) (ni : p ∉ q.1) (h : OfD H d q) : OfD (L2.upd H p o) d q :=
  ⟨by rw [upd_ne n]; exact h.1, h.2.upd ni fun d l m r => RtD.upd m r⟩
/-- the zip of two lists, one place changed in both -/
theorem zip_set {α β : Type} : ∀ (xs : List α) (ys : List β) (e : Nat) (a : α) (b : β), (xs.set e a).zip (ys.set e b) = (xs.zip ys).set e (a, b)
  | [], _, _, _, _ => by simp
  | _ :: _, [], e, _, _ => by cases e <;> simp
  | x :: xs, y :: ys, 0, a, b => rfl
  | x :: xs, y :: ys, e + 1, a, b => by
    show (x, y) :: ((xs.set e a).zip (ys.set e b)) = (x, y) :: ((xs.zip ys).set e (a, b))
    rw [zip_set xs ys e a b]
/-- what is theirs, in parts -/
theorem own_parts {a : FA} {x : Addr} (h : (a.own x).Nodup) : ([x, a.W, a.S, a.R, a.O, a.A, a.E, a.T] : List Addr).Nodup ∧ a.wds.Nodup ∧ a.rds.Nodup ∧ a.ods.Nodup ∧ a.tks.Nodup ∧ a.ids.flatten.Nodup := by
  unfold FA.own at h
  obtain ⟨h0, h1, _⟩ := List.nodup_append.mp h
  obtain ⟨h2, h3, _⟩ := List.nodup_append.mp h1
  obtain ⟨h4, h5, _⟩ := List.nodup_append.mp h3
  obtain ⟨h6, h7, _⟩ := List.nodup_append.mp h5
  obtain ⟨h8, h9, _⟩ := List.nodup_append.mp h7
  exact ⟨h0, h2, h4, h6, h8, h9⟩
/-- the rights of one environment change -/
theorem Fr.setR {C : Addr} {P : Addr → Prop} {H : Hp} {x : Addr} {a : FA} {s : FS} (h : Fr C P H x a s) {e : Nat} {d : Addr} (hd : a.rds[e]? = some d) (l : RL) : Fr C P (L2.upd H d (.dK (entR l))) x a { s with rt := s.rt.set e l } := by
  have hm : d ∈ a.rds := List.mem_of_getElem? hd
  have nd := h.nd
  have parts := own_parts nd
  unfold FA.own at nd
  obtain ⟨h0, h1, n0⟩ := List.nodup_append.mp nd
  obtain ⟨h2, h3, n2⟩ := List.nodup_append.mp h1
  obtain ⟨h4, h5, n4⟩ := List.nodup_append.mp h3
  have m1 : ∀ b, b ∈ ([x, a.W, a.S, a.R, a.O, a.A, a.E, a.T] : List Addr) → b ≠ d := fun b hb => n0 b hb d (List.mem_append_right _ (List.mem_append_left _ hm))
  have w1 : d ∉ a.wds := fun q => n2 d q d (List.mem_append_left _ hm) rfl
  have o1 : d ∉ a.ods := fun q => n4 d hm d (List.mem_append_left _ q) rfl
  have t1 : d ∉ a.tks := fun q => n4 d hm d (List.mem_append_right _ (List.mem_append_left _ q)) rfl
  have i1 : d ∉ a.ids.flatten := fun q => n4 d hm d (List.mem_append_right _ (List.mem_append_right _ q)) rfl
  have k := h.ok
  refine ⟨⟨k.sh4, k.ask4, k.wt4, by rw [List.length_set]; exact k.rt4, k.of4, k.tk4, k.wdm, k.m64⟩, h.nd, h.mine, ?_, ?_, h.ws.upd w1 fun _ _ m r => NsL.upd m r, NsL.upd (m1 _ (by simp)) h.hs, ?_, h.rs.put parts.2.2.1 hd (fun _ _ m r => RtD.upd m r) upd_same, ?_, h.il, ?_, NsL.upd (m1 _ (by simp)) h.ha, NsL.upd (m1 _ (by simp)) h.he, ?_, h.ts.upd t1 fun _ _ m r => NsL.upd m r⟩
  · rw [upd_ne (m1 _ (by simp))]; exact h.ins
  · rw [upd_ne (m1 _ (by simp))]; exact h.w
  · rw [upd_ne (m1 _ (by simp))]; exact h.r
  · rw [upd_ne (m1 _ (by simp))]; exact h.o
  · refine ⟨h.os.1, fun j b q hb hq => OfD.upd (fun z => o1 (by rw [← z]; exact List.mem_of_getElem? hb)) (fun z => i1 ?_) (h.os.2 j b q hb hq)⟩
    obtain ⟨h8, _⟩ := List.getElem?_zip_eq_some.mp hq
    exact List.mem_flatten.mpr ⟨q.1, List.mem_of_getElem? h8, z⟩
  · rw [upd_ne (m1 _ (by simp))]; exact h.t
/-- A changes -/
theorem Fr.setA {C : Addr} {P : Addr → Prop} {H : Hp} {x : Addr} {a : FA} {s : FS} (h : Fr C P H x a s) (l : List Nat) (hl : l.length = 4) : Fr C P (L2.upd H a.A (.lst (l.map vN))) x a { s with ask := l } := by
  have nd := h.nd
  have parts := own_parts nd
  unfold FA.own at nd
  obtain ⟨h0, h1, n0⟩ := List.nodup_append.mp nd
  have z : a.A ∈ ([x, a.W, a.S, a.R, a.O, a.A, a.E, a.T] : List Addr) := by simp
  have out : ∀ b, b ∈ a.wds ++ (a.rds ++ (a.ods ++ (a.tks ++ a.ids.flatten))) → b ≠ a.A := fun b hb e => n0 _ z b hb e.symm
  have w1 : a.A ∉ a.wds := fun q => out _ (List.mem_append_left _ q) rfl
  have r1 : a.A ∉ a.rds := fun q => out _ (List.mem_append_right _ (List.mem_append_left _ q)) rfl
  have o1 : a.A ∉ a.ods := fun q => out _ (List.mem_append_right _ (List.mem_append_right _ (List.mem_append_left _ q))) rfl
  have t1 : a.A ∉ a.tks := fun q => out _ (List.mem_append_right _ (List.mem_append_right _ (List.mem_append_right _ (List.mem_append_left _ q)))) rfl
  have i1 : a.A ∉ a.ids.flatten := fun q => out _ (List.mem_append_right _ (List.mem_append_right _ (List.mem_append_right _ (List.mem_append_right _ q)))) rfl
  have k := h.ok
  simp only [List.nodup_cons, List.mem_cons, List.not_mem_nil, or_false, not_or] at h0
  obtain ⟨⟨x1, x2, x3, x4, x5, x6, x7⟩, ⟨y1, y2, y3, y4, y5, y6⟩, ⟨z1, z2, z3, z4, z5⟩, ⟨u1, u2, u3, u4⟩, ⟨v1, v2, v3⟩, ⟨q1, q2⟩, q3, _⟩ := h0
  refine ⟨⟨k.sh4, hl, k.wt4, k.rt4, k.of4, k.tk4, k.wdm, k.m64⟩, h.nd, h.mine, ?_, ?_, h.ws.upd w1 fun _ _ m r => NsL.upd m r, ?_, ?_, h.rs.upd r1 fun _ _ m r => RtD.upd m r, ?_, h.il, ?_, ?_, ?_, ?_, h.ts.upd t1 fun _ _ m r => NsL.upd m r⟩
  · rw [upd_ne (by assumption)]; exact h.ins
  · rw [upd_ne (by first | assumption | exact Ne.symm (by assumption))]; exact h.w
  · exact NsL.upd (by first | assumption | exact Ne.symm (by assumption)) h.hs
  · rw [upd_ne (by first | assumption | exact Ne.symm (by assumption))]; exact h.r
  · rw [upd_ne (by first | assumption | exact Ne.symm (by assumption))]; exact h.o
  · refine ⟨h.os.1, fun j b q hb hq => OfD.upd (fun z => o1 (by rw [← z]; exact List.mem_of_getElem? hb)) (fun z => i1 ?_) (h.os.2 j b q hb hq)⟩
    obtain ⟨h8, _⟩ := List.getElem?_zip_eq_some.mp hq
    exact List.mem_flatten.mpr ⟨q.1, List.mem_of_getElem? h8, z⟩
  · first | exact upd_same | exact NsL.upd (by first | assumption | exact Ne.symm (by assumption)) h.ha
  · first | exact upd_same | exact NsL.upd (by first | assumption | exact Ne.symm (by assumption)) h.he
  · rw [upd_ne (by first | assumption | exact Ne.symm (by assumption))]; exact h.t
/-- E changes -/
theorem Fr.setE {C : Addr} {P : Addr → Prop} {H : Hp} {x : Addr} {a : FA} {s : FS} (h : Fr C P H x a s) (l : List Nat) (hl : l.length = 4) : Fr C P (L2.upd H a.E (.lst (l.map vN))) x a { s with wt := l } := by
  have nd := h.nd
  have parts := own_parts nd
  unfold FA.own at nd
  obtain ⟨h0, h1, n0⟩ := List.nodup_append.mp nd
  have z : a.E ∈ ([x, a.W, a.S, a.R, a.O, a.A, a.E, a.T] : List Addr) := by simp
  have out : ∀ b, b ∈ a.wds ++ (a.rds ++ (a.ods ++ (a.tks ++ a.ids.flatten))) → b ≠ a.E := fun b hb e => n0 _ z b hb e.symm
  have w1 : a.E ∉ a.wds := fun q => out _ (List.mem_append_left _ q) rfl
  have r1 : a.E ∉ a.rds := fun q => out _ (List.mem_append_right _ (List.mem_append_left _ q)) rfl
  have o1 : a.E ∉ a.ods := fun q => out _ (List.mem_append_right _ (List.mem_append_right _ (List.mem_append_left _ q))) rfl
  have t1 : a.E ∉ a.tks := fun q => out _ (List.mem_append_right _ (List.mem_append_right _ (List.mem_append_right _ (List.mem_append_left _ q)))) rfl
  have i1 : a.E ∉ a.ids.flatten := fun q => out _ (List.mem_append_right _ (List.mem_append_right _ (List.mem_append_right _ (List.mem_append_right _ q)))) rfl
  have k := h.ok
  simp only [List.nodup_cons, List.mem_cons, List.not_mem_nil, or_false, not_or] at h0
  obtain ⟨⟨x1, x2, x3, x4, x5, x6, x7⟩, ⟨y1, y2, y3, y4, y5, y6⟩, ⟨z1, z2, z3, z4, z5⟩, ⟨u1, u2, u3, u4⟩, ⟨v1, v2, v3⟩, ⟨q1, q2⟩, q3, _⟩ := h0
  refine ⟨⟨k.sh4, k.ask4, hl, k.rt4, k.of4, k.tk4, k.wdm, k.m64⟩, h.nd, h.mine, ?_, ?_, h.ws.upd w1 fun _ _ m r => NsL.upd m r, ?_, ?_, h.rs.upd r1 fun _ _ m r => RtD.upd m r, ?_, h.il, ?_, ?_, ?_, ?_, h.ts.upd t1 fun _ _ m r => NsL.upd m r⟩
  · rw [upd_ne (by assumption)]; exact h.ins
  · rw [upd_ne (by first | assumption | exact Ne.symm (by assumption))]; exact h.w
  · exact NsL.upd (by first | assumption | exact Ne.symm (by assumption)) h.hs
  · rw [upd_ne (by first | assumption | exact Ne.symm (by assumption))]; exact h.r
  · rw [upd_ne (by first | assumption | exact Ne.symm (by assumption))]; exact h.o
  · refine ⟨h.os.1, fun j b q hb hq => OfD.upd (fun z => o1 (by rw [← z]; exact List.mem_of_getElem? hb)) (fun z => i1 ?_) (h.os.2 j b q hb hq)⟩
    obtain ⟨h8, _⟩ := List.getElem?_zip_eq_some.mp hq
    exact List.mem_flatten.mpr ⟨q.1, List.mem_of_getElem? h8, z⟩
  · first | exact upd_same | exact NsL.upd (by first | assumption | exact Ne.symm (by assumption)) h.ha
  · first | exact upd_same | exact NsL.upd (by first | assumption | exact Ne.symm (by assumption)) h.he
  · rw [upd_ne (by first | assumption | exact Ne.symm (by assumption))]; exact h.t
/-- the offers of one environment change; their inner dicts stand already -/
theorem Fr.setO {C : Addr} {P P' : Addr → Prop} {H : Hp} {x : Addr} {a : FA} {s : FS} (h : Fr C P H x a s) {e : Nat} {d : Addr} (hd : a.ods[e]? = some d) (l : List (Nat × RL)) (is : List Addr) (hi : Each (fun H i (p : Nat × RL) => RtD H i p.2) H is l) (nd : (({ a with ids := a.ids.set e is } : FA).own x).Nodup) (mine : ∀ b ∈ ({ a with ids := a.ids.set e is } : FA).own x, P' b) :
    Fr C P' (L2.upd H d (.dK (entO l is))) x { a with ids := a.ids.set e is } { s with of := s.of.set e l } := by
  have hm : d ∈ a.ods := List.mem_of_getElem? hd
  have parts := own_parts h.nd
  have nd' := nd
  unfold FA.own at nd'
  obtain ⟨h0, h1, n0⟩ := List.nodup_append.mp nd'
  obtain ⟨h2, h3, n2⟩ := List.nodup_append.mp h1
  obtain ⟨h4, h5, n4⟩ := List.nodup_append.mp h3
  obtain ⟨h6, h7, n6⟩ := List.nodup_append.mp h5
  have nd0 := h.nd
  unfold FA.own at nd0
  obtain ⟨_, g1, _⟩ := List.nodup_append.mp nd0
  obtain ⟨_, g3, _⟩ := List.nodup_append.mp g1
  obtain ⟨_, g5, _⟩ := List.nodup_append.mp g3
  obtain ⟨_, _, k6⟩ := List.nodup_append.mp g5
  have i0 : d ∉ a.ids.flatten := fun q => k6 d hm d (List.mem_append_right _ q) rfl
  have m1 : ∀ b, b ∈ ([x, a.W, a.S, a.R, a.O, a.A, a.E, a.T] : List Addr) → b ≠ d := fun b hb => n0 b hb d (List.mem_append_right _ (List.mem_append_right _ (List.mem_append_left _ hm)))
  have w1 : d ∉ a.wds := fun q => n2 d q d (List.mem_append_right _ (List.mem_append_left _ hm)) rfl
  have r1 : d ∉ a.rds := fun q => n4 d q d (List.mem_append_left _ hm) rfl
  have t1 : d ∉ a.tks := fun q => n6 d hm d (List.mem_append_left _ q) rfl
  have he : e < s.of.length := by
    have q := h.os.1
    rw [List.length_zip, h.il, Nat.min_self] at q
    rw [← q]
    exact (List.getElem?_eq_some_iff.mp hd).1
  have hi1 : is ∈ a.ids.set e is := List.mem_set (by rw [h.il]; exact he) _
  have d1 : d ∉ is := fun q => n6 d hm d (List.mem_append_right _ (List.mem_flatten.mpr ⟨is, hi1, q⟩)) rfl
  have k := h.ok
  refine ⟨⟨k.sh4, k.ask4, k.wt4, k.rt4, by rw [List.length_set]; exact k.of4, k.tk4, k.wdm, k.m64⟩, nd, mine, ?_, ?_, h.ws.upd w1 fun _ _ m r => NsL.upd m r, NsL.upd (m1 _ (by simp)) h.hs, ?_, h.rs.upd r1 fun _ _ m r => RtD.upd m r, ?_, by rw [List.length_set, List.length_set]; exact h.il, ?_, NsL.upd (m1 _ (by simp)) h.ha, NsL.upd (m1 _ (by simp)) h.he, ?_, h.ts.upd t1 fun _ _ m r => NsL.upd m r⟩
  · rw [upd_ne (m1 _ (by simp))]; exact h.ins
  · rw [upd_ne (m1 _ (by simp))]; exact h.w
  · rw [upd_ne (m1 _ (by simp))]; exact h.r
  · rw [upd_ne (m1 _ (by simp))]; exact h.o
  · show Each OfD _ a.ods ((a.ids.set e is).zip (s.of.set e l))
    rw [zip_set]
    refine ⟨by rw [List.length_set]; exact h.os.1, fun j b q hb hq => ?_⟩
    by_cases z : e = j
    · subst z
      rw [hd] at hb
      cases hb
      rw [List.getElem?_set_self (by rw [List.length_zip, h.il, Nat.min_self]; exact he)] at hq
      cases hq
      exact ⟨upd_same, hi.upd d1 fun _ _ m r => RtD.upd m r⟩
    · rw [List.getElem?_set_ne z] at hq
      refine OfD.upd (fun y => z ?_) (fun y => i0 ?_) (h.os.2 j b q hb hq)
      · subst y
        exact (List.getElem?_inj (List.getElem?_eq_some_iff.mp hd).1 parts.2.2.2.1).mp (hd.trans hb.symm)
      · obtain ⟨h8, _⟩ := List.getElem?_zip_eq_some.mp hq
        exact List.mem_flatten.mpr ⟨q.1, List.mem_of_getElem? h8, y⟩
  · rw [upd_ne (m1 _ (by simp))]; exact h.t
end My

namespace My
open PySem L2
local macro_rules | `(tactic| walk_at "ne") => `(tactic| first | assumption | exact Ne.symm (by assumption) | exact ne_of_none (by assumption) (by assumption) | exact Ne.symm (ne_of_none (by assumption) (by assumption)))
local macro_rules | `(tactic| walk_at "hp") => `(tactic| first | assumption | with_reducible exact upd_same | (with_reducible refine Eq.trans (upd_ne ?_) ?_; rotate_left; walk_at "hp"; walk_at "ne"))
local macro_rules | `(tactic| walk_at "cnd") => `(tactic| first | omega | (show (0 : Int) < _; omega) | exact ⟨by omega, by omega⟩ | exact Or.inl ⟨by omega, by omega⟩ | exact Or.inr ⟨by omega, by omega⟩ | exact ⟨by omega, by omega, by decide⟩ | exact ⟨by omega, by omega, by omega⟩)
local macro_rules | `(tactic| walk_at "at") => `(tactic| first | exact atC 0 rfl rfl | exact atC 1 rfl rfl | exact atC 2 rfl rfl | exact atC 3 rfl rfl | exact atC 4 rfl rfl | exact atC 5 rfl rfl | exact atC 6 rfl rfl | exact atC 7 rfl rfl)
local macro_rules | `(tactic| walk_at "ix") => `(tactic| first | exact ixC 0 rfl (Nat.le_of_ble_eq_true rfl) | exact ixC 1 rfl (Nat.le_of_ble_eq_true rfl) | exact ixC 2 rfl (Nat.le_of_ble_eq_true rfl) | exact ixC 3 rfl (Nat.le_of_ble_eq_true rfl) | exact ixC 4 rfl (Nat.le_of_ble_eq_true rfl) | exact ixC 5 rfl (Nat.le_of_ble_eq_true rfl))
local macro_rules | `(tactic| walk_at "st") => `(tactic| first
  | refine ⟨_, rfl, ?_⟩
  | refine ⟨_, _, rfl, rfl, (by walk_at "cnd" : (_ : Prop)), ?_⟩
  | refine ⟨_, _, rfl, rfl, ?_⟩
  | refine ⟨rfl, ?_⟩
  | refine Or.inl ⟨_, rfl, ?_⟩
  | refine ⟨_, _, _, _, rfl, rfl, by exact SqL.of (by walk_at "hp"), by walk_at "at", ?_⟩
  | refine ⟨_, _, _, _, rfl, rfl, by exact SqT.of (by walk_at "hp"), by walk_at "at", ?_⟩
  | refine ⟨_, _, _, _, rfl, rfl, by walk_at "hp", by walk_at "ix", ?_⟩
  | refine ⟨_, _, rfl, Or.inl (by exact SqL.of (by walk_at "hp")), ?_⟩
  | refine ⟨_, _, rfl, Or.inr (by exact SqT.of (by walk_at "hp")), ?_⟩)
local macro_rules | `(tactic| walk_at "so") => `(tactic| first
  | refine ⟨_, _, _, _, _, rfl, by walk_at "hp", by assumption, by assumption, rfl, ?_⟩
  | refine ⟨_, _, _, _, rfl, by walk_at "hp", by assumption, by assumption, Nat.le_of_ble_eq_true rfl, ?_⟩
  | refine ⟨_, _, _, rfl, by walk_at "hp", rfl, ?_⟩
  | walk_at "st")
local macro_rules | `(tactic| walk_at "ro") => `(tactic| repeat walk_at "so")
local macro_rules | `(tactic| walk_at "run") => `(tactic| repeat walk_at "st")

def ChgP (P : Addr → Prop) (H H' : Hp) : Prop := ∀ b o, ¬ P b → H b = some o → H' b = some o
theorem ChgP.upd {P : Addr → Prop} {H H1 : Hp} {p : Addr} {o : HO} (h : ChgP P H H1) (hp : P p) : ChgP P H (L2.upd H1 p o) := fun b u n e => by
  rw [upd_ne (fun z => n (by rw [z]; exact hp))]
  exact h b u n e
def dropR (l : RL) (f : Nat) : RL := l.filter fun p => !decide (p.1 = f)
def dropO (l : List (Nat × RL)) (f : Nat) : List (Nat × RL) := l.filter fun p => !decide (p.1 = f)
def dropI (l : List (Nat × RL)) (is : List Addr) (f : Nat) : List Addr := ((l.zip is).filter fun p => !decide (p.1.1 = f)).map (·.2)
theorem dropK_cons (p : Key × V) (l : List (Key × V)) (k : Key) : dropK (p :: l) k = if p.1 = k then dropK l k else p :: dropK l k := by
  unfold dropK
  by_cases e : p.1 = k
  · rw [if_pos e, List.filter_cons_of_neg (by simp [e])]
  · rw [if_neg e, List.filter_cons_of_pos (by simp [e])]
theorem drop_entR (f : Nat) : ∀ l : RL, dropK (entR l) (.inl (f : Int)) = entR (dropR l f)
  | [] => rfl
  | p :: l => by
    show dropK ((.inl (p.1 : Int), rV p.2) :: entR l) (.inl (f : Int)) = entR (dropR (p :: l) f)
    rw [dropK_cons, drop_entR f l]
    unfold dropR
    by_cases e : p.1 = f
    · rw [if_pos (keyI.mpr e), List.filter_cons_of_neg (by simp [e])]
    · rw [if_neg (fun q => e (keyI.mp q)), List.filter_cons_of_pos (by simp [e])]; rfl
theorem drop_entO (f : Nat) : ∀ {l : List (Nat × RL)} {is : List Addr}, is.length = l.length → dropK (entO l is) (.inl (f : Int)) = entO (dropO l f) (dropI l is f)
  | [], _, _ => by unfold entO dropO; rw [List.zip_nil_left]; rfl
  | p :: l, [], h => by cases h
  | p :: l, i :: is, h => by
    have ih := drop_entO f (l := l) (is := is) (by simpa using h)
    show dropK ((.inl (p.1 : Int), .ref i) :: entO l is) (.inl (f : Int)) = entO (dropO (p :: l) f) (dropI (p :: l) (i :: is) f)
    rw [dropK_cons, ih]
    unfold dropO dropI
    by_cases e : p.1 = f
    · rw [if_pos (keyI.mpr e), List.filter_cons_of_neg (by simp [e]), List.zip_cons_cons, List.filter_cons_of_neg (by simp [e])]
    · rw [if_neg (fun q => e (keyI.mp q)), List.filter_cons_of_pos (by simp [e]), List.zip_cons_cons, List.filter_cons_of_pos (by simp [e])]; rfl
theorem dropI_sub (f : Nat) : ∀ (l : List (Nat × RL)) (is : List Addr), (dropI l is f).Sublist is
  | [], is => by unfold dropI; rw [List.zip_nil_left]; exact List.nil_sublist _
  | p :: l, [] => by unfold dropI; rw [List.zip_nil_right]; exact List.Sublist.refl _
  | p :: l, i :: is => by
    have ih := dropI_sub f l is
    unfold dropI at ih ⊢
    rw [List.zip_cons_cons]
    by_cases e : p.1 = f
    · rw [List.filter_cons_of_neg (by simp [e])]; exact ih.cons _
    · rw [List.filter_cons_of_pos (by simp [e])]; exact ih.cons₂ _
theorem drop_each {H : Hp} (f : Nat) : ∀ {l : List (Nat × RL)} {is : List Addr}, Each (fun H i (p : Nat × RL) => RtD H i p.2) H is l → Each (fun H i (p : Nat × RL) => RtD H i p.2) H (dropI l is f) (dropO l f)
  | [], is, h => by
    have e : is = [] := List.length_eq_zero_iff.mp h.1
    subst e
    exact h
  | p :: l, [], h => by cases h.1
  | p :: l, i :: is, h => by
    have h' : Each (fun H i (p : Nat × RL) => RtD H i p.2) H is l := ⟨by simpa using h.1, fun j d q a b => h.2 (j + 1) d q (by simpa using a) (by simpa using b)⟩
    have h0 := h.2 0 i p rfl rfl
    have ih := drop_each f h'
    unfold dropI dropO at ih ⊢
    rw [List.zip_cons_cons]
    by_cases e : p.1 = f
    · rw [List.filter_cons_of_neg (by simp [e]), List.filter_cons_of_neg (by simp [e])]; exact ih
    · rw [List.filter_cons_of_pos (by simp [e]), List.filter_cons_of_pos (by simp [e])]
      refine ⟨by rw [List.map_cons, List.length_cons, List.length_cons, ih.1], fun j d q a b => ?_⟩
      cases j with
      | zero =>
        have a' : i = d := Option.some.inj a
        have b' : p = q := Option.some.inj b
        subst a' b'
        exact h0
      | succ j => exact ih.2 j d q (by simpa using a) (by simpa using b)
theorem set_sub : ∀ {ids : List (List Addr)} {e : Nat} {is : List Addr}, (∀ o, ids[e]? = some o → is.Sublist o) → (ids.set e is).flatten.Sublist ids.flatten
  | [], _, _, _ => List.Sublist.refl _
  | o :: ids, 0, is, h => by
    show (is ++ ids.flatten).Sublist (o ++ ids.flatten)
    exact List.Sublist.append (h o rfl) (List.Sublist.refl _)
  | o :: ids, e + 1, is, h => by
    show (o ++ (ids.set e is).flatten).Sublist (o ++ ids.flatten)
    exact List.Sublist.append (List.Sublist.refl _) (set_sub fun o' ho => h o' (by simpa using ho))
theorem own_sub {a : FA} {x : Addr} {ids : List (List Addr)} (h : ids.flatten.Sublist a.ids.flatten) : (({ a with ids := ids } : FA).own x).Sublist (a.own x) := by
  unfold FA.own
  exact .append (.refl _) (.append (.refl _) (.append (.refl _) (.append (.refl _) (.append (.refl _) h))))
end My

namespace My
open PySem L2
local macro_rules | `(tactic| walk_at "ne") => `(tactic| first | assumption | exact Ne.symm (by assumption) | exact ne_of_none (by assumption) (by assumption) | exact Ne.symm (ne_of_none (by assumption) (by assumption)))
local macro_rules | `(tactic| walk_at "hp") => `(tactic| first | assumption | with_reducible exact upd_same | (with_reducible refine Eq.trans (upd_ne ?_) ?_; rotate_left; walk_at "hp"; walk_at "ne"))
local macro_rules | `(tactic| walk_at "cnd") => `(tactic| first | omega | (show (0 : Int) < _; omega) | exact ⟨by omega, by omega⟩ | exact Or.inl ⟨by omega, by omega⟩ | exact Or.inr ⟨by omega, by omega⟩ | exact ⟨by omega, by omega, by decide⟩ | exact ⟨by omega, by omega, by omega⟩)
local macro_rules | `(tactic| walk_at "at") => `(tactic| first | exact atC 0 rfl rfl | exact atC 1 rfl rfl | exact atC 2 rfl rfl | exact atC 3 rfl rfl | exact atC 4 rfl rfl | exact atC 5 rfl rfl | exact atC 6 rfl rfl | exact atC 7 rfl rfl)
local macro_rules | `(tactic| walk_at "ix") => `(tactic| first | exact ixC 0 rfl (Nat.le_of_ble_eq_true rfl) | exact ixC 1 rfl (Nat.le_of_ble_eq_true rfl) | exact ixC 2 rfl (Nat.le_of_ble_eq_true rfl) | exact ixC 3 rfl (Nat.le_of_ble_eq_true rfl) | exact ixC 4 rfl (Nat.le_of_ble_eq_true rfl) | exact ixC 5 rfl (Nat.le_of_ble_eq_true rfl))
local macro_rules | `(tactic| walk_at "st") => `(tactic| first
  | refine ⟨_, rfl, ?_⟩
  | refine ⟨_, _, rfl, rfl, (by walk_at "cnd" : (_ : Prop)), ?_⟩
  | refine ⟨_, _, rfl, rfl, ?_⟩
  | refine ⟨rfl, ?_⟩
  | refine Or.inl ⟨_, rfl, ?_⟩
  | refine ⟨_, _, _, _, rfl, rfl, by exact SqL.of (by walk_at "hp"), by walk_at "at", ?_⟩
  | refine ⟨_, _, _, _, rfl, rfl, by exact SqT.of (by walk_at "hp"), by walk_at "at", ?_⟩
  | refine ⟨_, _, _, _, rfl, rfl, by walk_at "hp", by walk_at "ix", ?_⟩
  | refine ⟨_, _, rfl, Or.inl (by exact SqL.of (by walk_at "hp")), ?_⟩
  | refine ⟨_, _, rfl, Or.inr (by exact SqT.of (by walk_at "hp")), ?_⟩)
local macro_rules | `(tactic| walk_at "so") => `(tactic| first
  | refine ⟨_, _, _, _, _, rfl, by walk_at "hp", by assumption, by assumption, rfl, ?_⟩
  | refine ⟨_, _, _, _, rfl, by walk_at "hp", by assumption, by assumption, Nat.le_of_ble_eq_true rfl, ?_⟩
  | refine ⟨_, _, _, rfl, by walk_at "hp", rfl, ?_⟩
  | walk_at "st")
local macro_rules | `(tactic| walk_at "ro") => `(tactic| repeat walk_at "so")
local macro_rules | `(tactic| walk_at "run") => `(tactic| repeat walk_at "st")

def endS (s : FS) (e f : Nat) : FS := { s with rt := s.rt.set e (dropR (s.rt.getD e []) f), of := s.of.set e (dropO (s.of.getD e []) f), ask := s.ask.set e (s.ask.getD e 0 - 1) }
theorem getO_none {l : List (Nat × RL)} {f : Nat} (h : getO l f = none) : dropO l f = l := by
  unfold getO at h
  unfold dropO
  rw [List.filter_eq_self]
  intro p hp
  have h' : l.find? (fun p => decide (p.1 = f)) = none := by
    cases e : l.find? (fun p => decide (p.1 = f)) with
    | none => rfl
    | some q => rw [e] at h; cases h
  have q := List.find?_eq_none.mp h' p hp
  simpa using q
theorem set_getD {α : Type} {l : List α} {e : Nat} {d : α} (h : e < l.length) : l.set e (l.getD e d) = l := by
  rw [List.getD_eq_getElem?_getD, List.getElem?_eq_getElem h]
  exact List.set_getElem_self h
def spEnd (C : Addr) : Sp := fun vs H Q _ => ∃ P x a s, ∃ e f : Nat, vs = [.ref x, .int (e : Int), .int (f : Int)] ∧ Fr C P H x a s ∧ e < 4 ∧ getR (s.rt.getD e []) f ≠ none ∧ ∀ a' H', Fr C P H' x a' (endS s e f) → ChgP P H H' → Q .non H'
section
variable {P : Program} {w : World} {K : PySem.W.Frag} {mg : Str → Option Value} {base : Heap} {C_Frames C_Pages C_NotValid : Addr}
abbrev s_Frames_end : Stmt := inClass (topS 19) 23
abbrev ns_Frames_end : List Str := ["self", "environment", "frame"]
theorem sc_Frames_end : FnScope ns_Frames_end ["self", "environment", "frame"] (defScope s_Frames_end) := ⟨rfl, rfl, rfl, by decide +kernel, rfl, by decide +kernel, by decide +kernel⟩

theorem ok_Frames_end {f : Addr} {fd : FuncData} (F : Fun K "_end" "Frames._end" s_Frames_end f fd) (T : Txt K mg C_Frames C_Pages C_NotValid) : FnOk P w K mg base CX0 1 f fd ["self", "environment", "frame"] (spEnd C_Frames) := by
  have ho_Frames := T.o_Frames; have hn_Frames__words := T.n_Frames__words; have hn_Frames__shares := T.n_Frames__shares; have hn_Frames__rights := T.n_Frames__rights; have hn_Frames__offers := T.n_Frames__offers; have hn_Frames__asked := T.n_Frames__asked; have hn_Frames__ends_to_wait := T.n_Frames__ends_to_wait; have hn_Frames__taken := T.n_Frames__taken
  refine F.ok sc_Frames_end (fun vs H Q E h => ?_) (fun cdv A outer s H vs Q E hr h => ?_)
  · obtain ⟨P', x, a, s, e, g, rfl, _⟩ := h
    rfl
  · obtain ⟨P', x, a, s', e, g, rfl, fr, e4, hg, k⟩ := h
    refine ⟨_, (pss_cons (ps_ddel (pe_ix (kIxL K) (kFld K (pv 0) rfl) (pv 1) (fun _ _ => rfl)) (pv 2))
  (pss_cons (ps_expr (pe_dpop2 (pe_ix (kIxL K) (kFld K (pv 0) rfl) (pv 1) (fun _ _ => rfl)) (pv 2) pe_non ⟨rfl, rfl, rfl, rfl⟩))
  (pss_one (ps_asg (pe_callB (call_max2 rfl) (by rfl) T.b_max (by decide +kernel) (pa_cons pe_int (pa_cons (pe_op op_sub (pe_ix (kIxL K) (kFld K (pv 0) rfl) (pv 1) (fun _ _ => rfl)) pe_int) pa_nil))) (pg_sub (kFld K (pv 0) rfl) (pv 1) set_list))))), ?_⟩
    have h1 := fr.ins
    have h2 := fr.r
    have n4 : e < s'.rt.length := by rw [fr.ok.rt4]; omega
    obtain ⟨dd, hdd, hdk⟩ := fr.rs.at (List.getElem?_eq_getElem n4)
    have eg : s'.rt.getD e [] = s'.rt[e] := by rw [List.getD_eq_getElem?_getD, List.getElem?_eq_getElem n4]; rfl
    have hdk : H dd = some (.dK (entR s'.rt[e])) := hdk
    walk_at "ro"
    refine ⟨_, _, _, _, rfl, rfl, SqL.of h2, atC e rfl (by rw [List.getElem?_map, hdd]; rfl), ?_⟩
    walk_at "ro"
    refine ⟨dd, _, .inl (g : Int), rfl, hdk, rfl, ?_, ?_⟩
    · rw [valR, ← eg]
      cases e5 : getR (s'.rt.getD e []) g with
      | none => exact absurd e5 hg
      | some b => rfl
    rw [drop_entR]
    have fr1 := fr.setR hdd (dropR s'.rt[e] g)
    have c1 : ChgP P' H (upd H dd (.dK (entR (dropR s'.rt[e] g)))) := ChgP.upd (fun _ _ _ h => h) (fr.mine dd (by unfold FA.own; exact List.mem_append_right _ (List.mem_append_right _ (List.mem_append_left _ (List.mem_of_getElem? hdd)))))
    generalize upd H dd (.dK (entR (dropR s'.rt[e] g))) = H1 at fr1 c1
    have h11 := fr1.ins
    have h21 := fr1.o
    have o4 : e < s'.of.length := by rw [fr.ok.of4]; omega
    have nz : (a.ids.zip s'.of)[e]? = some (a.ids[e]'(by rw [fr.il]; exact o4), s'.of[e]) := by
      rw [List.getElem?_zip_eq_some]
      exact ⟨List.getElem?_eq_getElem _, List.getElem?_eq_getElem _⟩
    obtain ⟨od, hod, hok, hoi⟩ := fr1.os.at nz
    have hok : H1 od = some (.dK (entO s'.of[e] (a.ids[e]'(by rw [fr.il]; exact o4)))) := hok
    have eo : s'.of.getD e [] = s'.of[e] := by rw [List.getD_eq_getElem?_getD, List.getElem?_eq_getElem o4]; rfl
    walk_at "ro"
    refine ⟨_, _, _, _, rfl, rfl, SqL.of h21, atC e rfl (by rw [List.getElem?_map, hod]; rfl), ?_⟩
    refine ⟨od, rfl, .inl ⟨_, .inl hok⟩, ?_⟩
    walk_at "ro"
    refine ⟨_, .inl (g : Int), hok, rfl, fun v hv => ?_, fun hv => ?_⟩
    · have hil : (a.ids[e]'(by rw [fr.il]; exact o4)).length = s'.of[e].length := hoi.1
      rw [drop_entO g hil]
      have sb := set_sub (ids := a.ids) (e := e) (is := dropI s'.of[e] (a.ids[e]'(by rw [fr.il]; exact o4)) g) fun o ho => by
        rw [List.getElem?_eq_getElem (by rw [fr.il]; exact o4)] at ho
        cases ho
        exact dropI_sub g _ _
      have os := own_sub (a := a) (x := x) sb
      have fr2 := fr1.setO hod (dropO s'.of[e] g) (dropI s'.of[e] (a.ids[e]'(by rw [fr.il]; exact o4)) g) (drop_each g hoi) (fr1.nd.sublist os) (fun b hb => fr1.mine b (os.subset hb))
      have c2 := c1.upd (o := .dK (entO (dropO s'.of[e] g) (dropI s'.of[e] (a.ids[e]'(by rw [fr.il]; exact o4)) g))) (fr.mine od (by unfold FA.own; exact List.mem_append_right _ (List.mem_append_right _ (List.mem_append_right _ (List.mem_append_left _ (List.mem_of_getElem? hod))))))
      generalize upd H1 od (.dK (entO (dropO s'.of[e] g) (dropI s'.of[e] (a.ids[e]'(by rw [fr.il]; exact o4)) g))) = H2 at fr2 c2
      have h12 := fr2.ins
      have h22 : H2 a.A = some (.lst (s'.ask.map vN)) := fr2.ha
      have al : e < s'.ask.length := by rw [fr.ok.ask4]; omega
      have hA : P' a.A := fr.mine a.A (by unfold FA.own; exact List.mem_append_left _ (by simp))
      walk_at "ro"
      refine ⟨_, _, _, _, rfl, rfl, SqL.of h22, atC e rfl (getVN' al), ?_⟩
      refine ⟨_, _, rfl, rfl, ?_⟩
      refine ⟨_, _, rfl, ?_⟩
      have em : (if ((s'.ask.getD e 0 : Nat) : Int) - 1 > 0 then ((s'.ask.getD e 0 : Nat) : Int) - 1 else 0) = ((s'.ask.getD e 0 - 1 : Nat) : Int) := by split <;> omega
      rw [em]
      walk_at "ro"
      refine ⟨_, _, _, e, rfl, rfl, h22, ixC e rfl (by rw [List.length_map]; exact al), ?_⟩
      have es : (s'.ask.map vN).set e (.int ((s'.ask.getD e 0 - 1 : Nat) : Int)) = (s'.ask.set e (s'.ask.getD e 0 - 1)).map vN := by rw [List.map_set]; rfl
      rw [es]
      have fr3 := fr2.setA (s'.ask.set e (s'.ask.getD e 0 - 1)) (by rw [List.length_set]; exact fr.ok.ask4)
      refine k { a with ids := a.ids.set e (dropI s'.of[e] (a.ids[e]'(by rw [fr.il]; exact o4)) g) } _ ?_ (c2.upd hA)
      unfold endS
      rw [eg, eo]
      exact fr3
    · have hn : getO s'.of[e] g = none := by
        rcases valO g hoi with ⟨i, rl, b1, _⟩ | ⟨_, b2⟩
        · have hv : valV (entO s'.of[e] (a.ids[e]'(by rw [fr.il]; exact o4))) (.inl (g : Int)) = none := hv
          rw [hv] at b1; cases b1
        · exact b2
      have fr2 : Fr C_Frames P' H1 x a { s' with rt := s'.rt.set e (dropR s'.rt[e] g), of := s'.of.set e (dropO s'.of[e] g) } := by
        rw [getO_none hn, List.set_getElem_self]
        exact fr1
      have c2 := c1
      generalize H1 = H2 at fr2 c2
      have h12 := fr2.ins
      have h22 : H2 a.A = some (.lst (s'.ask.map vN)) := fr2.ha
      have al : e < s'.ask.length := by rw [fr.ok.ask4]; omega
      have hA : P' a.A := fr.mine a.A (by unfold FA.own; exact List.mem_append_left _ (by simp))
      walk_at "ro"
      refine ⟨_, _, _, _, rfl, rfl, SqL.of h22, atC e rfl (getVN' al), ?_⟩
      refine ⟨_, _, rfl, rfl, ?_⟩
      refine ⟨_, _, rfl, ?_⟩
      have em : (if ((s'.ask.getD e 0 : Nat) : Int) - 1 > 0 then ((s'.ask.getD e 0 : Nat) : Int) - 1 else 0) = ((s'.ask.getD e 0 - 1 : Nat) : Int) := by split <;> omega
      rw [em]
      walk_at "ro"
      refine ⟨_, _, _, e, rfl, rfl, h22, ixC e rfl (by rw [List.length_map]; exact al), ?_⟩
      have es : (s'.ask.map vN).set e (.int ((s'.ask.getD e 0 - 1 : Nat) : Int)) = (s'.ask.set e (s'.ask.getD e 0 - 1)).map vN := by rw [List.map_set]; rfl
      rw [es]
      have fr3 := fr2.setA (s'.ask.set e (s'.ask.getD e 0 - 1)) (by rw [List.length_set]; exact fr.ok.ask4)
      refine k a _ ?_ (c2.upd hA)
      unfold endS
      rw [eg, eo]
      exact fr3
end
end My

namespace My
open PySem L2
local macro_rules | `(tactic| walk_at "ne") => `(tactic| first | assumption | exact Ne.symm (by assumption) | exact ne_of_none (by assumption) (by assumption) | exact Ne.symm (ne_of_none (by assumption) (by assumption)))
local macro_rules | `(tactic| walk_at "hp") => `(tactic| first | assumption | with_reducible exact upd_same | (with_reducible refine Eq.trans (upd_ne ?_) ?_; rotate_left; walk_at "hp"; walk_at "ne"))
local macro_rules | `(tactic| walk_at "cnd") => `(tactic| first | omega | (show (0 : Int) < _; omega) | exact ⟨by omega, by omega⟩ | exact Or.inl ⟨by omega, by omega⟩ | exact Or.inr ⟨by omega, by omega⟩ | exact ⟨by omega, by omega, by decide⟩ | exact ⟨by omega, by omega, by omega⟩)
local macro_rules | `(tactic| walk_at "at") => `(tactic| first | exact atC 0 rfl rfl | exact atC 1 rfl rfl | exact atC 2 rfl rfl | exact atC 3 rfl rfl | exact atC 4 rfl rfl | exact atC 5 rfl rfl | exact atC 6 rfl rfl | exact atC 7 rfl rfl)
local macro_rules | `(tactic| walk_at "ix") => `(tactic| first | exact ixC 0 rfl (Nat.le_of_ble_eq_true rfl) | exact ixC 1 rfl (Nat.le_of_ble_eq_true rfl) | exact ixC 2 rfl (Nat.le_of_ble_eq_true rfl) | exact ixC 3 rfl (Nat.le_of_ble_eq_true rfl) | exact ixC 4 rfl (Nat.le_of_ble_eq_true rfl) | exact ixC 5 rfl (Nat.le_of_ble_eq_true rfl))
local macro_rules | `(tactic| walk_at "st") => `(tactic| first
  | refine ⟨_, rfl, ?_⟩
  | refine ⟨_, _, rfl, rfl, (by walk_at "cnd" : (_ : Prop)), ?_⟩
  | refine ⟨_, _, rfl, rfl, ?_⟩
  | refine ⟨rfl, ?_⟩
  | refine Or.inl ⟨_, rfl, ?_⟩
  | refine ⟨_, _, _, _, rfl, rfl, by exact SqL.of (by walk_at "hp"), by walk_at "at", ?_⟩
  | refine ⟨_, _, _, _, rfl, rfl, by exact SqT.of (by walk_at "hp"), by walk_at "at", ?_⟩
  | refine ⟨_, _, _, _, rfl, rfl, by walk_at "hp", by walk_at "ix", ?_⟩
  | refine ⟨_, _, rfl, Or.inl (by exact SqL.of (by walk_at "hp")), ?_⟩
  | refine ⟨_, _, rfl, Or.inr (by exact SqT.of (by walk_at "hp")), ?_⟩)
local macro_rules | `(tactic| walk_at "so") => `(tactic| first
  | refine ⟨_, _, _, _, _, rfl, by walk_at "hp", by assumption, by assumption, rfl, ?_⟩
  | refine ⟨_, _, _, _, rfl, by walk_at "hp", by assumption, by assumption, Nat.le_of_ble_eq_true rfl, ?_⟩
  | refine ⟨_, _, _, rfl, by walk_at "hp", rfl, ?_⟩
  | walk_at "st")
local macro_rules | `(tactic| walk_at "ro") => `(tactic| repeat walk_at "so")
local macro_rules | `(tactic| walk_at "run") => `(tactic| repeat walk_at "st")

theorem isE_nat {e : Nat} (h : e < 4) : isE (.int (e : Int)) = true := by
  show (decide ((0 : Int) ≤ (e : Int)) && decide ((e : Int) ≤ 3)) = true
  rw [decide_eq_true (by omega), decide_eq_true (by omega)]; rfl
theorem isF_nat {s : FS} {f : Nat} (h : f < s.m) : isF s (.int (f : Int)) = true := by
  show (decide ((0 : Int) ≤ (f : Int)) && decide ((f : Int) ≤ (s.m : Int) - 1)) = true
  rw [decide_eq_true (by omega), decide_eq_true (by omega)]; rfl
theorem right_nat {s : FS} {e f : Nat} (he : e < 4) (hf : f < s.m) : rightOf s (.int (e : Int)) (.int (f : Int)) = getR (s.rt.getD e []) f := by
  unfold rightOf
  rw [if_pos ⟨isE_nat he, isF_nat hf⟩]; rfl
def spDrop (C : Addr) : Sp := fun vs H Q _ => ∃ P x a s, ∃ e f : Nat, vs = [.ref x, .int (e : Int), .int (f : Int)] ∧ Fr C P H x a s ∧ e < 4 ∧ f < s.m ∧ (getR (s.rt.getD e []) f = none → Q (.bl false) H) ∧ (getR (s.rt.getD e []) f ≠ none → ∀ a' H', Fr C P H' x a' (endS s e f) → ChgP P H H' → Q (.bl true) H')
section
variable {P : Program} {w : World} {K : PySem.W.Frag} {mg : Str → Option Value} {base : Heap} {C_Frames C_Pages C_NotValid : Addr}
abbrev s_Frames_drop : Stmt := inClass (topS 19) 4
abbrev ns_Frames_drop : List Str := ["self", "environment", "frame"]
theorem sc_Frames_drop : FnScope ns_Frames_drop ["self", "environment", "frame"] (defScope s_Frames_drop) := ⟨rfl, rfl, rfl, by decide +kernel, rfl, by decide +kernel, by decide +kernel⟩

theorem ok_Frames_drop {f : Addr} {fd : FuncData} (F : Fun K "drop" "Frames.drop" s_Frames_drop f fd) (T : Txt K mg C_Frames C_Pages C_NotValid) (D_Frames_right : Mth P w K mg base CX0 5 C_Frames "right" ["self", "environment", "frame"] (spRight C_Frames)) (D_Frames_end : Mth P w K mg base CX0 1 C_Frames "_end" ["self", "environment", "frame"] (spEnd C_Frames)) : FnOk P w K mg base CX0 6 f fd ["self", "environment", "frame"] (spDrop C_Frames) := by
  have ho_Frames := T.o_Frames; have hn_Frames__words := T.n_Frames__words; have hn_Frames__shares := T.n_Frames__shares; have hn_Frames__rights := T.n_Frames__rights; have hn_Frames__offers := T.n_Frames__offers; have hn_Frames__asked := T.n_Frames__asked; have hn_Frames__ends_to_wait := T.n_Frames__ends_to_wait; have hn_Frames__taken := T.n_Frames__taken
  refine F.ok sc_Frames_drop (fun vs H Q E h => ?_) (fun cdv A outer s H vs Q E hr h => ?_)
  · obtain ⟨P', x, a, s', e, g, rfl, _⟩ := h
    rfl
  · obtain ⟨P', x, a, s', e, g, rfl, fr, e4, gm, kn, ks⟩ := h
    refine ⟨_, (pss_cons (ps_if (pt_cmpR op_isN (pe_dmeth (pv 0) D_Frames_right (hr.mono (by decide)) pass0 (pa_cons (pv 1) (pa_cons (pv 2) pa_nil))) pe_non (nomark _)) (pss_one (ps_ret pe_bl)) pss_nil)
  (pss_cons (ps_expr (pe_dmeth (pv 0) D_Frames_end (hr.mono (by decide)) pass0 (pa_cons (pv 1) (pa_cons (pv 2) pa_nil))))
  (pss_one (ps_ret pe_bl)))), ?_⟩
    have h1 := fr.ins
    walk_at "ro"
    refine ⟨P', x, a, s', _, _, _, _, rfl, fr, .int _, .int _, ?_⟩
    rw [right_nat e4 gm]
    cases e5 : getR (s'.rt.getD e []) g with
    | none =>
      walk_at "ro"
      exact kn e5
    | some b =>
      have ne : getR (s'.rt.getD e []) g ≠ none := by rw [e5]; intro z; cases z
      walk_at "ro"
      refine ⟨P', x, a, s', e, g, rfl, fr, e4, ne, fun a' H' fr' c => ?_⟩
      walk_at "ro"
      exact ks ne a' H' fr' c
end
end My

namespace My
open PySem L2
local macro_rules | `(tactic| walk_at "ne") => `(tactic| first | assumption | exact Ne.symm (by assumption) | exact ne_of_none (by assumption) (by assumption) | exact Ne.symm (ne_of_none (by assumption) (by assumption)))
local macro_rules | `(tactic| walk_at "hp") => `(tactic| first | assumption | with_reducible exact upd_same | (with_reducible refine Eq.trans (upd_ne ?_) ?_; rotate_left; walk_at "hp"; walk_at "ne"))
local macro_rules | `(tactic| walk_at "cnd") => `(tactic| first | omega | (show (0 : Int) < _; omega) | exact ⟨by omega, by omega⟩ | exact Or.inl ⟨by omega, by omega⟩ | exact Or.inr ⟨by omega, by omega⟩ | exact ⟨by omega, by omega, by decide⟩ | exact ⟨by omega, by omega, by omega⟩)
local macro_rules | `(tactic| walk_at "at") => `(tactic| first | exact atC 0 rfl rfl | exact atC 1 rfl rfl | exact atC 2 rfl rfl | exact atC 3 rfl rfl | exact atC 4 rfl rfl | exact atC 5 rfl rfl | exact atC 6 rfl rfl | exact atC 7 rfl rfl)
local macro_rules | `(tactic| walk_at "ix") => `(tactic| first | exact ixC 0 rfl (Nat.le_of_ble_eq_true rfl) | exact ixC 1 rfl (Nat.le_of_ble_eq_true rfl) | exact ixC 2 rfl (Nat.le_of_ble_eq_true rfl) | exact ixC 3 rfl (Nat.le_of_ble_eq_true rfl) | exact ixC 4 rfl (Nat.le_of_ble_eq_true rfl) | exact ixC 5 rfl (Nat.le_of_ble_eq_true rfl))
local macro_rules | `(tactic| walk_at "st") => `(tactic| first
  | refine ⟨_, rfl, ?_⟩
  | refine ⟨_, _, rfl, rfl, (by walk_at "cnd" : (_ : Prop)), ?_⟩
  | refine ⟨_, _, rfl, rfl, ?_⟩
  | refine ⟨rfl, ?_⟩
  | refine Or.inl ⟨_, rfl, ?_⟩
  | refine ⟨_, _, _, _, rfl, rfl, by exact SqL.of (by walk_at "hp"), by walk_at "at", ?_⟩
  | refine ⟨_, _, _, _, rfl, rfl, by exact SqT.of (by walk_at "hp"), by walk_at "at", ?_⟩
  | refine ⟨_, _, _, _, rfl, rfl, by walk_at "hp", by walk_at "ix", ?_⟩
  | refine ⟨_, _, rfl, Or.inl (by exact SqL.of (by walk_at "hp")), ?_⟩
  | refine ⟨_, _, rfl, Or.inr (by exact SqT.of (by walk_at "hp")), ?_⟩)
local macro_rules | `(tactic| walk_at "so") => `(tactic| first
  | refine ⟨_, _, _, _, _, rfl, by walk_at "hp", by assumption, by assumption, rfl, ?_⟩
  | refine ⟨_, _, _, _, rfl, by walk_at "hp", by assumption, by assumption, Nat.le_of_ble_eq_true rfl, ?_⟩
  | refine ⟨_, _, _, rfl, by walk_at "hp", rfl, ?_⟩
  | walk_at "st")
local macro_rules | `(tactic| walk_at "ro") => `(tactic| repeat walk_at "so")
local macro_rules | `(tactic| walk_at "run") => `(tactic| repeat walk_at "st")

/-- the right of a frame becomes "r" -/
def thinR (l : RL) (f : Nat) : RL := l.map fun p => if p.1 = f then (p.1, false) else p
theorem thin_ent {l : RL} {f : Nat} (h : getR l f ≠ none) : putK (entR l) (.inl (f : Int)) (.str "r") = entR (thinR l f) := by
  have e : (entR l).any (fun kv => decide (kv.1 = .inl (f : Int))) = true := by
    rw [valV_any, valR]
    cases e5 : getR l f with
    | none => exact absurd e5 h
    | some b => rfl
  unfold putK
  rw [if_pos e]
  unfold entR thinR
  rw [List.map_map, List.map_map]
  congr 1
  funext p
  show (if (Sum.inl (p.1 : Int) : Key) = .inl (f : Int) then ((Sum.inl (p.1 : Int) : Key), V.str "r") else ((Sum.inl (p.1 : Int) : Key), rV p.2)) = _
  by_cases q : p.1 = f
  · rw [if_pos (keyI.mpr q)]
    show _ = ((Sum.inl (((if p.1 = f then (p.1, false) else p) : Nat × Bool).1 : Int) : Key), rV ((if p.1 = f then (p.1, false) else p) : Nat × Bool).2)
    rw [if_pos q]; rfl
  · rw [if_neg (fun z => q (keyI.mp z))]
    show _ = ((Sum.inl (((if p.1 = f then (p.1, false) else p) : Nat × Bool).1 : Int) : Key), rV ((if p.1 = f then (p.1, false) else p) : Nat × Bool).2)
    rw [if_neg q]
def thinS (s : FS) (e f : Nat) : FS := { s with rt := s.rt.set e (thinR (s.rt.getD e []) f) }
def spNarrow (C : Addr) : Sp := fun vs H Q _ => ∃ P x a s, ∃ e f : Nat, vs = [.ref x, .int (e : Int), .int (f : Int)] ∧ Fr C P H x a s ∧ e < 4 ∧ f < s.m ∧ (∀ (j : Nat) (h : j < s.rt.length), s.rt[j].length < 100000) ∧ (getR (s.rt.getD e []) f ≠ some true → Q (.bl false) H) ∧ (getR (s.rt.getD e []) f = some true → ∀ H', Fr C P H' x a (thinS s e f) → ChgP P H H' → Q (.bl true) H')
section
variable {P : Program} {w : World} {K : PySem.W.Frag} {mg : Str → Option Value} {base : Heap} {C_Frames C_Pages C_NotValid : Addr}
abbrev s_Frames_narrow : Stmt := inClass (topS 19) 5
abbrev ns_Frames_narrow : List Str := ["self", "environment", "frame"]
theorem sc_Frames_narrow : FnScope ns_Frames_narrow ["self", "environment", "frame"] (defScope s_Frames_narrow) := ⟨rfl, rfl, rfl, by decide +kernel, rfl, by decide +kernel, by decide +kernel⟩

theorem ok_Frames_narrow {f : Addr} {fd : FuncData} (F : Fun K "narrow" "Frames.narrow" s_Frames_narrow f fd) (T : Txt K mg C_Frames C_Pages C_NotValid) (D_Frames_right : Mth P w K mg base CX0 5 C_Frames "right" ["self", "environment", "frame"] (spRight C_Frames)) : FnOk P w K mg base CX0 6 f fd ["self", "environment", "frame"] (spNarrow C_Frames) := by
  have ho_Frames := T.o_Frames; have hn_Frames__words := T.n_Frames__words; have hn_Frames__shares := T.n_Frames__shares; have hn_Frames__rights := T.n_Frames__rights; have hn_Frames__offers := T.n_Frames__offers; have hn_Frames__asked := T.n_Frames__asked; have hn_Frames__ends_to_wait := T.n_Frames__ends_to_wait; have hn_Frames__taken := T.n_Frames__taken
  refine F.ok sc_Frames_narrow (fun vs H Q E h => ?_) (fun cdv A outer s H vs Q E hr h => ?_)
  · obtain ⟨P', x, a, s', e, g, rfl, _⟩ := h
    rfl
  · obtain ⟨P', x, a, s', e, g, rfl, fr, e4, gm, hsz, kn, ks⟩ := h
    refine ⟨_, (pss_cons (ps_if (pt_cmpR op_ne (pe_dmeth (pv 0) D_Frames_right (hr.mono (by decide)) pass0 (pa_cons (pv 1) (pa_cons (pv 2) pa_nil))) pe_str (nomark _)) (pss_one (ps_ret pe_bl)) pss_nil)
  (pss_cons (ps_dput (units1 hr) (pe_ix (kIxL K) (kFld K (pv 0) rfl) (pv 1) (fun _ _ => rfl)) (pv 2) pe_str rfl)
  (pss_one (ps_ret pe_bl)))), ?_⟩
    have h1 := fr.ins
    have h2 := fr.r
    walk_at "ro"
    refine ⟨P', x, a, s', _, _, _, _, rfl, fr, .int _, .int _, ?_⟩
    rw [right_nat e4 gm]
    cases e5 : getR (s'.rt.getD e []) g with
    | none =>
      walk_at "ro"
      exact kn (by rw [e5]; intro z; cases z)
    | some b =>
      cases b with
      | false =>
        walk_at "ro"
        exact kn (by rw [e5]; intro z; cases z)
      | true =>
        have ne : getR (s'.rt.getD e []) g ≠ none := by rw [e5]; intro z; cases z
        have n4 : e < s'.rt.length := by rw [fr.ok.rt4]; omega
        obtain ⟨dd, hdd, hdk⟩ := fr.rs.at (List.getElem?_eq_getElem n4)
        have eg : s'.rt.getD e [] = s'.rt[e] := by rw [List.getD_eq_getElem?_getD, List.getElem?_eq_getElem n4]; rfl
        rw [eg] at ne
        have hdk : H dd = some (.dK (entR s'.rt[e])) := hdk
        have lt : (entR s'.rt[e]).length < sizeLine := by
          unfold entR
          rw [List.length_map]
          exact szt (hsz e n4)
        walk_at "ro"
        refine ⟨_, _, _, _, rfl, rfl, SqL.of h2, atC e rfl (by rw [List.getElem?_map, hdd]; rfl), ?_⟩
        have rl : (entR s'.rt[e]).length < sizeLine := lt
        walk_at "ro"
        refine ⟨dd, _, rfl, DPut.k (k := .inl (g : Int)) hdk rl, ?_⟩
        rw [thin_ent ne]
        have fr1 := fr.setR hdd (thinR s'.rt[e] g)
        have c1 : ChgP P' H (upd H dd (.dK (entR (thinR s'.rt[e] g)))) := ChgP.upd (fun _ _ _ h => h) (fr.mine dd (by unfold FA.own; exact List.mem_append_right _ (List.mem_append_right _ (List.mem_append_left _ (List.mem_of_getElem? hdd)))))
        walk_at "ro"
        refine ks e5 _ ?_ c1
        unfold thinS
        rw [eg]
        exact fr1
end
end My

namespace My
open PySem L2
local macro_rules | `(tactic| walk_at "ne") => `(tactic| first | assumption | exact Ne.symm (by assumption) | exact ne_of_none (by assumption) (by assumption) | exact Ne.symm (ne_of_none (by assumption) (by assumption)))
local macro_rules | `(tactic| walk_at "hp") => `(tactic| first | assumption | with_reducible exact upd_same | (with_reducible refine Eq.trans (upd_ne ?_) ?_; rotate_left; walk_at "hp"; walk_at "ne"))
local macro_rules | `(tactic| walk_at "cnd") => `(tactic| first | omega | (show (0 : Int) < _; omega) | exact ⟨by omega, by omega⟩ | exact Or.inl ⟨by omega, by omega⟩ | exact Or.inr ⟨by omega, by omega⟩ | exact ⟨by omega, by omega, by decide⟩ | exact ⟨by omega, by omega, by omega⟩)
local macro_rules | `(tactic| walk_at "at") => `(tactic| first | exact atC 0 rfl rfl | exact atC 1 rfl rfl | exact atC 2 rfl rfl | exact atC 3 rfl rfl | exact atC 4 rfl rfl | exact atC 5 rfl rfl | exact atC 6 rfl rfl | exact atC 7 rfl rfl)
local macro_rules | `(tactic| walk_at "ix") => `(tactic| first | exact ixC 0 rfl (Nat.le_of_ble_eq_true rfl) | exact ixC 1 rfl (Nat.le_of_ble_eq_true rfl) | exact ixC 2 rfl (Nat.le_of_ble_eq_true rfl) | exact ixC 3 rfl (Nat.le_of_ble_eq_true rfl) | exact ixC 4 rfl (Nat.le_of_ble_eq_true rfl) | exact ixC 5 rfl (Nat.le_of_ble_eq_true rfl))
local macro_rules | `(tactic| walk_at "st") => `(tactic| first
  | refine ⟨_, rfl, ?_⟩
  | refine ⟨_, _, rfl, rfl, (by walk_at "cnd" : (_ : Prop)), ?_⟩
  | refine ⟨_, _, rfl, rfl, ?_⟩
  | refine ⟨rfl, ?_⟩
  | refine Or.inl ⟨_, rfl, ?_⟩
  | refine ⟨_, _, _, _, rfl, rfl, by exact SqL.of (by walk_at "hp"), by walk_at "at", ?_⟩
  | refine ⟨_, _, _, _, rfl, rfl, by exact SqT.of (by walk_at "hp"), by walk_at "at", ?_⟩
  | refine ⟨_, _, _, _, rfl, rfl, by walk_at "hp", by walk_at "ix", ?_⟩
  | refine ⟨_, _, rfl, Or.inl (by exact SqL.of (by walk_at "hp")), ?_⟩
  | refine ⟨_, _, rfl, Or.inr (by exact SqT.of (by walk_at "hp")), ?_⟩)
local macro_rules | `(tactic| walk_at "so") => `(tactic| first
  | refine ⟨_, _, _, _, _, rfl, by walk_at "hp", by assumption, by assumption, rfl, ?_⟩
  | refine ⟨_, _, _, _, rfl, by walk_at "hp", by assumption, by assumption, Nat.le_of_ble_eq_true rfl, ?_⟩
  | refine ⟨_, _, _, rfl, by walk_at "hp", rfl, ?_⟩
  | walk_at "st")
local macro_rules | `(tactic| walk_at "ro") => `(tactic| repeat walk_at "so")
local macro_rules | `(tactic| walk_at "run") => `(tactic| repeat walk_at "st")

/-! ### what is theirs: places apart -/
theorem nodup_set : ∀ {l : List Addr} {i : Nat} {p : Addr}, l.Nodup → p ∉ l → (l.set i p).Nodup
  | [], _, _, h, _ => h
  | a :: l, 0, p, h, n => by
    rw [List.set_cons_zero]
    exact List.nodup_cons.mpr ⟨fun q => n (List.mem_cons_of_mem _ q), (List.nodup_cons.mp h).2⟩
  | a :: l, i + 1, p, h, n => by
    rw [List.set_cons_succ]
    have h' := List.nodup_cons.mp h
    refine List.nodup_cons.mpr ⟨fun q => ?_, nodup_set h'.2 fun q => n (List.mem_cons_of_mem _ q)⟩
    rcases List.mem_or_eq_of_mem_set q with q | q
    · exact h'.1 q
    · exact n (by rw [← q]; exact List.mem_cons_self)
theorem set_pre {α : Type} (hd t : List α) {n f : Nat} {p : α} (e : hd.length = n) : (hd ++ t).set (n + f) p = hd ++ t.set f p := by
  rw [List.set_append, if_neg (by omega), show n + f - hd.length = f by omega]
theorem set_in {α : Type} (w t : List α) {f : Nat} {p : α} (h : f < w.length) : (w ++ t).set f p = w.set f p ++ t := by
  rw [List.set_append, if_pos h]
theorem own_set {a : FA} {x p : Addr} {f : Nat} (hf : f < a.wds.length) : ({ a with wds := a.wds.set f p } : FA).own x = (a.own x).set (8 + f) p := by
  show [x, a.W, a.S, a.R, a.O, a.A, a.E, a.T] ++ (a.wds.set f p ++ (a.rds ++ (a.ods ++ (a.tks ++ a.ids.flatten)))) = ([x, a.W, a.S, a.R, a.O, a.A, a.E, a.T] ++ (a.wds ++ (a.rds ++ (a.ods ++ (a.tks ++ a.ids.flatten))))).set (8 + f) p
  rw [set_pre (n := 8) _ _ rfl, set_in _ _ hf]
theorem set_perm : ∀ {ids : List (List Addr)} {e : Nat} {is : List Addr} {p : Addr}, ids[e]? = some is → (ids.set e (is ++ [p])).flatten.Perm (p :: ids.flatten)
  | [], e, _, _, h => by simp at h
  | o :: ids, 0, is, p, h => by
    have h : o = is := Option.some.inj h
    subst h
    show ((o ++ [p]) ++ ids.flatten).Perm (p :: (o ++ ids.flatten))
    rw [List.append_assoc]
    exact List.perm_middle
  | o :: ids, e + 1, is, p, h => by
    show (o ++ (ids.set e (is ++ [p])).flatten).Perm (p :: (o ++ ids.flatten))
    exact ((set_perm (by simpa using h)).append_left o).trans List.perm_middle
theorem own_add {a : FA} {x p : Addr} {e : Nat} {is : List Addr} (h : a.ids[e]? = some is) : (({ a with ids := a.ids.set e (is ++ [p]) } : FA).own x).Perm (p :: a.own x) := by
  unfold FA.own
  have h1 := set_perm (p := p) h
  refine ((((((h1.append_left a.tks).trans List.perm_middle).append_left a.ods).trans List.perm_middle).append_left a.rds).trans List.perm_middle |>.append_left a.wds |>.trans List.perm_middle |>.append_left _).trans List.perm_middle
theorem flat_one : ∀ {ids : List (List Addr)} {e k : Nat} {is js : List Addr} {i : Addr}, ids.flatten.Nodup → ids[e]? = some is → ids[k]? = some js → i ∈ is → i ∈ js → e = k
  | [], e, _, _, _, _, _, h, _, _, _ => by simp at h
  | o :: ids, 0, 0, _, _, _, _, _, _, _, _ => rfl
  | o :: ids, 0, k + 1, is, js, i, nd, h1, h2, m1, m2 => by
    have h1 : o = is := Option.some.inj h1
    subst h1
    exact absurd rfl ((List.nodup_append.mp (show (o ++ ids.flatten).Nodup from nd)).2.2 i m1 i (List.mem_flatten.mpr ⟨js, List.mem_of_getElem? (by simpa using h2), m2⟩))
  | o :: ids, e + 1, 0, is, js, i, nd, h1, h2, m1, m2 => by
    have h2 : o = js := Option.some.inj h2
    subst h2
    exact absurd rfl ((List.nodup_append.mp (show (o ++ ids.flatten).Nodup from nd)).2.2 i m2 i (List.mem_flatten.mpr ⟨is, List.mem_of_getElem? (by simpa using h1), m1⟩))
  | o :: ids, e + 1, k + 1, is, js, i, nd, h1, h2, m1, m2 => by
    exact congrArg (· + 1) (flat_one (List.nodup_append.mp (show (o ++ ids.flatten).Nodup from nd)).2.1 (by simpa using h1) (by simpa using h2) m1 m2)
def heads (a : FA) (x : Addr) : List Addr := [x, a.W, a.S, a.R, a.O, a.A, a.E, a.T]
theorem own_w {a : FA} {x p : Addr} (nd : (a.own x).Nodup) (hm : p ∈ a.wds) : (∀ b, b ∈ heads a x → b ≠ p) ∧ p ∉ a.rds ∧ p ∉ a.ods ∧ p ∉ a.tks ∧ p ∉ a.ids.flatten := by
  unfold FA.own at nd
  obtain ⟨h0, h1, n0⟩ := List.nodup_append.mp nd
  obtain ⟨h2, h3, n2⟩ := List.nodup_append.mp h1
  exact ⟨fun b hb => n0 b hb p (List.mem_append_left _ hm), fun q => n2 p hm p (List.mem_append_left _ q) rfl, fun q => n2 p hm p (List.mem_append_right _ (List.mem_append_left _ q)) rfl, fun q => n2 p hm p (List.mem_append_right _ (List.mem_append_right _ (List.mem_append_left _ q))) rfl, fun q => n2 p hm p (List.mem_append_right _ (List.mem_append_right _ (List.mem_append_right _ q))) rfl⟩
theorem own_t {a : FA} {x p : Addr} (nd : (a.own x).Nodup) (hm : p ∈ a.tks) : (∀ b, b ∈ heads a x → b ≠ p) ∧ p ∉ a.wds ∧ p ∉ a.rds ∧ p ∉ a.ods ∧ p ∉ a.ids.flatten := by
  unfold FA.own at nd
  obtain ⟨h0, h1, n0⟩ := List.nodup_append.mp nd
  obtain ⟨h2, h3, n2⟩ := List.nodup_append.mp h1
  obtain ⟨h4, h5, n4⟩ := List.nodup_append.mp h3
  obtain ⟨h6, h7, n6⟩ := List.nodup_append.mp h5
  obtain ⟨h8, h9, n8⟩ := List.nodup_append.mp h7
  exact ⟨fun b hb => n0 b hb p (List.mem_append_right _ (List.mem_append_right _ (List.mem_append_right _ (List.mem_append_left _ hm)))), fun q => n2 p q p (List.mem_append_right _ (List.mem_append_right _ (List.mem_append_left _ hm))) rfl, fun q => n4 p q p (List.mem_append_right _ (List.mem_append_left _ hm)) rfl, fun q => n6 p q p (List.mem_append_left _ hm) rfl, fun q => n8 p hm p q rfl⟩
theorem own_i {a : FA} {x p : Addr} (nd : (a.own x).Nodup) (hm : p ∈ a.ids.flatten) : (∀ b, b ∈ heads a x → b ≠ p) ∧ p ∉ a.wds ∧ p ∉ a.rds ∧ p ∉ a.ods ∧ p ∉ a.tks := by
  unfold FA.own at nd
  obtain ⟨h0, h1, n0⟩ := List.nodup_append.mp nd
  obtain ⟨h2, h3, n2⟩ := List.nodup_append.mp h1
  obtain ⟨h4, h5, n4⟩ := List.nodup_append.mp h3
  obtain ⟨h6, h7, n6⟩ := List.nodup_append.mp h5
  obtain ⟨h8, h9, n8⟩ := List.nodup_append.mp h7
  exact ⟨fun b hb => n0 b hb p (List.mem_append_right _ (List.mem_append_right _ (List.mem_append_right _ (List.mem_append_right _ hm)))), fun q => n2 p q p (List.mem_append_right _ (List.mem_append_right _ (List.mem_append_right _ hm))) rfl, fun q => n4 p q p (List.mem_append_right _ (List.mem_append_right _ hm)) rfl, fun q => n6 p q p (List.mem_append_right _ hm) rfl, fun q => n8 p q p hm rfl⟩
theorem os_upd {H : Hp} {p : Addr} {o : HO} {ods : List Addr} {ids : List (List Addr)} {of : List (List (Nat × RL))} (h : Each OfD H ods (ids.zip of)) (o1 : p ∉ ods) (i1 : p ∉ ids.flatten) : Each OfD (L2.upd H p o) ods (ids.zip of) := by
  refine ⟨h.1, fun j b q hb hq => OfD.upd (fun z => o1 (by rw [← z]; exact List.mem_of_getElem? hb)) (fun z => i1 ?_) (h.2 j b q hb hq)⟩
  obtain ⟨h8, _⟩ := List.getElem?_zip_eq_some.mp hq
  exact List.mem_flatten.mpr ⟨q.1, List.mem_of_getElem? h8, z⟩
/-- the words of a frame change in place -/
theorem Fr.setWi {C : Addr} {P : Addr → Prop} {H : Hp} {x : Addr} {a : FA} {s : FS} (h : Fr C P H x a s) {e : Nat} {d : Addr} (hd : a.wds[e]? = some d) (l : List Nat) : Fr C P (L2.upd H d (.lst (l.map vN))) x a { s with wd := s.wd.set e l } := by
  obtain ⟨m1, r1, o1, t1, i1⟩ := own_w h.nd (List.mem_of_getElem? hd)
  have k := h.ok
  refine ⟨⟨k.sh4, k.ask4, k.wt4, k.rt4, k.of4, k.tk4, by rw [List.length_set]; exact k.wdm, k.m64⟩, h.nd, h.mine, ?_, ?_, h.ws.put (own_parts h.nd).2.1 hd (fun _ _ m r => NsL.upd m r) upd_same, NsL.upd (m1 _ (by simp [heads])) h.hs, ?_, h.rs.upd r1 fun _ _ m r => RtD.upd m r, ?_, h.il, os_upd h.os o1 i1, NsL.upd (m1 _ (by simp [heads])) h.ha, NsL.upd (m1 _ (by simp [heads])) h.he, ?_, h.ts.upd t1 fun _ _ m r => NsL.upd m r⟩
  · rw [upd_ne (m1 _ (by simp [heads]))]; exact h.ins
  · rw [upd_ne (m1 _ (by simp [heads]))]; exact h.w
  · rw [upd_ne (m1 _ (by simp [heads]))]; exact h.r
  · rw [upd_ne (m1 _ (by simp [heads]))]; exact h.o
  · rw [upd_ne (m1 _ (by simp [heads]))]; exact h.t
/-- what was taken changes -/
theorem Fr.setT {C : Addr} {P : Addr → Prop} {H : Hp} {x : Addr} {a : FA} {s : FS} (h : Fr C P H x a s) {e : Nat} {d : Addr} (hd : a.tks[e]? = some d) (l : List Nat) : Fr C P (L2.upd H d (.lst (l.map vN))) x a { s with tk := s.tk.set e l } := by
  obtain ⟨m1, w1, r1, o1, i1⟩ := own_t h.nd (List.mem_of_getElem? hd)
  have k := h.ok
  refine ⟨⟨k.sh4, k.ask4, k.wt4, k.rt4, k.of4, by rw [List.length_set]; exact k.tk4, k.wdm, k.m64⟩, h.nd, h.mine, ?_, ?_, h.ws.upd w1 fun _ _ m r => NsL.upd m r, NsL.upd (m1 _ (by simp [heads])) h.hs, ?_, h.rs.upd r1 fun _ _ m r => RtD.upd m r, ?_, h.il, os_upd h.os o1 i1, NsL.upd (m1 _ (by simp [heads])) h.ha, NsL.upd (m1 _ (by simp [heads])) h.he, ?_, h.ts.put (own_parts h.nd).2.2.2.2.1 hd (fun _ _ m r => NsL.upd m r) upd_same⟩
  · rw [upd_ne (m1 _ (by simp [heads]))]; exact h.ins
  · rw [upd_ne (m1 _ (by simp [heads]))]; exact h.w
  · rw [upd_ne (m1 _ (by simp [heads]))]; exact h.r
  · rw [upd_ne (m1 _ (by simp [heads]))]; exact h.o
  · rw [upd_ne (m1 _ (by simp [heads]))]; exact h.t
/-- the keys stay: an inner dict changes in place -/
theorem entO_set {f : Nat} {rl rl' : RL} : ∀ {l : List (Nat × RL)} {is : List Addr} {j : Nat}, l[j]? = some (f, rl) → entO (l.set j (f, rl')) is = entO l is
  | [], _, j, h => by simp at h
  | p :: l, [], j, h => by unfold entO; simp
  | p :: l, i :: is, 0, h => by
    have h : p = (f, rl) := Option.some.inj h
    subst h; rfl
  | p :: l, i :: is, j + 1, h => by
    show ((.inl (p.1 : Int), .ref i) : Key × V) :: entO (l.set j (f, rl')) is = (.inl (p.1 : Int), .ref i) :: entO l is
    rw [entO_set (by simpa using h)]
theorem flat_nd : ∀ {ids : List (List Addr)} {e : Nat} {is : List Addr}, ids.flatten.Nodup → ids[e]? = some is → is.Nodup
  | [], e, _, _, h => by simp at h
  | o :: ids, 0, is, nd, h => by
    have h : o = is := Option.some.inj h
    subst h
    exact (List.nodup_append.mp (show (o ++ ids.flatten).Nodup from nd)).1
  | o :: ids, e + 1, is, nd, h => flat_nd (List.nodup_append.mp (show (o ++ ids.flatten).Nodup from nd)).2.1 (by simpa using h)
theorem Fr.setI {C : Addr} {P : Addr → Prop} {H : Hp} {x : Addr} {a : FA} {s : FS} (h : Fr C P H x a s) {e j f : Nat} {is : List Addr} {l : List (Nat × RL)} {i : Addr} {rl : RL} (hi : a.ids[e]? = some is) (hl : s.of[e]? = some l) (hj : is[j]? = some i) (hf : l[j]? = some (f, rl)) (rl' : RL) : Fr C P (L2.upd H i (.dK (entR rl'))) x a { s with of := s.of.set e (l.set j (f, rl')) } := by
  have him : i ∈ is := List.mem_of_getElem? hj
  have hm : i ∈ a.ids.flatten := List.mem_flatten.mpr ⟨is, List.mem_of_getElem? hi, him⟩
  obtain ⟨m1, w1, r1, o1, t1⟩ := own_i h.nd hm
  have nf := (own_parts h.nd).2.2.2.2.2
  have k := h.ok
  have ei : a.ids.set e is = a.ids := by
    obtain ⟨h1, h2⟩ := List.getElem?_eq_some_iff.mp hi
    rw [← h2]
    exact List.set_getElem_self h1
  have ez : a.ids.zip (s.of.set e (l.set j (f, rl'))) = (a.ids.zip s.of).set e (is, l.set j (f, rl')) := by
    rw [← zip_set, ei]
  have hz : (a.ids.zip s.of)[e]? = some (is, l) := List.getElem?_zip_eq_some.mpr ⟨hi, hl⟩
  refine ⟨⟨k.sh4, k.ask4, k.wt4, k.rt4, by rw [List.length_set]; exact k.of4, k.tk4, k.wdm, k.m64⟩, h.nd, h.mine, ?_, ?_, h.ws.upd w1 fun _ _ m r => NsL.upd m r, NsL.upd (m1 _ (by simp [heads])) h.hs, ?_, h.rs.upd r1 fun _ _ m r => RtD.upd m r, ?_, by rw [List.length_set]; exact h.il, ?_, NsL.upd (m1 _ (by simp [heads])) h.ha, NsL.upd (m1 _ (by simp [heads])) h.he, ?_, h.ts.upd t1 fun _ _ m r => NsL.upd m r⟩
  · rw [upd_ne (m1 _ (by simp [heads]))]; exact h.ins
  · rw [upd_ne (m1 _ (by simp [heads]))]; exact h.w
  · rw [upd_ne (m1 _ (by simp [heads]))]; exact h.r
  · rw [upd_ne (m1 _ (by simp [heads]))]; exact h.o
  · show Each OfD _ a.ods (a.ids.zip (s.of.set e (l.set j (f, rl'))))
    rw [ez]
    refine ⟨by rw [List.length_set]; exact h.os.1, fun k b q hb hq => ?_⟩
    have bi : b ≠ i := fun z => o1 (by rw [← z]; exact List.mem_of_getElem? hb)
    by_cases z : e = k
    · subst z
      rw [List.getElem?_set_self (List.getElem?_eq_some_iff.mp hz).1] at hq
      cases hq
      obtain ⟨g1, g2⟩ := h.os.2 e b _ hb hz
      refine ⟨?_, g2.put (flat_nd nf hi) hj (fun _ _ m r => RtD.upd m r) upd_same⟩
      rw [upd_ne bi]
      show H b = some (.dK (entO (l.set j (f, rl')) is))
      rw [entO_set hf]
      exact g1
    · rw [List.getElem?_set_ne z] at hq
      obtain ⟨h8, _⟩ := List.getElem?_zip_eq_some.mp hq
      exact OfD.upd bi (fun y => z (flat_one nf hi h8 him y)) (h.os.2 k b q hb hq)
  · rw [upd_ne (m1 _ (by simp [heads]))]; exact h.t
theorem Fr.mono {C : Addr} {P P' : Addr → Prop} {H : Hp} {x : Addr} {a : FA} {s : FS} (h : Fr C P H x a s) (m : ∀ b ∈ a.own x, P' b) : Fr C P' H x a s := ⟨h.ok, h.nd, m, h.ins, h.w, h.ws, h.hs, h.r, h.rs, h.o, h.il, h.os, h.ha, h.he, h.t, h.ts⟩
/-- a frame gets another list of words -/
theorem Fr.setW {C : Addr} {P : Addr → Prop} {H : Hp} {x : Addr} {a : FA} {s : FS} (h : Fr C P H x a s) {f : Nat} (hf : f < a.wds.length) {p : Addr} {l : List Nat} (hp : NsL H p l) (np : p ∉ a.own x) (Pp : P p) : Fr C P (L2.upd H a.W (.lst ((a.wds.set f p).map V.ref))) x { a with wds := a.wds.set f p } { s with wd := s.wd.set f l } := by
  have nd := h.nd
  have nd' : (({ a with wds := a.wds.set f p } : FA).own x).Nodup := by rw [own_set hf]; exact nodup_set h.nd np
  have mine' : ∀ b ∈ ({ a with wds := a.wds.set f p } : FA).own x, P b := by
    intro b hb
    rw [own_set hf] at hb
    rcases List.mem_or_eq_of_mem_set hb with q | q
    · exact h.mine b q
    · rw [q]; exact Pp
  unfold FA.own at nd
  obtain ⟨h0, h1, n0⟩ := List.nodup_append.mp nd
  have z : a.W ∈ ([x, a.W, a.S, a.R, a.O, a.A, a.E, a.T] : List Addr) := by simp
  have out : ∀ b, b ∈ a.wds ++ (a.rds ++ (a.ods ++ (a.tks ++ a.ids.flatten))) → b ≠ a.W := fun b hb e => n0 _ z b hb e.symm
  have w1 : a.W ∉ a.wds := fun q => out _ (List.mem_append_left _ q) rfl
  have r1 : a.W ∉ a.rds := fun q => out _ (List.mem_append_right _ (List.mem_append_left _ q)) rfl
  have o1 : a.W ∉ a.ods := fun q => out _ (List.mem_append_right _ (List.mem_append_right _ (List.mem_append_left _ q))) rfl
  have t1 : a.W ∉ a.tks := fun q => out _ (List.mem_append_right _ (List.mem_append_right _ (List.mem_append_right _ (List.mem_append_left _ q)))) rfl
  have i1 : a.W ∉ a.ids.flatten := fun q => out _ (List.mem_append_right _ (List.mem_append_right _ (List.mem_append_right _ (List.mem_append_right _ q)))) rfl
  have pw : p ≠ a.W := fun e => np (by rw [e]; unfold FA.own; exact List.mem_append_left _ z)
  have k := h.ok
  simp only [List.nodup_cons, List.mem_cons, List.not_mem_nil, or_false, not_or] at h0
  obtain ⟨⟨x1, x2, x3, x4, x5, x6, x7⟩, ⟨y1, y2, y3, y4, y5, y6⟩, ⟨z1, z2, z3, z4, z5⟩, ⟨u1, u2, u3, u4⟩, ⟨v1, v2, v3⟩, ⟨q1, q2⟩, q3, _⟩ := h0
  refine ⟨⟨k.sh4, k.ask4, k.wt4, k.rt4, k.of4, k.tk4, by rw [List.length_set]; exact k.wdm, k.m64⟩, nd', mine', ?_, upd_same, ?_, ?_, ?_, h.rs.upd r1 fun _ _ m r => RtD.upd m r, ?_, h.il, os_upd h.os o1 i1, ?_, ?_, ?_, h.ts.upd t1 fun _ _ m r => NsL.upd m r⟩
  · rw [upd_ne (by assumption)]; exact h.ins
  · refine ⟨by rw [List.length_set, List.length_set]; exact h.ws.1, fun j d q hd hq => ?_⟩
    by_cases e : f = j
    · subst e
      rw [List.getElem?_set_self hf] at hd
      rw [List.getElem?_set_self (by rw [← h.ws.1]; exact hf)] at hq
      cases hd
      cases hq
      exact NsL.upd pw hp
    · rw [List.getElem?_set_ne e] at hd hq
      exact NsL.upd (fun y => w1 (by rw [← y]; exact List.mem_of_getElem? hd)) (h.ws.2 j d q hd hq)
  · exact NsL.upd (by first | assumption | exact Ne.symm (by assumption)) h.hs
  · rw [upd_ne (by first | assumption | exact Ne.symm (by assumption))]; exact h.r
  · rw [upd_ne (by first | assumption | exact Ne.symm (by assumption))]; exact h.o
  · exact NsL.upd (by first | assumption | exact Ne.symm (by assumption)) h.ha
  · exact NsL.upd (by first | assumption | exact Ne.symm (by assumption)) h.he
  · rw [upd_ne (by first | assumption | exact Ne.symm (by assumption))]; exact h.t
/-- all that is theirs stands in the heap -/
theorem Fr.al {C : Addr} {P : Addr → Prop} {H : Hp} {x : Addr} {a : FA} {s : FS} (h : Fr C P H x a s) : ∀ b ∈ a.own x, H b ≠ none := by
  have each : ∀ {α : Type} {rel : Hp → Addr → α → Prop} {ds : List Addr} {ls : List α}, Each rel H ds ls → (∀ d l, rel H d l → H d ≠ none) → ∀ b ∈ ds, H b ≠ none := by
    intro α rel ds ls e f b hb
    obtain ⟨j, hj, eb⟩ := List.mem_iff_getElem.mp hb
    exact f b _ (e.2 j b (ls[j]'(by rw [← e.1]; exact hj)) (by rw [List.getElem?_eq_getElem hj, eb]) (List.getElem?_eq_getElem _))
  have ns : ∀ d l, NsL H d l → H d ≠ none := fun d l r => by rw [show H d = _ from r]; exact fun z => by cases z
  have rt : ∀ d l, RtD H d l → H d ≠ none := fun d l r => by rw [show H d = _ from r]; exact fun z => by cases z
  intro b hb
  unfold FA.own at hb
  rcases List.mem_append.mp hb with hb | hb
  · simp only [List.mem_cons, List.not_mem_nil, or_false] at hb
    rcases hb with rfl | rfl | rfl | rfl | rfl | rfl | rfl | rfl
    · rw [h.ins]; exact fun z => by cases z
    · rw [h.w]; exact fun z => by cases z
    · exact ns _ _ h.hs
    · rw [h.r]; exact fun z => by cases z
    · rw [h.o]; exact fun z => by cases z
    · exact ns _ _ h.ha
    · exact ns _ _ h.he
    · rw [h.t]; exact fun z => by cases z
  rcases List.mem_append.mp hb with hb | hb
  · exact each h.ws ns b hb
  rcases List.mem_append.mp hb with hb | hb
  · exact each h.rs rt b hb
  rcases List.mem_append.mp hb with hb | hb
  · exact each h.os (fun d q r => by rw [r.1]; exact fun z => by cases z) b hb
  rcases List.mem_append.mp hb with hb | hb
  · exact each h.ts ns b hb
  obtain ⟨is, hi, hb⟩ := List.mem_flatten.mp hb
  obtain ⟨e, he, ei⟩ := List.mem_iff_getElem.mp hi
  have oe : e < s.of.length := by rw [← h.il]; exact he
  have hz : (a.ids.zip s.of)[e]? = some (is, s.of[e]) := List.getElem?_zip_eq_some.mpr ⟨by rw [List.getElem?_eq_getElem he, ei], List.getElem?_eq_getElem oe⟩
  obtain ⟨d, hd, q⟩ := h.os.at hz
  exact each q.2 (fun d p r => rt d p.2 r) b hb
/-- the offers, looked at -/
def offN (of : List (List (Nat × RL))) (e f o : Nat) : Option Bool := getR ((getO (of.getD e []) f).getD []) o
def OB (n : Nat) (of : List (List (Nat × RL))) : Prop := ∀ l ∈ of, l.length ≤ n ∧ ∀ p ∈ l, p.2.length ≤ n
theorem getD_set {α : Type} {l : List α} {e e' : Nat} {x d : α} (h : e < l.length) : (l.set e x).getD e' d = if e' = e then x else l.getD e' d := by
  rw [List.getD_eq_getElem?_getD]
  by_cases q : e' = e
  · subst q
    rw [List.getElem?_set_self h, if_pos rfl]; rfl
  · rw [List.getElem?_set_ne (fun z => q z.symm), if_neg q, List.getD_eq_getElem?_getD]
theorem offN_set {of : List (List (Nat × RL))} {e : Nat} {l : List (Nat × RL)} (h : e < of.length) (e' f o : Nat) : offN (of.set e l) e' f o = if e' = e then getR ((getO l f).getD []) o else offN of e' f o := by
  unfold offN
  rw [getD_set h]
  by_cases q : e' = e
  · rw [if_pos q, if_pos q]
  · rw [if_neg q, if_neg q]
theorem valO2 {H : Hp} (f : Nat) : ∀ {l : List (Nat × RL)} {is : List Addr}, Each (fun H i (p : Nat × RL) => RtD H i p.2) H is l → (∃ j i rl, valV (entO l is) (.inl (f : Int)) = some (.ref i) ∧ getO l f = some rl ∧ is[j]? = some i ∧ l[j]? = some (f, rl) ∧ RtD H i rl ∧ ∀ rl' g, getO (l.set j (f, rl')) g = if g = f then some rl' else getO l g) ∨ (valV (entO l is) (.inl (f : Int)) = none ∧ getO l f = none)
  | [], is, _ => .inr ⟨by unfold entO; rw [List.zip_nil_left]; rfl, rfl⟩
  | p :: l, [], h => by cases h.1
  | p :: l, i :: is, h => by
    have h' : Each (fun H i (p : Nat × RL) => RtD H i p.2) H is l := ⟨by simpa using h.1, fun j d q a b => h.2 (j + 1) d q (by simpa using a) (by simpa using b)⟩
    have h0 := h.2 0 i p rfl rfl
    have e0 : entO (p :: l) (i :: is) = (.inl (p.1 : Int), .ref i) :: entO l is := rfl
    rw [e0]
    by_cases e : p.1 = f
    · subst e
      refine .inl ⟨0, i, p.2, valV_pos (keyI.mpr rfl), by unfold getO; rw [List.find?_cons_of_pos (by simp)]; rfl, rfl, rfl, h0, fun rl' g => ?_⟩
      unfold getO
      rw [List.set_cons_zero]
      by_cases q : g = p.1
      · subst q
        rw [List.find?_cons_of_pos (by simp), if_pos rfl]; rfl
      · rw [List.find?_cons_of_neg (by simpa using fun z => q z.symm), if_neg q, List.find?_cons_of_neg (by simpa using fun z => q z.symm)]
    · rw [valV_neg (fun q => e (keyI.mp q))]
      have eg : ∀ l', getO (p :: l') f = getO l' f := fun l' => by unfold getO; rw [List.find?_cons_of_neg (by simp [e])]
      rw [eg]
      rcases valO2 f h' with ⟨j, i', rl, a, b, c, d, r, q⟩ | h
      · refine .inl ⟨j + 1, i', rl, a, b, by simpa using c, by simpa using d, r, fun rl' g => ?_⟩
        rw [List.set_cons_succ]
        have q := q rl' g
        unfold getO at q ⊢
        by_cases z : p.1 = g
        · rw [List.find?_cons_of_pos (by simp [z]), List.find?_cons_of_pos (by simp [z]), if_neg (fun y => e (z.trans y))]
        · rw [List.find?_cons_of_neg (by simp [z]), List.find?_cons_of_neg (by simp [z])]
          exact q
      · exact .inr h
/-- what a dict of rights says when one is put, or goes -/
def putR (l : RL) (f : Nat) (b : Bool) : RL := if (l.any fun p => decide (p.1 = f)) = true then l.map fun p => if p.1 = f then (p.1, b) else p else l ++ [(f, b)]
theorem put_ent (l : RL) (f : Nat) (b : Bool) : putK (entR l) (.inl (f : Int)) (rV b) = entR (putR l f b) := by
  have e : (entR l).any (fun kv => decide (kv.1 = .inl (f : Int))) = l.any fun p => decide (p.1 = f) := by
    unfold entR
    rw [List.any_map]
    congr 1
    funext p
    exact decide_eq_decide.mpr keyI
  unfold putK putR
  rw [e]
  by_cases q : (l.any fun p => decide (p.1 = f)) = true
  · rw [if_pos q, if_pos q]
    unfold entR
    rw [List.map_map, List.map_map]
    congr 1
    funext p
    show (if (Sum.inl (p.1 : Int) : Key) = .inl (f : Int) then ((Sum.inl (p.1 : Int) : Key), rV b) else ((Sum.inl (p.1 : Int) : Key), rV p.2)) = _
    by_cases q : p.1 = f
    · rw [if_pos (keyI.mpr q)]
      show _ = ((Sum.inl (((if p.1 = f then (p.1, b) else p) : Nat × Bool).1 : Int) : Key), rV ((if p.1 = f then (p.1, b) else p) : Nat × Bool).2)
      rw [if_pos q]
    · rw [if_neg (fun z => q (keyI.mp z))]
      show _ = ((Sum.inl (((if p.1 = f then (p.1, b) else p) : Nat × Bool).1 : Int) : Key), rV ((if p.1 = f then (p.1, b) else p) : Nat × Bool).2)
      rw [if_neg q]
  · rw [if_neg q, if_neg q]
    unfold entR
    rw [List.map_append]; rfl
theorem rV_inj {a b : Option Bool} (h : a.map rV = b.map rV) : a = b := by
  cases a with
  | none =>
    cases b with
    | none => rfl
    | some b => cases h
  | some a =>
    cases b with
    | none => cases h
    | some b =>
      cases a <;> cases b <;> first | rfl | (exfalso; revert h; decide)
theorem get_put (l : RL) (f : Nat) (b : Bool) (g : Nat) : getR (putR l f b) g = if g = f then some b else getR l g := by
  apply rV_inj
  rw [← valR, ← put_ent, valV_put]
  by_cases q : g = f
  · rw [if_pos (keyI.mpr q), if_pos q]; rfl
  · rw [if_neg (fun z => q (keyI.mp z)), if_neg q, valR]
theorem valV_drop (k j : Key) : ∀ kvs : List (Key × V), valV (dropK kvs k) j = if j = k then none else valV kvs j
  | [] => by
    by_cases q : j = k
    · rw [if_pos q]; rfl
    · rw [if_neg q]; rfl
  | p :: r => by
    rw [dropK_cons]
    have ih := valV_drop k j r
    by_cases e : p.1 = k
    · rw [if_pos e, ih]
      by_cases q : j = k
      · rw [if_pos q, if_pos q]
      · rw [if_neg q, if_neg q, valV_neg (fun z => q (z.symm.trans e))]
    · rw [if_neg e]
      by_cases y : p.1 = j
      · rw [valV_pos y, if_neg (fun z => e (y.trans z)), valV_pos y]
      · rw [valV_neg y, ih, valV_neg y]
theorem get_drop (l : RL) (f g : Nat) : getR (dropR l f) g = if g = f then none else getR l g := by
  apply rV_inj
  rw [← valR, ← drop_entR, valV_drop]
  by_cases q : g = f
  · rw [if_pos (keyI.mpr q), if_pos q]; rfl
  · rw [if_neg (fun z => q (keyI.mp z)), if_neg q, valR]
theorem getO_drop (f g : Nat) : ∀ l : List (Nat × RL), getO (dropO l f) g = if g = f then none else getO l g
  | [] => by
    by_cases q : g = f
    · rw [if_pos q]; rfl
    · rw [if_neg q]; rfl
  | p :: l => by
    have ih := getO_drop f g l
    unfold dropO getO at ih ⊢
    by_cases e : p.1 = f
    · rw [List.filter_cons_of_neg (by simp [e]), ih]
      by_cases q : g = f
      · rw [if_pos q, if_pos q]
      · rw [if_neg q, if_neg q, List.find?_cons_of_neg (by simpa using fun z => q (z.symm.trans e))]
    · rw [List.filter_cons_of_pos (by simp [e])]
      by_cases y : p.1 = g
      · rw [List.find?_cons_of_pos (by simp [y]), if_neg (fun z => e (y.trans z)), List.find?_cons_of_pos (by simp [y])]
      · rw [List.find?_cons_of_neg (by simp [y]), ih, List.find?_cons_of_neg (by simp [y])]
theorem putR_len (l : RL) (f : Nat) (b : Bool) : (putR l f b).length ≤ l.length + 1 := by
  unfold putR
  split
  · rw [List.length_map]; omega
  · rw [List.length_append]; exact Nat.le_refl _
theorem putR_new {l : RL} {f : Nat} (b : Bool) (h : getR l f = none) : putR l f b = l ++ [(f, b)] := by
  unfold putR
  rw [if_neg]
  intro q
  obtain ⟨p, hp, e⟩ := List.any_eq_true.mp q
  unfold getR at h
  cases y : l.find? (fun p => decide (p.1 = f)) with
  | none => exact absurd e (List.find?_eq_none.mp y p hp)
  | some z => rw [y] at h; cases h
end My

namespace My
open PySem L2
local macro_rules | `(tactic| walk_at "ne") => `(tactic| first | assumption | exact Ne.symm (by assumption) | exact ne_of_none (by assumption) (by assumption) | exact Ne.symm (ne_of_none (by assumption) (by assumption)))
local macro_rules | `(tactic| walk_at "hp") => `(tactic| first | assumption | with_reducible exact upd_same | (with_reducible refine Eq.trans (upd_ne ?_) ?_; rotate_left; walk_at "hp"; walk_at "ne"))
local macro_rules | `(tactic| walk_at "cnd") => `(tactic| first | omega | (show (0 : Int) < _; omega) | exact ⟨by omega, by omega⟩ | exact Or.inl ⟨by omega, by omega⟩ | exact Or.inr ⟨by omega, by omega⟩ | exact ⟨by omega, by omega, by decide⟩ | exact ⟨by omega, by omega, by omega⟩)
local macro_rules | `(tactic| walk_at "at") => `(tactic| first | exact atC 0 rfl rfl | exact atC 1 rfl rfl | exact atC 2 rfl rfl | exact atC 3 rfl rfl | exact atC 4 rfl rfl | exact atC 5 rfl rfl | exact atC 6 rfl rfl | exact atC 7 rfl rfl)
local macro_rules | `(tactic| walk_at "ix") => `(tactic| first | exact ixC 0 rfl (Nat.le_of_ble_eq_true rfl) | exact ixC 1 rfl (Nat.le_of_ble_eq_true rfl) | exact ixC 2 rfl (Nat.le_of_ble_eq_true rfl) | exact ixC 3 rfl (Nat.le_of_ble_eq_true rfl) | exact ixC 4 rfl (Nat.le_of_ble_eq_true rfl) | exact ixC 5 rfl (Nat.le_of_ble_eq_true rfl))
local macro_rules | `(tactic| walk_at "st") => `(tactic| first
  | refine ⟨_, rfl, ?_⟩
  | refine ⟨_, _, rfl, rfl, (by walk_at "cnd" : (_ : Prop)), ?_⟩
  | refine ⟨_, _, rfl, rfl, ?_⟩
  | refine ⟨rfl, ?_⟩
  | refine Or.inl ⟨_, rfl, ?_⟩
  | refine ⟨_, _, _, _, rfl, rfl, by exact SqL.of (by walk_at "hp"), by walk_at "at", ?_⟩
  | refine ⟨_, _, _, _, rfl, rfl, by exact SqT.of (by walk_at "hp"), by walk_at "at", ?_⟩
  | refine ⟨_, _, _, _, rfl, rfl, by walk_at "hp", by walk_at "ix", ?_⟩
  | refine ⟨_, _, rfl, Or.inl (by exact SqL.of (by walk_at "hp")), ?_⟩
  | refine ⟨_, _, rfl, Or.inr (by exact SqT.of (by walk_at "hp")), ?_⟩)
local macro_rules | `(tactic| walk_at "so") => `(tactic| first
  | refine ⟨_, _, _, _, _, rfl, by walk_at "hp", by assumption, by assumption, rfl, ?_⟩
  | refine ⟨_, _, _, _, rfl, by walk_at "hp", by assumption, by assumption, Nat.le_of_ble_eq_true rfl, ?_⟩
  | refine ⟨_, _, _, rfl, by walk_at "hp", rfl, ?_⟩
  | walk_at "st")
local macro_rules | `(tactic| walk_at "ro") => `(tactic| repeat walk_at "so")
local macro_rules | `(tactic| walk_at "run") => `(tactic| repeat walk_at "st")

section
variable {X : Cx} (K : PySem.W.Frag)
theorem kRevL {e : Expr} {te : TE} {k : Nat} {p1 p2 p3 pos : Pos} (he : PE X e te) (h : X.K = K := by rfl) : PE X (.Subscript e (.Slice none none (some (.UnaryOp .USub (.Constant (.int 1) k p1) p2)) p3) pos) (tRevL K te) := by subst h; exact pe_revL he
end
theorem cut_take {xs : List V} {k : Nat} (h : k ≤ xs.length) : cutV xs none (some (k : Int)) = xs.take k := by
  unfold cutV
  have e : HT.sIx xs.length xs.length (some (k : Int)) = k := by
    rw [HT.sIx_nat, Nat.min_eq_left h]
  rw [e]
  show (xs.drop 0).take (k - 0) = _
  rw [List.drop_zero, Nat.sub_zero]
/-! ### words -/
def spRead (C : Addr) : Sp := fun vs H Q _ => ∃ P x a s, ∃ f i w : Nat, vs = [.ref x, .int (f : Int), .int (i : Int)] ∧ Fr C P H x a s ∧ f < s.m ∧ i < 8 ∧ (s.wd.getD f [])[i]? = some w ∧ Q (.int (w : Int)) H
def wordS (s : FS) (f i w : Nat) : FS := { s with wd := s.wd.set f ((s.wd.getD f []).set i w) }
def spWrite (C : Addr) : Sp := fun vs H Q _ => ∃ P x a s, ∃ f i w : Nat, vs = [.ref x, .int (f : Int), .int (i : Int), .int (w : Int)] ∧ Fr C P H x a s ∧ f < s.m ∧ i < 8 ∧ (s.wd.getD f []).length = 8 ∧ w ≤ 4294967295 ∧ ∀ H', Fr C P H' x a (wordS s f i w) → ChgP P H H' → Q .non H'
theorem isI_in {n : Nat} {m : Int} (h : (n : Int) ≤ m) : isI (.int (n : Int)) 0 m = true := by
  show (decide ((0 : Int) ≤ (n : Int)) && decide ((n : Int) ≤ m)) = true
  rw [decide_eq_true (by omega), decide_eq_true h]; rfl
section
variable {P : Program} {w : World} {K : PySem.W.Frag} {mg : Str → Option Value} {base : Heap} {C_Frames C_Pages C_NotValid : Addr}
section
variable {P : Program} {w : World} {K : PySem.W.Frag} {mg : Str → Option Value} {base : Heap} {C_Frames C_Pages C_NotValid : Addr}
abbrev s_is_word : Stmt := topS 16
abbrev ns_is_word : List Str := ["value"]
theorem sc_is_word : FnScope ns_is_word ["value"] (defScope s_is_word) := ⟨rfl, rfl, rfl, by decide +kernel, rfl, by decide +kernel, by decide +kernel⟩

theorem ok_is_word {f : Addr} {fd : FuncData} (F : Fun K "is_word" "is_word" s_is_word f fd) (T : Txt K mg C_Frames C_Pages C_NotValid) (D_is_between : Dfn P w K mg base CX0 2 "is_between" ["value", "least", "most"] spBtw) : FnOk P w K mg base CX0 3 f fd ["value"] spWord := by
  refine F.ok sc_is_word (fun vs H Q E h => ?_) (fun cdv A outer s H vs Q E hr h => ?_)
  · obtain ⟨v, d, rfl, _⟩ := h
    rfl
  · obtain ⟨v, d, rfl, hd, k⟩ := h
    refine ⟨_, (pss_one (ps_ret (pe_dcall D_is_between (hr.mono (by decide)) (by rfl) pass0 (pa_cons (pv 0) (pa_cons pe_int (pa_cons (pe_gint (by rfl) T.c_TOP) pa_nil)))))), ?_⟩
    walk_at "run"
    exact ⟨_, d, _, _, rfl, hd, k⟩
end

abbrev s_Frames_read : Stmt := inClass (topS 19) 12
abbrev ns_Frames_read : List Str := ["self", "frame", "index"]
theorem sc_Frames_read : FnScope ns_Frames_read ["self", "frame", "index"] (defScope s_Frames_read) := ⟨rfl, rfl, rfl, by decide +kernel, rfl, by decide +kernel, by decide +kernel⟩

theorem ok_Frames_read {f : Addr} {fd : FuncData} (F : Fun K "read" "Frames.read" s_Frames_read f fd) (T : Txt K mg C_Frames C_Pages C_NotValid) (D_Frames_is_frame : Mth P w K mg base CX0 4 C_Frames "_is_frame" ["self", "value"] (spIsF C_Frames)) (D_is_index : Dfn P w K mg base CX0 3 "is_index" ["value", "many"] spIdx) : FnOk P w K mg base (L2.CX P w) 5 f fd ["self", "frame", "index"] (spRead C_Frames) := by
  have ho_Frames := T.o_Frames; have hn_Frames__words := T.n_Frames__words; have hn_Frames__shares := T.n_Frames__shares; have hn_Frames__rights := T.n_Frames__rights; have hn_Frames__offers := T.n_Frames__offers; have hn_Frames__asked := T.n_Frames__asked; have hn_Frames__ends_to_wait := T.n_Frames__ends_to_wait; have hn_Frames__taken := T.n_Frames__taken
  refine F.okX sc_Frames_read (fun vs H Q E h => ?_) (fun cdv A outer s H vs Q E hr h => ?_)
  · obtain ⟨P', x, a, s', e, i, v, rfl, _⟩ := h
    rfl
  · obtain ⟨P', x, a, s', e, i, v, rfl, fr, em, i8, hw, k⟩ := h
    refine ⟨_, (pss_cons (ps_if (PW.pt (pw_or (pt_not (pt_val (pe_dmeth (pv 0) D_Frames_is_frame (hr.mono (by decide)) pass0 (pa_cons (pv 1) pa_nil)))) (pw_or1 (pt_not (pt_val (pe_dcall D_is_index (hr.mono (by decide)) (by rfl) pass0 (pa_cons (pv 2) (pa_cons (pe_gint (by rfl) T.c_WORDS) pa_nil)))))))) (pss_one (ps_raise (by rfl) (takes_of rfl rfl rfl rfl) (pmk_x T.x_NotValid (by rfl)))) pss_nil)
  (pss_one (ps_ret (pe_ix (kIxL K) (pe_ix (kIxL K) (kFld K (pv 0) rfl) (pv 1) (fun _ _ => rfl)) (pv 2) (fun _ _ => rfl))))), ?_⟩
    have h1 := fr.ins
    have h2 := fr.w
    have el : e < s'.wd.length := by rw [fr.ok.wdm]; exact em
    obtain ⟨d, hd, hk⟩ := fr.ws.at (List.getElem?_eq_getElem el)
    have eg : s'.wd.getD e [] = s'.wd[e] := by rw [List.getD_eq_getElem?_getD, List.getElem?_eq_getElem el]; rfl
    rw [eg] at hw
    have hk : H d = some (.lst (s'.wd[e].map vN)) := hk
    walk_at "ro"
    refine ⟨P', x, a, s', _, _, rfl, fr, .int _, _, rfl, ?_⟩
    rw [isF_nat em]
    refine iteF ?_
    walk_at "ro"
    refine ⟨_, .int (i : Int), _, rfl, .int _, _, rfl, ?_⟩
    rw [isI_in (by omega)]
    refine iteF ?_
    walk_at "ro"
    refine ⟨_, _, _, _, rfl, rfl, SqL.of h2, atC e rfl (by rw [List.getElem?_map, hd]; rfl), ?_⟩
    walk_at "ro"
    exact ⟨_, _, _, _, rfl, rfl, SqL.of hk, atC i rfl (by rw [List.getElem?_map, hw]; rfl), k⟩
abbrev s_Frames_write : Stmt := inClass (topS 19) 13
abbrev ns_Frames_write : List Str := ["self", "frame", "index", "word"]
theorem sc_Frames_write : FnScope ns_Frames_write ["self", "frame", "index", "word"] (defScope s_Frames_write) := ⟨rfl, rfl, rfl, by decide +kernel, rfl, by decide +kernel, by decide +kernel⟩

theorem ok_Frames_write {f : Addr} {fd : FuncData} (F : Fun K "write" "Frames.write" s_Frames_write f fd) (T : Txt K mg C_Frames C_Pages C_NotValid) (D_Frames_is_frame : Mth P w K mg base CX0 4 C_Frames "_is_frame" ["self", "value"] (spIsF C_Frames)) (D_is_index : Dfn P w K mg base CX0 3 "is_index" ["value", "many"] spIdx) (D_is_word : Dfn P w K mg base CX0 3 "is_word" ["value"] spWord) : FnOk P w K mg base (L2.CX P w) 5 f fd ["self", "frame", "index", "word"] (spWrite C_Frames) := by
  have ho_Frames := T.o_Frames; have hn_Frames__words := T.n_Frames__words; have hn_Frames__shares := T.n_Frames__shares; have hn_Frames__rights := T.n_Frames__rights; have hn_Frames__offers := T.n_Frames__offers; have hn_Frames__asked := T.n_Frames__asked; have hn_Frames__ends_to_wait := T.n_Frames__ends_to_wait; have hn_Frames__taken := T.n_Frames__taken
  refine F.okX sc_Frames_write (fun vs H Q E h => ?_) (fun cdv A outer s H vs Q E hr h => ?_)
  · obtain ⟨P', x, a, s', e, i, v, rfl, _⟩ := h
    rfl
  · obtain ⟨P', x, a, s', e, i, v, rfl, fr, em, i8, hl, hv, k⟩ := h
    refine ⟨_, (pss_cons (ps_if (PW.pt (pw_or (pt_not (pt_val (pe_dmeth (pv 0) D_Frames_is_frame (hr.mono (by decide)) pass0 (pa_cons (pv 1) pa_nil)))) (pw_or (pt_not (pt_val (pe_dcall D_is_index (hr.mono (by decide)) (by rfl) pass0 (pa_cons (pv 2) (pa_cons (pe_gint (by rfl) T.c_WORDS) pa_nil))))) (pw_or1 (pt_not (pt_val (pe_dcall D_is_word (hr.mono (by decide)) (by rfl) pass0 (pa_cons (pv 3) pa_nil)))))))) (pss_one (ps_raise (by rfl) (takes_of rfl rfl rfl rfl) (pmk_x T.x_NotValid (by rfl)))) pss_nil)
  (pss_one (ps_asg (pv 3) (pg_sub (pe_ix (kIxL K) (kFld K (pv 0) rfl) (pv 1) (fun _ _ => rfl)) (pv 2) set_list)))), ?_⟩
    have h1 := fr.ins
    have h2 := fr.w
    have el : e < s'.wd.length := by rw [fr.ok.wdm]; exact em
    obtain ⟨d, hd, hk⟩ := fr.ws.at (List.getElem?_eq_getElem el)
    have eg : s'.wd.getD e [] = s'.wd[e] := by rw [List.getD_eq_getElem?_getD, List.getElem?_eq_getElem el]; rfl
    rw [eg] at hl
    have hk : H d = some (.lst (s'.wd[e].map vN)) := hk
    walk_at "ro"
    refine ⟨P', x, a, s', _, _, rfl, fr, .int _, _, rfl, ?_⟩
    rw [isF_nat em]
    refine iteF ?_
    walk_at "ro"
    refine ⟨_, .int (i : Int), _, rfl, .int _, _, rfl, ?_⟩
    rw [isI_in (by omega)]
    refine iteF ?_
    walk_at "ro"
    refine ⟨_, .int (v : Int), rfl, .int _, _, rfl, ?_⟩
    rw [isI_in (by omega)]
    refine iteF ?_
    walk_at "ro"
    refine ⟨_, _, _, _, rfl, rfl, SqL.of h2, atC e rfl (by rw [List.getElem?_map, hd]; rfl), ?_⟩
    walk_at "ro"
    refine ⟨_, _, _, i, rfl, rfl, hk, ixC i rfl (by rw [List.length_map, hl]; exact i8), ?_⟩
    have es : (s'.wd[e].map vN).set i (.int (v : Int)) = (s'.wd[e].set i v).map vN := by rw [List.map_set]; rfl
    rw [es]
    refine k _ ?_ (ChgP.upd (fun _ _ _ h => h) (fr.mine d (by unfold FA.own; exact List.mem_append_right _ (List.mem_append_left _ (List.mem_of_getElem? hd)))))
    unfold wordS
    rw [eg]
    exact fr.setWi hd _
end
end My

namespace My
open PySem L2
local macro_rules | `(tactic| walk_at "ne") => `(tactic| first | assumption | exact Ne.symm (by assumption) | exact ne_of_none (by assumption) (by assumption) | exact Ne.symm (ne_of_none (by assumption) (by assumption)))
local macro_rules | `(tactic| walk_at "hp") => `(tactic| first | assumption | with_reducible exact upd_same | (with_reducible refine Eq.trans (upd_ne ?_) ?_; rotate_left; walk_at "hp"; walk_at "ne"))
local macro_rules | `(tactic| walk_at "cnd") => `(tactic| first | omega | (show (0 : Int) < _; omega) | exact ⟨by omega, by omega⟩ | exact Or.inl ⟨by omega, by omega⟩ | exact Or.inr ⟨by omega, by omega⟩ | exact ⟨by omega, by omega, by decide⟩ | exact ⟨by omega, by omega, by omega⟩)
local macro_rules | `(tactic| walk_at "at") => `(tactic| first | exact atC 0 rfl rfl | exact atC 1 rfl rfl | exact atC 2 rfl rfl | exact atC 3 rfl rfl | exact atC 4 rfl rfl | exact atC 5 rfl rfl | exact atC 6 rfl rfl | exact atC 7 rfl rfl)
local macro_rules | `(tactic| walk_at "ix") => `(tactic| first | exact ixC 0 rfl (Nat.le_of_ble_eq_true rfl) | exact ixC 1 rfl (Nat.le_of_ble_eq_true rfl) | exact ixC 2 rfl (Nat.le_of_ble_eq_true rfl) | exact ixC 3 rfl (Nat.le_of_ble_eq_true rfl) | exact ixC 4 rfl (Nat.le_of_ble_eq_true rfl) | exact ixC 5 rfl (Nat.le_of_ble_eq_true rfl))
local macro_rules | `(tactic| walk_at "st") => `(tactic| first
  | refine ⟨_, rfl, ?_⟩
  | refine ⟨_, _, rfl, rfl, (by walk_at "cnd" : (_ : Prop)), ?_⟩
  | refine ⟨_, _, rfl, rfl, ?_⟩
  | refine ⟨rfl, ?_⟩
  | refine Or.inl ⟨_, rfl, ?_⟩
  | refine ⟨_, _, _, _, rfl, rfl, by exact SqL.of (by walk_at "hp"), by walk_at "at", ?_⟩
  | refine ⟨_, _, _, _, rfl, rfl, by exact SqT.of (by walk_at "hp"), by walk_at "at", ?_⟩
  | refine ⟨_, _, _, _, rfl, rfl, by walk_at "hp", by walk_at "ix", ?_⟩
  | refine ⟨_, _, rfl, Or.inl (by exact SqL.of (by walk_at "hp")), ?_⟩
  | refine ⟨_, _, rfl, Or.inr (by exact SqT.of (by walk_at "hp")), ?_⟩)
local macro_rules | `(tactic| walk_at "so") => `(tactic| first
  | refine ⟨_, _, _, _, _, rfl, by walk_at "hp", by assumption, by assumption, rfl, ?_⟩
  | refine ⟨_, _, _, _, rfl, by walk_at "hp", by assumption, by assumption, Nat.le_of_ble_eq_true rfl, ?_⟩
  | refine ⟨_, _, _, rfl, by walk_at "hp", rfl, ?_⟩
  | walk_at "st")
local macro_rules | `(tactic| walk_at "ro") => `(tactic| repeat walk_at "so")
local macro_rules | `(tactic| walk_at "run") => `(tactic| repeat walk_at "st")

/-! ### taking back -/
def keysR (l : RL) : List Nat := l.map (·.1)
def newsOf (s : FS) (e : Nat) : List Nat := (keysR (s.rt.getD e [])).reverse.take (min ((s.rt.getD e []).length - s.sh.getD e 0) (s.ask.getD e 0))
def endsS (s : FS) (e : Nat) (fs : List Nat) : FS := fs.foldl (fun s f => endS s e f) s
def backS (s : FS) (e : Nat) : FS := { endsS s e (newsOf s e) with ask := s.ask.set e 0, tk := s.tk.set e (s.tk.getD e [] ++ newsOf s e) }
theorem endsS_snoc (s : FS) (e : Nat) (fs : List Nat) (f : Nat) : endsS s e (fs ++ [f]) = endS (endsS s e fs) e f := by
  unfold endsS
  rw [List.foldl_append]; rfl
theorem endsS_same (e : Nat) : ∀ (fs : List Nat) (s : FS), (endsS s e fs).m = s.m ∧ (endsS s e fs).sh = s.sh ∧ (endsS s e fs).wt = s.wt ∧ (endsS s e fs).tk = s.tk ∧ (endsS s e fs).wd = s.wd ∧ (endsS s e fs).rt.length = s.rt.length ∧ (endsS s e fs).of.length = s.of.length ∧ (∃ n, (endsS s e fs).ask = s.ask.set e n ∨ (endsS s e fs).ask = s.ask) ∧ ∀ j, j ≠ e → (endsS s e fs).rt.getD j [] = s.rt.getD j [] ∧ (endsS s e fs).of.getD j [] = s.of.getD j []
  | [], s => ⟨rfl, rfl, rfl, rfl, rfl, rfl, rfl, ⟨0, .inr rfl⟩, fun _ _ => ⟨rfl, rfl⟩⟩
  | f :: fs, s => by
    obtain ⟨h1, h2, h3, h4, h5, h6, h7, ⟨n, h8⟩, h9⟩ := endsS_same e fs (endS s e f)
    have step : endsS s e (f :: fs) = endsS (endS s e f) e fs := rfl
    rw [step]
    refine ⟨h1, h2, h3, h4, h5, by rw [h6]; exact List.length_set, by rw [h7]; exact List.length_set, ?_, fun j hj => ?_⟩
    · rcases h8 with q | q
      · refine ⟨n, .inl ?_⟩
        rw [q]
        show (s.ask.set e _).set e n = _
        rw [List.set_set]
      · exact ⟨_, .inl (by rw [q]; rfl)⟩
    · obtain ⟨q1, q2⟩ := h9 j hj
      rw [q1, q2]
      refine ⟨?_, ?_⟩
      · show (s.rt.set e _).getD j [] = _
        rw [List.getD_eq_getElem?_getD, List.getElem?_set_ne (fun z => hj z.symm), List.getD_eq_getElem?_getD]
      · show (s.of.set e _).getD j [] = _
        rw [List.getD_eq_getElem?_getD, List.getElem?_set_ne (fun z => hj z.symm), List.getD_eq_getElem?_getD]
theorem get_mem {l : RL} {p : Nat × Bool} (h : p ∈ l) : getR l p.1 ≠ none := by
  intro q
  unfold getR at q
  cases y : l.find? (fun z => decide (z.1 = p.1)) with
  | none => exact absurd (List.find?_eq_none.mp y p h) (by simp)
  | some z => rw [y] at q; cases q
theorem drop_none {l : RL} {f : Nat} (h : f ∉ keysR l) : dropR l f = l := by
  unfold dropR
  rw [List.filter_eq_self]
  intro p hp
  have : p.1 ≠ f := fun q => h (by rw [← q]; exact List.mem_map_of_mem hp)
  simp [this]
theorem drop_last {l : RL} (nd : (keysR l).Nodup) {n : Nat} (h : n < l.length) : dropR (l.take (n + 1)) l[n].1 = l.take n := by
  rw [List.take_add_one, List.getElem?_eq_getElem h]
  show dropR (l.take n ++ [l[n]]) l[n].1 = _
  unfold dropR
  rw [List.filter_append, List.filter_cons_of_neg (by simp), List.filter_nil, List.append_nil]
  refine drop_none (l := l.take n) fun q => ?_
  unfold keysR at q nd
  rw [List.map_take] at q
  obtain ⟨j, hj, e⟩ := List.mem_iff_getElem.mp q
  rw [List.length_take] at hj
  have hj1 : j < n := by omega
  rw [List.getElem_take] at e
  have hn : n < (l.map (·.1)).length := by rw [List.length_map]; exact h
  have : (l.map (·.1))[j]? = (l.map (·.1))[n]? := by
    rw [List.getElem?_eq_getElem (by omega), List.getElem?_eq_getElem hn, e, List.getElem_map]
  exact absurd ((List.getElem?_inj (by omega) nd).mp this) (by omega)
/-- what is ended at the i-th step -/
theorem news_at {l : RL} {i : Nat} (h : i < l.length) : (keysR l).reverse[i]? = some (l[l.length - 1 - i]'(by omega)).1 := by
  unfold keysR
  rw [List.getElem?_reverse (by rw [List.length_map]; exact h), List.length_map, List.getElem?_map, List.getElem?_eq_getElem (by omega)]; rfl
theorem ends_rt {s : FS} {e : Nat} (he : e < s.rt.length) (nd : (keysR (s.rt.getD e [])).Nodup) : ∀ i, i ≤ (s.rt.getD e []).length → (endsS s e ((keysR (s.rt.getD e [])).reverse.take i)).rt.getD e [] = (s.rt.getD e []).take ((s.rt.getD e []).length - i)
  | 0, _ => by rw [List.take_zero, Nat.sub_zero, List.take_length]; rfl
  | i + 1, h => by
    have ih := ends_rt he nd i (by omega)
    have hn := news_at (l := s.rt.getD e []) (i := i) (by omega)
    rw [List.take_add_one, hn]
    show (endsS s e (_ ++ [_])).rt.getD e [] = _
    rw [endsS_snoc]
    show ((endsS s e _).rt.set e (dropR ((endsS s e _).rt.getD e []) _)).getD e [] = _
    rw [getD_set (by rw [(endsS_same e _ s).2.2.2.2.2.1]; exact he), if_pos rfl, ih]
    have e1 : (s.rt.getD e []).length - i = ((s.rt.getD e []).length - 1 - i) + 1 := by omega
    rw [e1, drop_last nd (by omega)]
    congr 1
    omega
def spBack (C : Addr) : Sp := fun vs H Q _ => ∃ P x a s, ∃ e : Nat, vs = [.ref x, .int (e : Int)] ∧ Fr C P H x a s ∧ e < 4 ∧ (keysR (s.rt.getD e [])).Nodup ∧ (s.rt.getD e []).length ≤ 1000 ∧ (s.tk.getD e []).length ≤ 90000 ∧
  ∀ a' p H', Fr C P H' x a' (backS s e) → H p = none → NsL H' p (newsOf s e) → ChgP P H H' → Q (.ref p) H'
theorem ChgP.same {P : Addr → Prop} {H H' : Hp} (h : Same H H') : ChgP P H H' := fun b o _ e => h b o e
theorem ChgP.trans {P : Addr → Prop} {H H1 H2 : Hp} (h : ChgP P H H1) (g : ChgP P H1 H2) : ChgP P H H2 := fun b o n e => g b o n (h b o n e)
theorem ChgP.mono {P P' : Addr → Prop} {H H' : Hp} (h : ChgP P H H') (m : ∀ b, P b → P' b) : ChgP P' H H' := fun b o n e => h b o (fun q => n (m b q)) e
theorem ask_set (e : Nat) (fs : List Nat) (s : FS) (n : Nat) : (endsS s e fs).ask.set e n = s.ask.set e n := by
  obtain ⟨k, h | h⟩ := (endsS_same e fs s).2.2.2.2.2.2.2.1
  · rw [h, List.set_set]
  · rw [h]
end My

namespace My
open PySem L2
local macro_rules | `(tactic| walk_at "ne") => `(tactic| first | assumption | exact Ne.symm (by assumption) | exact ne_of_none (by assumption) (by assumption) | exact Ne.symm (ne_of_none (by assumption) (by assumption)))
local macro_rules | `(tactic| walk_at "hp") => `(tactic| first | assumption | with_reducible exact upd_same | (with_reducible refine Eq.trans (upd_ne ?_) ?_; rotate_left; walk_at "hp"; walk_at "ne"))
local macro_rules | `(tactic| walk_at "cnd") => `(tactic| first | omega | (show (0 : Int) < _; omega) | exact ⟨by omega, by omega⟩ | exact Or.inl ⟨by omega, by omega⟩ | exact Or.inr ⟨by omega, by omega⟩ | exact ⟨by omega, by omega, by decide⟩ | exact ⟨by omega, by omega, by omega⟩)
local macro_rules | `(tactic| walk_at "at") => `(tactic| first | exact atC 0 rfl rfl | exact atC 1 rfl rfl | exact atC 2 rfl rfl | exact atC 3 rfl rfl | exact atC 4 rfl rfl | exact atC 5 rfl rfl | exact atC 6 rfl rfl | exact atC 7 rfl rfl)
local macro_rules | `(tactic| walk_at "ix") => `(tactic| first | exact ixC 0 rfl (Nat.le_of_ble_eq_true rfl) | exact ixC 1 rfl (Nat.le_of_ble_eq_true rfl) | exact ixC 2 rfl (Nat.le_of_ble_eq_true rfl) | exact ixC 3 rfl (Nat.le_of_ble_eq_true rfl) | exact ixC 4 rfl (Nat.le_of_ble_eq_true rfl) | exact ixC 5 rfl (Nat.le_of_ble_eq_true rfl))
local macro_rules | `(tactic| walk_at "st") => `(tactic| first
  | refine ⟨_, rfl, ?_⟩
  | refine ⟨_, _, rfl, rfl, (by walk_at "cnd" : (_ : Prop)), ?_⟩
  | refine ⟨_, _, rfl, rfl, ?_⟩
  | refine ⟨rfl, ?_⟩
  | refine Or.inl ⟨_, rfl, ?_⟩
  | refine ⟨_, _, _, _, rfl, rfl, by exact SqL.of (by walk_at "hp"), by walk_at "at", ?_⟩
  | refine ⟨_, _, _, _, rfl, rfl, by exact SqT.of (by walk_at "hp"), by walk_at "at", ?_⟩
  | refine ⟨_, _, _, _, rfl, rfl, by walk_at "hp", by walk_at "ix", ?_⟩
  | refine ⟨_, _, rfl, Or.inl (by exact SqL.of (by walk_at "hp")), ?_⟩
  | refine ⟨_, _, rfl, Or.inr (by exact SqT.of (by walk_at "hp")), ?_⟩)
local macro_rules | `(tactic| walk_at "so") => `(tactic| first
  | refine ⟨_, _, _, _, _, rfl, by walk_at "hp", by assumption, by assumption, rfl, ?_⟩
  | refine ⟨_, _, _, _, rfl, by walk_at "hp", by assumption, by assumption, Nat.le_of_ble_eq_true rfl, ?_⟩
  | refine ⟨_, _, _, rfl, by walk_at "hp", rfl, ?_⟩
  | walk_at "st")
local macro_rules | `(tactic| walk_at "ro") => `(tactic| repeat walk_at "so")
local macro_rules | `(tactic| walk_at "run") => `(tactic| repeat walk_at "st")

def waitS (s : FS) (e : Nat) : FS := { s with wt := s.wt.set e (s.wt.getD e 0 - 1) }
def takeS (s : FS) (e f : Nat) : FS := { s with wd := s.wd.set f (List.replicate 8 0), rt := s.rt.set e (s.rt.getD e [] ++ [(f, true)]) }
def spTake (C : Addr) : Sp := fun vs H Q _ => ∃ P x a s, ∃ e : Nat, vs = [.ref x, .int (e : Int)] ∧ Fr C P H x a s ∧ e < 4 ∧ (s.rt.getD e []).length ≤ 1000 ∧ (moreOf s (eD e) = true → freeT s s.m ≠ []) ∧
  (moreOf s (eD e) = false → ∀ H', Same H H' → Q .non H') ∧
  (moreOf s (eD e) = true → ∀ f, (freeT s s.m).head? = some f → ∀ a' H', Fr C (fun b => P b ∨ H b = none) H' x a' (takeS s e f) → ChgP P H H' → Q (.int (f : Int)) H')
theorem free_get {s : FS} {f n : Nat} (h : f ∈ freeT s n) : f < n ∧ ∀ e, getR (s.rt.getD e []) f = none := by
  unfold freeT at h
  rw [List.mem_filter, List.mem_range] at h
  refine ⟨h.1, fun e => ?_⟩
  have q := h.2
  unfold heldBy at q
  rw [List.getD_eq_getElem?_getD]
  cases y : s.rt[e]? with
  | none => rfl
  | some l =>
    have : (s.rt.any fun l => (getR l f).isSome) = false := by simpa using q
    rw [List.any_eq_false] at this
    have := this l (List.mem_of_getElem? y)
    show getR l f = none
    cases z : getR l f with
    | none => rfl
    | some b => rw [z] at this; exact absurd rfl this
section
variable {P : Program} {w : World} {K : PySem.W.Frag} {mg : Str → Option Value} {base : Heap} {C_Frames C_Pages C_NotValid : Addr}
abbrev s_Frames_take : Stmt := inClass (topS 19) 1
abbrev ns_Frames_take : List Str := ["self", "environment", "frame"]
theorem sc_Frames_take : FnScope ns_Frames_take ["self", "environment"] (defScope s_Frames_take) := ⟨rfl, rfl, rfl, by decide +kernel, rfl, by decide +kernel, by decide +kernel⟩

theorem ok_Frames_take {f : Addr} {fd : FuncData} (F : Fun K "take" "Frames.take" s_Frames_take f fd) (T : Txt K mg C_Frames C_Pages C_NotValid) (D_is_environment : Dfn P w K mg base CX0 4 "is_environment" ["value"] spEnv) (D_Frames_may_hold_more : Mth P w K mg base CX0 8 C_Frames "_may_hold_more" ["self", "environment"] (spMore C_Frames)) (D_Frames_free : Mth P w K mg base CX0 2 C_Frames "free" ["self"] (spFree C_Frames)) : FnOk P w K mg base CX0 9 f fd ["self", "environment"] (spTake C_Frames) := by
  have ho_Frames := T.o_Frames; have hn_Frames__words := T.n_Frames__words; have hn_Frames__shares := T.n_Frames__shares; have hn_Frames__rights := T.n_Frames__rights; have hn_Frames__offers := T.n_Frames__offers; have hn_Frames__asked := T.n_Frames__asked; have hn_Frames__ends_to_wait := T.n_Frames__ends_to_wait; have hn_Frames__taken := T.n_Frames__taken
  refine F.ok sc_Frames_take (fun vs H Q E h => ?_) (fun cdv A outer s H vs Q E hr h => ?_)
  · obtain ⟨P', x, a, s', e, rfl, _⟩ := h
    rfl
  · obtain ⟨P', x, a, s', e, rfl, fr, e4, hz, hne, kn, kt⟩ := h
    refine ⟨_, (pss_cons (ps_if (PW.pt (pw_or (pt_not (pt_val (pe_dcall D_is_environment (hr.mono (by decide)) (by rfl) pass0 (pa_cons (pv 1) pa_nil)))) (pw_or1 (pt_not (pt_val (pe_dmeth (pv 0) D_Frames_may_hold_more (hr.mono (by decide)) pass0 (pa_cons (pv 1) pa_nil))))))) (pss_one (ps_ret pe_non)) pss_nil)
  (pss_cons (ps_set (i := 2) sc_Frames_take.nd rfl (Or.inl rfl) (pe_ix (kIxL K) (pe_dmeth0 (pv 0) D_Frames_free (hr.mono (by decide)) pass0 ) pe_int (fun _ _ => rfl)))
  (pss_cons (ps_asg (pe_op op_rep (pe_lst (pa_cons pe_int pa_nil)) (pe_gint (by rfl) T.c_WORDS)) (pg_sub (kFld K (pv 0) rfl) (pv 2) set_list))
  (pss_cons (ps_dput (units1 hr) (pe_ix (kIxL K) (kFld K (pv 0) rfl) (pv 1) (fun _ _ => rfl)) (pv 2) pe_str rfl)
  (pss_one (ps_ret (pv 2))))))), ?_⟩
    have h1 := fr.ins
    walk_at "ro"
    refine ⟨_, _, rfl, .int _, _, rfl, ?_⟩
    rw [isE_nat e4]
    refine iteF ?_
    walk_at "ro"
    refine ⟨P', x, a, s', _, _, rfl, fr, .int _, fun H1 s1 => ?_⟩
    refine ⟨_, rfl, ?_⟩
    cases em : moreOf s' (eD e) with
    | false =>
      have em' : moreOf s' (.int (e : Int)) = false := em
      rw [em']
      refine iteT ?_
      walk_at "ro"
      exact kn em H1 s1
    | true =>
      have em' : moreOf s' (.int (e : Int)) = true := em
      rw [em']
      refine iteF ?_
      have h11 := s1 _ _ h1
      have fr1 := fr.same s1
      walk_at "ro"
      refine ⟨P', x, a, s', rfl, fr1, fun p2 H2 s2 hp2 n2 => ?_⟩
      have s02 := s1.trans s2
      have fr2 := fr.same s02
      have h12 := fr2.ins
      have h2w := fr2.w
      have n2 : H2 p2 = some (.lst ((freeT s' s'.m).map vN)) := n2
      cases ef : freeT s' s'.m with
      | nil => exact absurd ef (hne em)
      | cons g gs =>
        rw [ef] at n2
        obtain ⟨gm, gn⟩ := free_get (s := s') (n := s'.m) (f := g) (by rw [ef]; exact List.mem_cons_self)
        have kt := kt em g (by rw [ef]; rfl)
        refine ⟨p2, _, _, _, rfl, rfl, SqL.of n2, at0, ?_⟩
        walk_at "ro"
        refine ⟨szl rfl, fun q1 hq1 => ?_⟩
        walk_at "ro"
        refine ⟨_, _, _, rfl, rfl, upd_same, by decide, by decide, by decide, fun q2 hq2 => ?_⟩
        have s2q := (Same.new (o := .lst [V.int 0]) hq1).trans (Same.new (o := .lst (List.replicate (Int.toNat 8) [V.int 0]).flatten) hq2)
        have nq : NsL (upd (upd H2 q1 (.lst [.int 0])) q2 (.lst (List.replicate (Int.toNat 8) [V.int 0]).flatten)) q2 (List.replicate 8 0) := upd_same
        have q20 : H q2 = none := by
          cases z : H q2 with
          | none => rfl
          | some o =>
            have := (Same.new (o := .lst [V.int 0]) hq1) _ _ (s02 _ _ z)
            rw [hq2] at this; cases this
        have s03 := s02.trans s2q
        have fr3 := (fr.same s03).mono (P' := fun b => P' b ∨ H b = none) fun b hb => .inl (fr.mine b hb)
        generalize upd (upd H2 q1 (.lst [.int 0])) q2 (.lst (List.replicate (Int.toNat 8) [V.int 0]).flatten) = H3 at s2q nq s03 fr3
        have h13 := fr3.ins
        have h3w := fr3.w
        have gl : g < a.wds.length := by rw [fr.ws.1, fr.ok.wdm]; exact gm
        walk_at "ro"
        refine ⟨_, _, _, g, rfl, rfl, h3w, ixC g rfl (by rw [List.length_map]; exact gl), ?_⟩
        have es : (a.wds.map V.ref).set g (.ref q2) = (a.wds.set g q2).map V.ref := by rw [List.map_set]
        rw [es]
        have fr4 := fr3.setW gl nq (fun z => fr.al _ z q20) (.inr q20)
        have c4 : ChgP P' H (upd H3 a.W (.lst ((a.wds.set g q2).map V.ref))) := (ChgP.same s03).upd (fr.mine a.W (by unfold FA.own; exact List.mem_append_left _ (by simp)))
        generalize upd H3 a.W (.lst ((a.wds.set g q2).map V.ref)) = H4 at fr4 c4
        have h14 := fr4.ins
        have h4r := fr4.r
        have n4 : e < s'.rt.length := by rw [fr.ok.rt4]; omega
        obtain ⟨dd, hdd, hdk⟩ := fr4.rs.at (List.getElem?_eq_getElem n4)
        have eg : s'.rt.getD e [] = s'.rt[e] := by rw [List.getD_eq_getElem?_getD, List.getElem?_eq_getElem n4]; rfl
        have hdk : H4 dd = some (.dK (entR s'.rt[e])) := hdk
        walk_at "ro"
        refine ⟨_, _, _, _, rfl, rfl, SqL.of h4r, atC e rfl (by rw [List.getElem?_map, hdd]; rfl), ?_⟩
        walk_at "ro"
        refine ⟨dd, _, rfl, DPut.k (k := .inl (g : Int)) hdk (by unfold entR; rw [List.length_map, ← eg]; exact szt (by omega)), ?_⟩
        have ep : putK (entR s'.rt[e]) (.inl (g : Int)) (.str "rw") = entR (s'.rt.getD e [] ++ [(g, true)]) := by
          rw [← putR_new true (gn e), ← put_ent, eg]; rfl
        rw [ep]
        have fr5 := fr4.setR hdd (s'.rt.getD e [] ++ [(g, true)])
        have ddm : dd ∈ a.own x := by unfold FA.own; exact List.mem_append_right _ (List.mem_append_right _ (List.mem_append_left _ (List.mem_of_getElem? hdd)))
        walk_at "ro"
        exact kt _ _ fr5 (c4.upd (fr.mine dd ddm))
end
end My

namespace My
open PySem L2
local macro_rules | `(tactic| walk_at "ne") => `(tactic| first | assumption | exact Ne.symm (by assumption) | exact ne_of_none (by assumption) (by assumption) | exact Ne.symm (ne_of_none (by assumption) (by assumption)))
local macro_rules | `(tactic| walk_at "hp") => `(tactic| first | assumption | with_reducible exact upd_same | (with_reducible refine Eq.trans (upd_ne ?_) ?_; rotate_left; walk_at "hp"; walk_at "ne"))
local macro_rules | `(tactic| walk_at "cnd") => `(tactic| first | omega | (show (0 : Int) < _; omega) | exact ⟨by omega, by omega⟩ | exact Or.inl ⟨by omega, by omega⟩ | exact Or.inr ⟨by omega, by omega⟩ | exact ⟨by omega, by omega, by decide⟩ | exact ⟨by omega, by omega, by omega⟩)
local macro_rules | `(tactic| walk_at "at") => `(tactic| first | exact atC 0 rfl rfl | exact atC 1 rfl rfl | exact atC 2 rfl rfl | exact atC 3 rfl rfl | exact atC 4 rfl rfl | exact atC 5 rfl rfl | exact atC 6 rfl rfl | exact atC 7 rfl rfl)
local macro_rules | `(tactic| walk_at "ix") => `(tactic| first | exact ixC 0 rfl (Nat.le_of_ble_eq_true rfl) | exact ixC 1 rfl (Nat.le_of_ble_eq_true rfl) | exact ixC 2 rfl (Nat.le_of_ble_eq_true rfl) | exact ixC 3 rfl (Nat.le_of_ble_eq_true rfl) | exact ixC 4 rfl (Nat.le_of_ble_eq_true rfl) | exact ixC 5 rfl (Nat.le_of_ble_eq_true rfl))
local macro_rules | `(tactic| walk_at "st") => `(tactic| first
  | refine ⟨_, rfl, ?_⟩
  | refine ⟨_, _, rfl, rfl, (by walk_at "cnd" : (_ : Prop)), ?_⟩
  | refine ⟨_, _, rfl, rfl, ?_⟩
  | refine ⟨rfl, ?_⟩
  | refine Or.inl ⟨_, rfl, ?_⟩
  | refine ⟨_, _, _, _, rfl, rfl, by exact SqL.of (by walk_at "hp"), by walk_at "at", ?_⟩
  | refine ⟨_, _, _, _, rfl, rfl, by exact SqT.of (by walk_at "hp"), by walk_at "at", ?_⟩
  | refine ⟨_, _, _, _, rfl, rfl, by walk_at "hp", by walk_at "ix", ?_⟩
  | refine ⟨_, _, rfl, Or.inl (by exact SqL.of (by walk_at "hp")), ?_⟩
  | refine ⟨_, _, rfl, Or.inr (by exact SqT.of (by walk_at "hp")), ?_⟩)
local macro_rules | `(tactic| walk_at "so") => `(tactic| first
  | refine ⟨_, _, _, _, _, rfl, by walk_at "hp", by assumption, by assumption, rfl, ?_⟩
  | refine ⟨_, _, _, _, rfl, by walk_at "hp", by assumption, by assumption, Nat.le_of_ble_eq_true rfl, ?_⟩
  | refine ⟨_, _, _, rfl, by walk_at "hp", rfl, ?_⟩
  | walk_at "st")
local macro_rules | `(tactic| walk_at "ro") => `(tactic| repeat walk_at "so")
local macro_rules | `(tactic| walk_at "run") => `(tactic| repeat walk_at "st")

/-! ### includes, offers -/
def inclO : Option Bool → Option Bool → Bool
  | some true, some _ => true
  | some false, some false => true
  | _, _ => false
def spIncl : Sp := fun vs H Q _ => ∃ h r : Option Bool, vs = [optR h, optR r] ∧ Q (.bl (inclO h r)) H
inductive RW3 where
  | no
  | r
  | rw
  | w
def rv3 : RW3 → V
  | .no => .non
  | .r => .str "r"
  | .rw => .str "rw"
  | .w => .str "w"
def incl3 : Option Bool → RW3 → Bool
  | some true, .r => true
  | some true, .rw => true
  | some false, .r => true
  | _, _ => false
def spIncl3 : Sp := fun vs H Q _ => ∃ (h : Option Bool) (r : RW3), vs = [optR h, rv3 r] ∧ Q (.bl (incl3 h r)) H
theorem incl_imp : ∀ vs H Q E, spIncl vs H Q E → spIncl3 vs H Q E := by
  rintro vs H Q E ⟨h, r, rfl, k⟩
  refine ⟨h, match r with | none => .no | some true => .rw | some false => .r, ?_, ?_⟩
  · rcases r with _ | (_ | _) <;> rfl
  · rcases h with _ | (_ | _) <;> rcases r with _ | (_ | _) <;> exact k
theorem OB.set {n : Nat} {of : List (List (Nat × RL))} {e : Nat} {l' : List (Nat × RL)} (h : OB n of) (hl : l'.length ≤ n + 1) (hp : ∀ p ∈ l', p.2.length ≤ n + 1) : OB (n + 1) (of.set e l') := by
  intro l hl'
  rcases List.mem_or_eq_of_mem_set hl' with q | q
  · obtain ⟨a, b⟩ := h l q
    exact ⟨by omega, fun p hp => by have := b p hp; omega⟩
  · subst q
    exact ⟨hl, hp⟩
theorem OB.set0 {n : Nat} {of : List (List (Nat × RL))} {e : Nat} {l' : List (Nat × RL)} (h : OB n of) (hl : l'.length ≤ n) (hp : ∀ p ∈ l', p.2.length ≤ n) : OB n (of.set e l') := by
  intro l hl'
  rcases List.mem_or_eq_of_mem_set hl' with q | q
  · exact h l q
  · subst q
    exact ⟨hl, hp⟩
theorem dropR_len (l : RL) (f : Nat) : (dropR l f).length ≤ l.length := List.length_filter_le _ _
theorem Each.snoc {α : Type} {rel : Hp → Addr → α → Prop} {H : Hp} {ds : List Addr} {ls : List α} {d : Addr} {l : α} (h : Each rel H ds ls) (r : rel H d l) : Each rel H (ds ++ [d]) (ls ++ [l]) := by
  refine ⟨by rw [List.length_append, List.length_append, h.1]; rfl, fun j d' l' a b => ?_⟩
  by_cases q : j < ds.length
  · rw [List.getElem?_append_left q] at a
    rw [List.getElem?_append_left (by rw [← h.1]; exact q)] at b
    exact h.2 j d' l' a b
  · rw [List.getElem?_append_right (by omega)] at a
    rw [List.getElem?_append_right (by rw [← h.1]; omega), ← h.1] at b
    have z : j - ds.length = 0 := by
      have := (List.getElem?_eq_some_iff.mp a).1
      simp at this
      omega
    rw [z] at a b
    have a : d = d' := Option.some.inj a
    have b : l = l' := Option.some.inj b
    subst a b
    exact r
theorem getO_snoc {l : List (Nat × RL)} {f : Nat} (h : getO l f = none) (rl : RL) (g : Nat) : getO (l ++ [(f, rl)]) g = if g = f then some rl else getO l g := by
  unfold getO at h ⊢
  rw [List.find?_append]
  by_cases q : g = f
  · subst q
    have h' : l.find? (fun p => decide (p.1 = g)) = none := by
      cases e : l.find? (fun p => decide (p.1 = g)) with
      | none => rfl
      | some q => rw [e] at h; cases h
    rw [h', if_pos rfl, Option.none_or, List.find?_cons_of_pos (by simp)]; rfl
  · have h' : [(f, rl)].find? (fun p => decide (p.1 = g)) = none := by
      rw [List.find?_cons_of_neg (by simpa using fun z => q z.symm)]; rfl
    rw [h', if_neg q, Option.or_none]
theorem entO_snoc {l : List (Nat × RL)} {is : List Addr} (h : is.length = l.length) (f : Nat) (rl : RL) (q : Addr) : entO (l ++ [(f, rl)]) (is ++ [q]) = entO l is ++ [(.inl (f : Int), .ref q)] := by
  unfold entO
  rw [List.zip_append h.symm, List.map_append]; rfl
def spOffer (C : Addr) : Sp := fun vs H Q _ => ∃ P x a s, ∃ e f o n : Nat, ∃ b : Bool, vs = [.ref x, .int (e : Int), .int (f : Int), .int (o : Int), rV b] ∧ Fr C P H x a s ∧ e < 4 ∧ f < s.m ∧ o < 4 ∧ n ≤ 1000 ∧ OB n s.of ∧
  (o = e ∨ inclO (getR (s.rt.getD e []) f) (some b) = false → Q (.bl false) H) ∧
  (o ≠ e → inclO (getR (s.rt.getD e []) f) (some b) = true → ∀ a' of' H', Fr C (fun b => P b ∨ H b = none) H' x a' { s with of := of' } → (∀ e' f' o', offN of' e' f' o' = if e' = e ∧ f' = f ∧ o' = o then some b else offN s.of e' f' o') → OB (n + 1) of' → ChgP P H H' → Q (.bl true) H')
section
variable {P : Program} {w : World} {K : PySem.W.Frag} {mg : Str → Option Value} {base : Heap} {C_Frames C_Pages C_NotValid : Addr}
abbrev s_includes : Stmt := topS 17
abbrev ns_includes : List Str := ["held", "right"]
theorem sc_includes : FnScope ns_includes ["held", "right"] (defScope s_includes) := ⟨rfl, rfl, rfl, by decide +kernel, rfl, by decide +kernel, by decide +kernel⟩

theorem ok_includes {f : Addr} {fd : FuncData} (F : Fun K "includes" "includes" s_includes f fd) (T : Txt K mg C_Frames C_Pages C_NotValid) : FnOk P w K mg base CX0 1 f fd ["held", "right"] spIncl3 := by
  refine F.ok sc_includes (fun vs H Q E h => ?_) (fun cdv A outer s H vs Q E hr h => ?_)
  · obtain ⟨h, r, rfl, _⟩ := h
    rfl
  · obtain ⟨h, r, rfl, k⟩ := h
    refine ⟨_, (pss_cons (ps_if (pt_cmpR op_eq (pv 0) pe_str (nomark _)) (pss_one (ps_ret (pe_or (pe_cmpR op_eq (pv 1) pe_str (nomark _)) (pe_one (pe_cmpR op_eq (pv 1) pe_str (nomark _)))))) pss_nil)
  (pss_one (ps_ret (pe_and (pe_cmpR op_eq (pv 0) pe_str (nomark _)) (pe_one (pe_cmpR op_eq (pv 1) pe_str (nomark _))))))), ?_⟩
    rcases h with _ | (_ | _) <;> cases r <;> (walk_at "run"; exact k)
abbrev s_Frames_offer : Stmt := inClass (topS 19) 2
abbrev ns_Frames_offer : List Str := ["self", "environment", "frame", "other", "right"]
theorem sc_Frames_offer : FnScope ns_Frames_offer ["self", "environment", "frame", "other", "right"] (defScope s_Frames_offer) := ⟨rfl, rfl, rfl, by decide +kernel, rfl, by decide +kernel, by decide +kernel⟩

theorem ok_Frames_offer {f : Addr} {fd : FuncData} (F : Fun K "offer" "Frames.offer" s_Frames_offer f fd) (T : Txt K mg C_Frames C_Pages C_NotValid) (D_is_environment : Dfn P w K mg base CX0 4 "is_environment" ["value"] spEnv) (D_includes : Dfn P w K mg base CX0 1 "includes" ["held", "right"] spIncl3) (D_Frames_right : Mth P w K mg base CX0 5 C_Frames "right" ["self", "environment", "frame"] (spRight C_Frames)) : FnOk P w K mg base CX0 6 f fd ["self", "environment", "frame", "other", "right"] (spOffer C_Frames) := by
  have ho_Frames := T.o_Frames; have hn_Frames__words := T.n_Frames__words; have hn_Frames__shares := T.n_Frames__shares; have hn_Frames__rights := T.n_Frames__rights; have hn_Frames__offers := T.n_Frames__offers; have hn_Frames__asked := T.n_Frames__asked; have hn_Frames__ends_to_wait := T.n_Frames__ends_to_wait; have hn_Frames__taken := T.n_Frames__taken
  refine F.ok sc_Frames_offer (fun vs H Q E h => ?_) (fun cdv A outer s H vs Q E hr h => ?_)
  · obtain ⟨P', x, a, s', e, g, o, n, b, rfl, _⟩ := h
    rfl
  · obtain ⟨P', x, a, s', e, g, o, n, b, rfl, fr, e4, gm, o4, nz, ob, kn, ks⟩ := h
    have D_includes := D_includes.imp (sp' := spIncl) incl_imp
    refine ⟨_, (pss_cons (ps_if (PW.pt (pw_or (pt_not (pt_val (pe_dcall D_is_environment (hr.mono (by decide)) (by rfl) pass0 (pa_cons (pv 3) pa_nil)))) (pw_or1 (pt_cmpR op_eq (pv 3) (pv 1) (nomark _))))) (pss_one (ps_ret pe_bl)) pss_nil)
  (pss_cons (ps_if (pt_not (pt_val (pe_dcall D_includes (hr.mono (by decide)) (by rfl) pass0 (pa_cons (pe_dmeth (pv 0) D_Frames_right (hr.mono (by decide)) pass0 (pa_cons (pv 1) (pa_cons (pv 2) pa_nil))) (pa_cons (pv 4) pa_nil))))) (pss_one (ps_ret pe_bl)) pss_nil)
  (pss_cons (ps_dput (units1 hr) (pe_dsetd (pe_ix (kIxL K) (kFld K (pv 0) rfl) (pv 1) (fun _ _ => rfl)) (pv 2) pe_dnewK ⟨rfl, rfl, rfl, rfl⟩) (pv 3) (pv 4) rfl)
  (pss_one (ps_ret pe_bl))))), ?_⟩
    have h1 := fr.ins
    walk_at "ro"
    refine ⟨_, _, rfl, .int _, _, rfl, ?_⟩
    rw [isE_nat o4]
    refine iteF ?_
    walk_at "ro"
    refine iteD (fun q => ?_) (fun q => ?_)
    · walk_at "ro"
      exact kn (.inl (by injection q with q; omega))
    · have oe : o ≠ e := fun z => q (by rw [z])
      walk_at "ro"
      refine ⟨P', x, a, s', _, _, _, _, rfl, fr, .int _, .int _, ?_⟩
      rw [right_nat e4 gm]
      walk_at "ro"
      refine ⟨getR (s'.rt.getD e []) g, some b, rfl, _, rfl, ?_⟩
      cases ei : inclO (getR (s'.rt.getD e []) g) (some b) with
      | false =>
        refine iteT ?_
        walk_at "ro"
        exact kn (.inr ei)
      | true =>
        refine iteF ?_
        have ks := ks oe ei
        have h2 := fr.o
        have n4 : e < s'.of.length := by rw [fr.ok.of4]; exact e4
        have i4 : e < a.ids.length := by rw [fr.il]; exact n4
        have hi : a.ids[e]? = some a.ids[e] := List.getElem?_eq_getElem i4
        have hl : s'.of[e]? = some s'.of[e] := List.getElem?_eq_getElem n4
        have hz : (a.ids.zip s'.of)[e]? = some (a.ids[e], s'.of[e]) := List.getElem?_zip_eq_some.mpr ⟨hi, hl⟩
        obtain ⟨od, hod, hok, hoi⟩ := fr.os.at hz
        have hok : H od = some (.dK (entO s'.of[e] a.ids[e])) := hok
        obtain ⟨oz1, oz2⟩ := ob _ (List.mem_of_getElem? hl)
        have el : (entO s'.of[e] a.ids[e]).length ≤ s'.of[e].length := by
          unfold entO
          rw [List.length_map, List.length_zip]
          omega
        have odm : od ∈ a.own x := by unfold FA.own; exact List.mem_append_right _ (List.mem_append_right _ (List.mem_append_right _ (List.mem_append_left _ (List.mem_of_getElem? hod))))
        walk_at "ro"
        refine ⟨_, _, _, _, rfl, rfl, SqL.of h2, atC e rfl (by rw [List.getElem?_map, hod]; rfl), ?_⟩
        refine ⟨od, rfl, .inl ⟨_, .inl hok⟩, ?_⟩
        walk_at "ro"
        refine fun q hq => ?_
        have sq := Same.new (o := .dK []) hq
        have fr1 := (fr.same sq).mono (P' := fun b => P' b ∨ H b = none) fun b hb => .inl (fr.mine b hb)
        have c1 : ChgP P' H (upd H q (.dK [])) := ChgP.same sq
        refine ⟨_, .inl (g : Int), sq _ _ hok, rfl, by exact szt (by omega), fun v hv => ?_, fun hv => ?_⟩
        · rcases valO2 g hoi with ⟨j, i, rl, b1, b2, b3, b4, b5, b6⟩ | ⟨b1, _⟩
          rotate_left
          · rw [b1] at hv; cases hv
          rw [b1] at hv
          cases hv
          have rz : rl.length ≤ n := oz2 _ (List.mem_of_getElem? b4)
          walk_at "ro"
          refine ⟨i, _, rfl, DPut.k (k := .inl (o : Int)) (sq _ _ b5) (by unfold entR; rw [List.length_map]; exact szt (by omega)), ?_⟩
          rw [put_ent]
          have fr2 := fr1.setI hi hl b3 b4 (putR rl o b)
          have im : i ∈ a.own x := by unfold FA.own; exact List.mem_append_right _ (List.mem_append_right _ (List.mem_append_right _ (List.mem_append_right _ (List.mem_append_right _ (List.mem_flatten.mpr ⟨_, List.mem_of_getElem? hi, List.mem_of_getElem? b3⟩)))))
          walk_at "ro"
          refine ks _ _ _ fr2 (fun e' f' o' => ?_) (ob.set (by rw [List.length_set]; omega) fun p hp => ?_) (c1.upd (fr.mine i im))
          · rw [offN_set n4, b6]
            have eo : offN s'.of e f' o' = getR ((getO s'.of[e] f').getD []) o' := by
              unfold offN
              rw [List.getD_eq_getElem?_getD, hl]; rfl
            by_cases q1 : e' = e
            · subst q1
              rw [if_pos rfl]
              by_cases q2 : f' = g
              · subst q2
                rw [if_pos rfl]
                show getR (putR rl o b) o' = _
                rw [get_put, eo, b2]
                by_cases q3 : o' = o
                · rw [if_pos q3, if_pos ⟨rfl, rfl, q3⟩]
                · rw [if_neg q3, if_neg (fun z => q3 z.2.2)]; rfl
              · rw [if_neg q2, if_neg (fun z => q2 z.2.1), eo]
            · rw [if_neg q1, if_neg (fun z => q1 z.1)]
          · rcases List.mem_or_eq_of_mem_set hp with z | z
            · have := oz2 p z; omega
            · rw [z]
              have := putR_len rl o b
              show (putR rl o b).length ≤ n + 1
              omega
        · have hn : getO s'.of[e] g = none := by
            rcases valO2 g hoi with ⟨j, i, rl, b1, _⟩ | ⟨_, b2⟩
            · rw [hv] at b1; cases b1
            · exact b2
          have ep : putK (entO s'.of[e] a.ids[e]) (.inl (g : Int)) (.ref q) = entO (s'.of[e] ++ [(g, [])]) (a.ids[e] ++ [q]) := by
            rw [putK_new _ hv, entO_snoc hoi.1]
          rw [ep]
          have qn : q ∉ a.own x := fun z => fr.al _ z hq
          have pm := own_add (x := x) (p := q) hi
          have nd2 : (({ a with ids := a.ids.set e (a.ids[e] ++ [q]) } : FA).own x).Nodup := pm.nodup_iff.mpr (List.nodup_cons.mpr ⟨qn, fr.nd⟩)
          have hoi1 : Each (fun H i (p : Nat × RL) => RtD H i p.2) (upd H q (.dK [])) (a.ids[e] ++ [q]) (s'.of[e] ++ [(g, [])]) := (hoi.same fun _ _ r => sq _ _ r).snoc (show (upd H q (.dK [])) q = _ from upd_same)
          have fr2 := fr1.setO (P' := fun b => P' b ∨ H b = none) hod (s'.of[e] ++ [(g, [])]) (a.ids[e] ++ [q]) hoi1 nd2 fun b hb => by
            rcases List.mem_cons.mp (pm.subset hb) with z | z
            · rw [z]; exact .inr hq
            · exact .inl (fr.mine b z)
          have c2 : ChgP P' H (upd (upd H q (.dK [])) od (.dK (entO (s'.of[e] ++ [(g, [])]) (a.ids[e] ++ [q])))) := c1.upd (fr.mine od odm)
          have hq2 : (upd (upd H q (.dK [])) od (.dK (entO (s'.of[e] ++ [(g, [])]) (a.ids[e] ++ [q])))) q = some (.dK (entR [])) := by
            rw [upd_ne (fun z => qn (by rw [z]; exact odm)), upd_same]; rfl
          generalize upd (upd H q (.dK [])) od (.dK (entO (s'.of[e] ++ [(g, [])]) (a.ids[e] ++ [q]))) = H2 at fr2 c2 hq2
          walk_at "ro"
          refine ⟨q, _, rfl, DPut.k (k := .inl (o : Int)) hq2 (by decide), ?_⟩
          rw [put_ent]
          have fr3 := fr2.setI (e := e) (j := s'.of[e].length) (f := g) (is := a.ids[e] ++ [q]) (l := s'.of[e] ++ [(g, [])]) (i := q) (rl := []) (List.getElem?_set_self i4) (List.getElem?_set_self n4) (by rw [← hoi.1]; exact List.getElem?_concat_length) List.getElem?_concat_length (putR [] o b)
          have e3 : (s'.of.set e (s'.of[e] ++ [(g, [])])).set e ((s'.of[e] ++ [(g, [])]).set s'.of[e].length (g, putR [] o b)) = s'.of.set e (s'.of[e] ++ [(g, [(o, b)])]) := by
            rw [List.set_set]
            congr 1
            rw [List.set_append_right _ _ (Nat.le_refl _), Nat.sub_self]; rfl
          have fr3 : Fr C_Frames (fun b => P' b ∨ H b = none) (upd H2 q (.dK (entR (putR [] o b)))) x { a with ids := a.ids.set e (a.ids[e] ++ [q]) } { s' with of := s'.of.set e (s'.of[e] ++ [(g, [(o, b)])]) } := by rw [← e3]; exact fr3
          have c3 : ChgP P' H (upd H2 q (.dK (entR (putR [] o b)))) := fun b' o' nb eb => by
            rw [upd_ne (ne_of_none eb hq)]
            exact c2 b' o' nb eb
          walk_at "ro"
          refine ks _ _ _ fr3 (fun e' f' o' => ?_) (ob.set (by rw [List.length_append]; show _ + 1 ≤ _; omega) fun p hp => ?_) c3
          · rw [offN_set n4, getO_snoc hn]
            have eo : offN s'.of e f' o' = getR ((getO s'.of[e] f').getD []) o' := by
              unfold offN
              rw [List.getD_eq_getElem?_getD, hl]; rfl
            by_cases q1 : e' = e
            · subst q1
              rw [if_pos rfl]
              by_cases q2 : f' = g
              · subst q2
                rw [if_pos rfl]
                show getR (putR [] o b) o' = _
                rw [get_put, eo, hn]
                by_cases q3 : o' = o
                · rw [if_pos q3, if_pos ⟨rfl, rfl, q3⟩]
                · rw [if_neg q3, if_neg (fun z => q3 z.2.2)]; rfl
              · rw [if_neg q2, if_neg (fun z => q2 z.2.1), eo]
            · rw [if_neg q1, if_neg (fun z => q1 z.1)]
          · rcases List.mem_append.mp hp with z | z
            · have := oz2 p z; omega
            · rw [List.mem_singleton.mp z]
              show 1 ≤ n + 1
              omega
end
end My

namespace My
open PySem L2
local macro_rules | `(tactic| walk_at "ne") => `(tactic| first | assumption | exact Ne.symm (by assumption) | exact ne_of_none (by assumption) (by assumption) | exact Ne.symm (ne_of_none (by assumption) (by assumption)))
local macro_rules | `(tactic| walk_at "hp") => `(tactic| first | assumption | with_reducible exact upd_same | (with_reducible refine Eq.trans (upd_ne ?_) ?_; rotate_left; walk_at "hp"; walk_at "ne"))
local macro_rules | `(tactic| walk_at "cnd") => `(tactic| first | omega | (show (0 : Int) < _; omega) | exact ⟨by omega, by omega⟩ | exact Or.inl ⟨by omega, by omega⟩ | exact Or.inr ⟨by omega, by omega⟩ | exact ⟨by omega, by omega, by decide⟩ | exact ⟨by omega, by omega, by omega⟩)
local macro_rules | `(tactic| walk_at "at") => `(tactic| first | exact atC 0 rfl rfl | exact atC 1 rfl rfl | exact atC 2 rfl rfl | exact atC 3 rfl rfl | exact atC 4 rfl rfl | exact atC 5 rfl rfl | exact atC 6 rfl rfl | exact atC 7 rfl rfl)
local macro_rules | `(tactic| walk_at "ix") => `(tactic| first | exact ixC 0 rfl (Nat.le_of_ble_eq_true rfl) | exact ixC 1 rfl (Nat.le_of_ble_eq_true rfl) | exact ixC 2 rfl (Nat.le_of_ble_eq_true rfl) | exact ixC 3 rfl (Nat.le_of_ble_eq_true rfl) | exact ixC 4 rfl (Nat.le_of_ble_eq_true rfl) | exact ixC 5 rfl (Nat.le_of_ble_eq_true rfl))
local macro_rules | `(tactic| walk_at "st") => `(tactic| first
  | refine ⟨_, rfl, ?_⟩
  | refine ⟨_, _, rfl, rfl, (by walk_at "cnd" : (_ : Prop)), ?_⟩
  | refine ⟨_, _, rfl, rfl, ?_⟩
  | refine ⟨rfl, ?_⟩
  | refine Or.inl ⟨_, rfl, ?_⟩
  | refine ⟨_, _, _, _, rfl, rfl, by exact SqL.of (by walk_at "hp"), by walk_at "at", ?_⟩
  | refine ⟨_, _, _, _, rfl, rfl, by exact SqT.of (by walk_at "hp"), by walk_at "at", ?_⟩
  | refine ⟨_, _, _, _, rfl, rfl, by walk_at "hp", by walk_at "ix", ?_⟩
  | refine ⟨_, _, rfl, Or.inl (by exact SqL.of (by walk_at "hp")), ?_⟩
  | refine ⟨_, _, rfl, Or.inr (by exact SqT.of (by walk_at "hp")), ?_⟩)
local macro_rules | `(tactic| walk_at "so") => `(tactic| first
  | refine ⟨_, _, _, _, _, rfl, by walk_at "hp", by assumption, by assumption, rfl, ?_⟩
  | refine ⟨_, _, _, _, rfl, by walk_at "hp", by assumption, by assumption, Nat.le_of_ble_eq_true rfl, ?_⟩
  | refine ⟨_, _, _, rfl, by walk_at "hp", rfl, ?_⟩
  | walk_at "st")
local macro_rules | `(tactic| walk_at "ro") => `(tactic| repeat walk_at "so")
local macro_rules | `(tactic| walk_at "run") => `(tactic| repeat walk_at "st")

def spAccept (C : Addr) : Sp := fun vs H Q _ => ∃ P x a s, ∃ e f o : Nat, vs = [.ref x, .int (e : Int), .int (f : Int), .int (o : Int)] ∧ Fr C P H x a s ∧ e < 4 ∧ f < s.m ∧ o < 4 ∧ (s.rt.getD e []).length ≤ 1000 ∧
  (inclO (getR (s.rt.getD o []) f) (offN s.of o f e) = false ∨ getR (s.rt.getD e []) f ≠ none ∨ moreOf s (eD e) = false → ∀ H', Same H H' → Q (.bl false) H') ∧
  (∀ b, offN s.of o f e = some b → inclO (getR (s.rt.getD o []) f) (some b) = true → getR (s.rt.getD e []) f = none → moreOf s (eD e) = true → ∀ of' H', Fr C P H' x a { s with of := of', rt := s.rt.set e (s.rt.getD e [] ++ [(f, b)]) } → (∀ e' f' o', offN of' e' f' o' = if e' = o ∧ f' = f ∧ o' = e then none else offN s.of e' f' o') → (∀ n, OB n s.of → OB n of') → ChgP P H H' → Q (.bl true) H')
theorem off_nat {s : FS} {e f o : Nat} (he : e < 4) (hf : f < s.m) (ho : o < 4) : offOf s (.int (o : Int)) (.int (f : Int)) (.int (e : Int)) = offN s.of o f e := by
  unfold offOf
  rw [if_pos ⟨isE_nat ho, isE_nat he, isF_nat hf⟩]; rfl
section
variable {P : Program} {w : World} {K : PySem.W.Frag} {mg : Str → Option Value} {base : Heap} {C_Frames C_Pages C_NotValid : Addr}
abbrev s_Frames_accept : Stmt := inClass (topS 19) 3
abbrev ns_Frames_accept : List Str := ["self", "environment", "frame", "owner", "right"]
theorem sc_Frames_accept : FnScope ns_Frames_accept ["self", "environment", "frame", "owner"] (defScope s_Frames_accept) := ⟨rfl, rfl, rfl, by decide +kernel, rfl, by decide +kernel, by decide +kernel⟩

theorem ok_Frames_accept {f : Addr} {fd : FuncData} (F : Fun K "accept" "Frames.accept" s_Frames_accept f fd) (T : Txt K mg C_Frames C_Pages C_NotValid) (D_Frames_offered : Mth P w K mg base CX0 5 C_Frames "_offered" ["self", "owner", "frame", "other"] (spOff C_Frames)) (D_includes : Dfn P w K mg base CX0 1 "includes" ["held", "right"] spIncl3) (D_Frames_right : Mth P w K mg base CX0 5 C_Frames "right" ["self", "environment", "frame"] (spRight C_Frames)) (D_Frames_may_hold_more : Mth P w K mg base CX0 8 C_Frames "_may_hold_more" ["self", "environment"] (spMore C_Frames)) : FnOk P w K mg base CX0 9 f fd ["self", "environment", "frame", "owner"] (spAccept C_Frames) := by
  have ho_Frames := T.o_Frames; have hn_Frames__words := T.n_Frames__words; have hn_Frames__shares := T.n_Frames__shares; have hn_Frames__rights := T.n_Frames__rights; have hn_Frames__offers := T.n_Frames__offers; have hn_Frames__asked := T.n_Frames__asked; have hn_Frames__ends_to_wait := T.n_Frames__ends_to_wait; have hn_Frames__taken := T.n_Frames__taken
  refine F.ok sc_Frames_accept (fun vs H Q E h => ?_) (fun cdv A outer s H vs Q E hr h => ?_)
  · obtain ⟨P', x, a, s', e, g, o, rfl, _⟩ := h
    rfl
  · obtain ⟨P', x, a, s', e, g, o, rfl, fr, e4, gm, o4, hz, kn, ks⟩ := h
    have D_includes := D_includes.imp (sp' := spIncl) incl_imp
    refine ⟨_, (pss_cons (ps_set (i := 4) sc_Frames_accept.nd rfl (Or.inl rfl) (pe_dmeth (pv 0) D_Frames_offered (hr.mono (by decide)) pass0 (pa_cons (pv 3) (pa_cons (pv 2) (pa_cons (pv 1) pa_nil)))))
  (pss_cons (ps_if (pt_not (pt_val (pe_dcall D_includes (hr.mono (by decide)) (by rfl) pass0 (pa_cons (pe_dmeth (pv 0) D_Frames_right (hr.mono (by decide)) pass0 (pa_cons (pv 3) (pa_cons (pv 2) pa_nil))) (pa_cons (pv 4) pa_nil))))) (pss_one (ps_ret pe_bl)) pss_nil)
  (pss_cons (ps_if (PW.pt (pw_or (pt_cmpR op_notN (pe_dmeth (pv 0) D_Frames_right (hr.mono (by decide)) pass0 (pa_cons (pv 1) (pa_cons (pv 2) pa_nil))) pe_non (nomark _)) (pw_or1 (pt_not (pt_val (pe_dmeth (pv 0) D_Frames_may_hold_more (hr.mono (by decide)) pass0 (pa_cons (pv 1) pa_nil))))))) (pss_one (ps_ret pe_bl)) pss_nil)
  (pss_cons (ps_ddel (pe_dget (units1 hr) (pe_ix (kIxL K) (kFld K (pv 0) rfl) (pv 3) (fun _ _ => rfl)) (pv 2) (fun _ _ => rfl)) (pv 1))
  (pss_cons (ps_dput (units1 hr) (pe_ix (kIxL K) (kFld K (pv 0) rfl) (pv 1) (fun _ _ => rfl)) (pv 2) (pv 4) rfl)
  (pss_one (ps_ret pe_bl))))))), ?_⟩
    have h1 := fr.ins
    walk_at "ro"
    refine ⟨P', x, a, s', _, _, _, _, _, _, rfl, fr, .int _, .int _, .int _, fun H1 s1 => ?_⟩
    rw [off_nat e4 gm o4]
    have h11 := s1 _ _ h1
    have fr1 := fr.same s1
    walk_at "ro"
    refine ⟨P', x, a, s', _, _, _, _, rfl, fr1, .int _, .int _, ?_⟩
    rw [right_nat o4 gm]
    walk_at "ro"
    refine ⟨getR (s'.rt.getD o []) g, offN s'.of o g e, rfl, _, rfl, ?_⟩
    cases ei : inclO (getR (s'.rt.getD o []) g) (offN s'.of o g e) with
    | false =>
      refine iteT ?_
      walk_at "ro"
      exact kn (.inl ei) _ s1
    | true =>
      refine iteF ?_
      cases eo : offN s'.of o g e with
      | none =>
        exfalso
        rw [eo] at ei
        revert ei
        cases getR (s'.rt.getD o []) g with
        | none => intro z; cases z
        | some b => cases b <;> (intro z; cases z)
      | some b =>
        rw [eo] at ei
        walk_at "ro"
        refine ⟨P', x, a, s', _, _, _, _, rfl, fr1, .int _, .int _, ?_⟩
        rw [right_nat e4 gm]
        cases er : getR (s'.rt.getD e []) g with
        | some c =>
          have kn := kn (.inr (.inl (by rw [er]; intro z; cases z)))
          cases c <;> (walk_at "ro"; exact kn _ s1)
        | none =>
          walk_at "ro"
          refine ⟨P', x, a, s', _, _, rfl, fr1, .int _, fun H2 s2 => ?_⟩
          refine ⟨_, rfl, ?_⟩
          have s02 := s1.trans s2
          have fr2 := fr.same s02
          cases em : moreOf s' (eD e) with
          | false =>
            have em' : moreOf s' (.int (e : Int)) = false := em
            rw [em']
            refine iteT ?_
            walk_at "ro"
            exact kn (.inr (.inr em)) _ s02
          | true =>
            have em' : moreOf s' (.int (e : Int)) = true := em
            rw [em']
            refine iteF ?_
            have ks := ks b eo ei er em
            have h12 := fr2.ins
            have h2 := fr2.o
            have n4 : o < s'.of.length := by rw [fr.ok.of4]; exact o4
            have i4 : o < a.ids.length := by rw [fr.il]; exact n4
            have hi : a.ids[o]? = some a.ids[o] := List.getElem?_eq_getElem i4
            have hl : s'.of[o]? = some s'.of[o] := List.getElem?_eq_getElem n4
            have hzz : (a.ids.zip s'.of)[o]? = some (a.ids[o], s'.of[o]) := List.getElem?_zip_eq_some.mpr ⟨hi, hl⟩
            obtain ⟨od, hod, hok, hoi⟩ := fr2.os.at hzz
            have hok : H2 od = some (.dK (entO s'.of[o] a.ids[o])) := hok
            have eof : ∀ f' o', offN s'.of o f' o' = getR ((getO s'.of[o] f').getD []) o' := fun f' o' => by
              unfold offN
              rw [List.getD_eq_getElem?_getD, hl]; rfl
            rcases valO2 g hoi with ⟨j, i, rl, b1, b2, b3, b4, b5, b6⟩ | ⟨_, b2⟩
            rotate_left
            · exfalso
              rw [eof, b2] at eo
              cases eo
            have er2 : getR rl e = some b := by
              rw [eof, b2] at eo
              exact eo
            walk_at "ro"
            refine ⟨_, _, _, _, rfl, rfl, SqL.of h2, atC o rfl (by rw [List.getElem?_map, hod]; rfl), ?_⟩
            walk_at "ro"
            refine ⟨od, .ref i, rfl, by rw [← b1]; exact DGet.k (k := .inl (g : Int)) hok, ?_⟩
            walk_at "ro"
            refine ⟨i, _, .inl (e : Int), rfl, b5, rfl, ?_, ?_⟩
            · rw [valR, er2]; rfl
            rw [drop_entR]
            have fr3 := fr2.setI hi hl b3 b4 (dropR rl e)
            have im : i ∈ a.own x := by unfold FA.own; exact List.mem_append_right _ (List.mem_append_right _ (List.mem_append_right _ (List.mem_append_right _ (List.mem_append_right _ (List.mem_flatten.mpr ⟨_, List.mem_of_getElem? hi, List.mem_of_getElem? b3⟩)))))
            have c3 : ChgP P' H (upd H2 i (.dK (entR (dropR rl e)))) := (ChgP.same s02).upd (fr.mine i im)
            generalize upd H2 i (.dK (entR (dropR rl e))) = H3 at fr3 c3
            have h13 := fr3.ins
            have h3r := fr3.r
            have r4 : e < s'.rt.length := by rw [fr.ok.rt4]; exact e4
            obtain ⟨dd, hdd, hdk⟩ := fr3.rs.at (List.getElem?_eq_getElem r4)
            have eg : s'.rt.getD e [] = s'.rt[e] := by rw [List.getD_eq_getElem?_getD, List.getElem?_eq_getElem r4]; rfl
            have hdk : H3 dd = some (.dK (entR s'.rt[e])) := hdk
            walk_at "ro"
            refine ⟨_, _, _, _, rfl, rfl, SqL.of h3r, atC e rfl (by rw [List.getElem?_map, hdd]; rfl), ?_⟩
            walk_at "ro"
            refine ⟨dd, _, rfl, DPut.k (k := .inl (g : Int)) hdk (by unfold entR; rw [List.length_map, ← eg]; exact szt (by omega)), ?_⟩
            have ep : putK (entR s'.rt[e]) (.inl (g : Int)) (optR (some b)) = entR (s'.rt.getD e [] ++ [(g, b)]) := by
              rw [← putR_new b er, ← put_ent, eg]; rfl
            rw [ep]
            have fr4 := fr3.setR hdd (s'.rt.getD e [] ++ [(g, b)])
            have ddm : dd ∈ a.own x := by unfold FA.own; exact List.mem_append_right _ (List.mem_append_right _ (List.mem_append_left _ (List.mem_of_getElem? hdd)))
            walk_at "ro"
            refine ks _ _ fr4 (fun e' f' o' => ?_) (fun n ob => ?_) (c3.upd (fr.mine dd ddm))
            · rw [offN_set n4, b6]
              by_cases q1 : e' = o
              · subst q1
                rw [if_pos rfl]
                by_cases q2 : f' = g
                · subst q2
                  rw [if_pos rfl]
                  show getR (dropR rl e) o' = _
                  rw [get_drop, eof, b2]
                  by_cases q3 : o' = e
                  · rw [if_pos q3, if_pos ⟨rfl, rfl, q3⟩]
                  · rw [if_neg q3, if_neg (fun z => q3 z.2.2)]; rfl
                · rw [if_neg q2, if_neg (fun z => q2 z.2.1), eof]
              · rw [if_neg q1, if_neg (fun z => q1 z.1)]
            · obtain ⟨oz1, oz2⟩ := ob _ (List.mem_of_getElem? hl)
              refine ob.set0 (by rw [List.length_set]; exact oz1) fun p hp => ?_
              rcases List.mem_or_eq_of_mem_set hp with z | z
              · exact oz2 p z
              · rw [z]
                exact Nat.le_trans (dropR_len rl e) (oz2 _ (List.mem_of_getElem? b4))
end
end My

namespace My
open PySem L2
local macro_rules | `(tactic| walk_at "ne") => `(tactic| first | assumption | exact Ne.symm (by assumption) | exact ne_of_none (by assumption) (by assumption) | exact Ne.symm (ne_of_none (by assumption) (by assumption)))
local macro_rules | `(tactic| walk_at "hp") => `(tactic| first | assumption | with_reducible exact upd_same | (with_reducible refine Eq.trans (upd_ne ?_) ?_; rotate_left; walk_at "hp"; walk_at "ne"))
local macro_rules | `(tactic| walk_at "cnd") => `(tactic| first | omega | (show (0 : Int) < _; omega) | exact ⟨by omega, by omega⟩ | exact Or.inl ⟨by omega, by omega⟩ | exact Or.inr ⟨by omega, by omega⟩ | exact ⟨by omega, by omega, by decide⟩ | exact ⟨by omega, by omega, by omega⟩)
local macro_rules | `(tactic| walk_at "at") => `(tactic| first | exact atC 0 rfl rfl | exact atC 1 rfl rfl | exact atC 2 rfl rfl | exact atC 3 rfl rfl | exact atC 4 rfl rfl | exact atC 5 rfl rfl | exact atC 6 rfl rfl | exact atC 7 rfl rfl)
local macro_rules | `(tactic| walk_at "ix") => `(tactic| first | exact ixC 0 rfl (Nat.le_of_ble_eq_true rfl) | exact ixC 1 rfl (Nat.le_of_ble_eq_true rfl) | exact ixC 2 rfl (Nat.le_of_ble_eq_true rfl) | exact ixC 3 rfl (Nat.le_of_ble_eq_true rfl) | exact ixC 4 rfl (Nat.le_of_ble_eq_true rfl) | exact ixC 5 rfl (Nat.le_of_ble_eq_true rfl))
local macro_rules | `(tactic| walk_at "st") => `(tactic| first
  | refine ⟨_, rfl, ?_⟩
  | refine ⟨_, _, rfl, rfl, (by walk_at "cnd" : (_ : Prop)), ?_⟩
  | refine ⟨_, _, rfl, rfl, ?_⟩
  | refine ⟨rfl, ?_⟩
  | refine Or.inl ⟨_, rfl, ?_⟩
  | refine ⟨_, _, _, _, rfl, rfl, by exact SqL.of (by walk_at "hp"), by walk_at "at", ?_⟩
  | refine ⟨_, _, _, _, rfl, rfl, by exact SqT.of (by walk_at "hp"), by walk_at "at", ?_⟩
  | refine ⟨_, _, _, _, rfl, rfl, by walk_at "hp", by walk_at "ix", ?_⟩
  | refine ⟨_, _, rfl, Or.inl (by exact SqL.of (by walk_at "hp")), ?_⟩
  | refine ⟨_, _, rfl, Or.inr (by exact SqT.of (by walk_at "hp")), ?_⟩)
local macro_rules | `(tactic| walk_at "so") => `(tactic| first
  | refine ⟨_, _, _, _, _, rfl, by walk_at "hp", by assumption, by assumption, rfl, ?_⟩
  | refine ⟨_, _, _, _, rfl, by walk_at "hp", by assumption, by assumption, Nat.le_of_ble_eq_true rfl, ?_⟩
  | refine ⟨_, _, _, rfl, by walk_at "hp", rfl, ?_⟩
  | walk_at "st")
local macro_rules | `(tactic| walk_at "ro") => `(tactic| repeat walk_at "so")
local macro_rules | `(tactic| walk_at "run") => `(tactic| repeat walk_at "st")

/-! ### a row of new things of one kind -/
section
variable {K : PySem.W.Frag} {g : TG} {te : TE} {vs : List Nat} {σ : L2.St} {H : Hp} {D : Addr} {Qd : Hp → Prop}
theorem lcRow {lo : Int} {n : Nat} {ob : HO} (hz : n < 100000) (hD : H D = none)
    (step : ∀ (j : Nat) (H1 : Hp) (Q' : VK), Same H H1 → (∀ q H2, H1 q = none → Same H1 H2 → H2 q = some ob → Q' (.ref q) H2) → g (.int (lo + j)) (wipe σ vs) H1 fun σ2 H2 => wipe σ2 vs = wipe σ vs ∧ te σ2 H2 Q')
    (k : ∀ H1 (ws : List Addr), Same H H1 → H1 D = some (.lst (ws.map V.ref)) → ws.length = n → (∀ w ∈ ws, H1 w = some ob ∧ H w = none ∧ w ≠ D) → ws.Nodup → Qd H1) :
    ∃ W : Nat → Nat → Hp → Prop, (∃ m, W 0 m (upd H D (.lst []))) ∧ ∀ i m H, W i m H →
      ((Itr lo n).stop i H ∧ Qd H) ∨ ((Itr lo n).go i H ∧ ∃ Nx : Hp → Prop, (∀ H', Nx H' → ∃ m', m' < m ∧ W (i + 1) m' H') ∧ ∀ x H', (Itr lo n).yld i H x H' → g x (wipe σ vs) H' fun σ2 H2 => wipe σ2 vs = wipe σ vs ∧ tYes σ2 H2 fun b H3 =>
        if b = true then te σ2 H3 fun y H4 => ∃ acc, H4 D = some (.lst acc) ∧ acc.length < sizeLine ∧ Nx (upd H4 D (.lst (acc ++ [y]))) else Nx H3) := by
  refine lc_range (fun i H1 => ∃ ws : List Addr, Same H H1 ∧ H1 D = some (.lst (ws.map V.ref)) ∧ ws.length = i ∧ (∀ w ∈ ws, H1 w = some ob ∧ H w = none ∧ w ≠ D) ∧ ws.Nodup) ⟨[], Same.new hD, upd_same, rfl, fun w hw => (by cases hw), List.nodup_nil⟩ ?_ ?_
  · rintro i H1 hi ⟨ws, s1, d1, l1, a1, n1⟩
    refine step i H1 _ s1 fun q H2 hq s2 hb => ?_
    have qD : q ≠ D := fun z => by rw [z, d1] at hq; cases hq
    refine ⟨_, s2 _ _ d1, by rw [List.length_map, l1]; exact szt (by omega), ws ++ [q], Same.mut (s1.trans s2) hD, by rw [upd_same, List.map_append]; rfl, by rw [List.length_append, l1]; rfl, fun w hw => ?_, ?_⟩
    · rcases List.mem_append.mp hw with z | z
      · obtain ⟨b1, b2, b3⟩ := a1 w z
        exact ⟨by rw [upd_ne b3]; exact s2 _ _ b1, b2, b3⟩
      · rw [List.mem_singleton.mp z]
        refine ⟨by rw [upd_ne qD]; exact hb, ?_, qD⟩
        cases y : H q with
        | none => rfl
        | some o => rw [s1 _ _ y] at hq; cases hq
    · refine List.nodup_append.mpr ⟨n1, by simp, fun a ha b hb z => ?_⟩
      rw [List.mem_singleton.mp hb] at z
      rw [← z, (a1 a ha).1] at hq
      cases hq
  · rintro H1 ⟨ws, s1, d1, l1, a1, n1⟩
    exact k H1 ws s1 d1 l1 a1 n1
end
theorem nd_app {l1 l2 : List Addr} {H : Hp} (n1 : l1.Nodup) (n2 : l2.Nodup) (a1 : ∀ b ∈ l1, H b ≠ none) (a2 : ∀ b ∈ l2, H b = none) : (l1 ++ l2).Nodup :=
  List.nodup_append.mpr ⟨n1, n2, fun a ha b hb z => a1 a ha (by rw [z]; exact a2 b hb)⟩
theorem al_chg {x : Addr} {L : List Addr} {H H' : Hp} (a : ∀ b ∈ L, H b ≠ none) (c : Chg x H H') (hx : H' x ≠ none) : ∀ b ∈ L, H' b ≠ none := by
  intro b hb
  by_cases z : b = x
  · rw [z]; exact hx
  · cases y : H b with
    | none => exact absurd y (a b hb)
    | some o => rw [c b o z y]; exact fun q => by cases q
theorem al_app {L M : List Addr} {H : Hp} (a : ∀ b ∈ L, H b ≠ none) (a2 : ∀ b ∈ M, H b ≠ none) : ∀ b ∈ L ++ M, H b ≠ none := fun b hb => (List.mem_append.mp hb).elim (a b) (a2 b)
theorem none_back {x b : Addr} {H H' : Hp} (c : Chg x H H') (n : b ≠ x) (h : H' b = none) : H b = none := by
  cases y : H b with
  | none => rfl
  | some o => rw [c b o n y] at h; cases h
theorem cons_none {D : Addr} {ws : List Addr} {H : Hp} (h : H D = none) (a : ∀ w ∈ ws, H w = none) : ∀ b ∈ D :: ws, H b = none := fun b hb => (List.mem_cons.mp hb).elim (fun z => by rw [z]; exact h) (a b)
theorem own_perm (x W S R O A E T : Addr) (wds rds ods tks : List Addr) : ([x, W, S, R, O, A, E, T] ++ (wds ++ (rds ++ (ods ++ (tks ++ ([] : List Addr)))))).Perm (((((((([x] ++ (W :: wds)) ++ [S]) ++ (R :: rds)) ++ (O :: ods)) ++ [A]) ++ [E]) ++ (T :: tks))) := by
  refine List.perm_iff_count.mpr fun b => ?_
  simp only [List.count_append, List.count_cons, List.count_nil]
  omega
def spShares : Sp := fun vs H Q _ => ∃ (l : Addr) (ns : List Nat), vs = [.ref l] ∧ NsL H l ns ∧ ns.length = 4 ∧ ∀ H', Same H H' → Q (.bl true) H'
def initS (m : Nat) (sh : List Nat) : FS := ⟨m, sh, List.replicate 4 0, List.replicate 4 0, List.replicate 4 [], List.replicate 4 [], List.replicate 4 [], List.replicate m (List.replicate 8 0)⟩
def spInitF (C : Addr) : Sp := fun vs H Q _ => ∃ (x dx l : Addr) (m : Nat) (sh : List Nat), vs = [.ref x, .int (m : Int), .ref l] ∧ H x = some (.ins C dx []) ∧ NsL H l sh ∧ sh.length = 4 ∧ 8 ≤ m ∧ m ≤ 64 ∧ sh.sum ≤ m ∧
  ∀ a H', Fr C (fun b => b = x ∨ H b = none) H' x a (initS m sh) → Chg x H H' → Q .non H'
section
variable {P : Program} {w : World} {K : PySem.W.Frag} {mg : Str → Option Value} {base : Heap} {C_Frames C_Pages C_NotValid : Addr}
abbrev s_are_shares : Stmt := topS 18
abbrev ns_are_shares : List Str := ["value", "share"]
theorem sc_are_shares : FnScope ns_are_shares ["value"] (defScope s_are_shares) := ⟨rfl, rfl, rfl, by decide +kernel, rfl, by decide +kernel, by decide +kernel⟩

theorem ok_are_shares {f : Addr} {fd : FuncData} (F : Fun K "are_shares" "are_shares" s_are_shares f fd) (T : Txt K mg C_Frames C_Pages C_NotValid) (D_is_at_least : Dfn P w K mg base CX0 1 "is_at_least" ["value", "least"] spGe) : FnOk P w K mg base CX0 2 f fd ["value"] spShares := by
  refine F.ok sc_are_shares (fun vs H Q E h => ?_) (fun cdv A outer s H vs Q E hr h => ?_)
  · obtain ⟨l, ns, rfl, _⟩ := h
    rfl
  · obtain ⟨l, ns, rfl, hl, n4, k⟩ := h
    have hl : H l = some (.lst (ns.map vN)) := hl
    refine ⟨_, (pss_cons (ps_if (PW.pt (pw_or (pt_not (pt_val (pe_callB (kIsi K) (by rfl) T.b_isinstance (by decide +kernel) (pa_cons (pv 0) (pa_cons (pe_bltn (v := .ty "list") (by rfl) T.b_list (by decide +kernel) rfl) pa_nil))))) (pw_or1 (pt_cmpR op_ne (pe_callB (kLen K) (by rfl) T.b_len (by decide +kernel) (pa_cons (pv 0) pa_nil)) (pe_gint (by rfl) T.c_ENVIRONMENTS) (nomark _))))) (pss_one (ps_ret pe_bl)) pss_nil)
  (pss_one (ps_ret (pe_callB (kAll K rfl) (by rfl) T.b_all (by decide +kernel) (pa_cons (pe_lc (own := [("share", 1)]) (by rfl) sc_are_shares.nd (kpiL K (pv 0)) (blkOk_by (N := ns_are_shares) (sc := defScope s_are_shares) (by decide +kernel)) (fun _ _ _ _ _ => (pg_name (i := 1) sc_are_shares.nd rfl (Or.inl rfl))) (fun _ _ _ _ _ => pts_nil) (fun _ _ _ _ _ => (pe_dcall D_is_at_least (hr.mono (by decide)) (by rfl) pass0 (pa_cons (pv 1) (pa_cons pe_int pa_nil))))) pa_nil))))), ?_⟩
    walk_at "ro"
    refine ⟨_, _, _, _, _, rfl, .ty _, .base (.lst hl), kit_ty (by decide +kernel : kitB "list" "list" = some true), _, rfl, ?_⟩
    refine iteF ?_
    walk_at "ro"
    refine iteDn (fun q => absurd (by rw [List.length_map, n4]; rfl) q) (fun _ => ?_)
    walk_at "ro"
    refine ⟨⟨_, SqL.of hl⟩, fun D hD => ?_⟩
    refine lcL (xs := ns.map vN) ((List.replicate 4 true).map V.bl) (by simp [n4]) (by rw [List.length_map, n4]; decide) hl hD ?_ ?_
    · intro j y z H2 Q' hy hz s2 q
      have hj : j < ns.length := by
        have := (List.getElem?_eq_some_iff.mp hy).1
        rw [List.length_map] at this
        exact this
      have ey : y = .int ((ns[j] : Nat) : Int) := by
        rw [List.getElem?_map, List.getElem?_eq_getElem hj] at hy
        exact (Option.some.inj hy).symm
      have ez : z = .bl true := by
        rw [List.map_replicate] at hz
        obtain ⟨h1, h2⟩ := List.getElem?_eq_some_iff.mp hz
        rw [← h2, List.getElem_replicate]
      subst ey ez
      refine ⟨rfl, ?_⟩
      walk_at "ro"
      refine ⟨_, _, _, rfl, .int _, ?_⟩
      have : geI (.int ((ns[j] : Nat) : Int)) 0 = true := by
        show decide ((0 : Int) ≤ ((ns[j] : Nat) : Int)) = true
        exact decide_eq_true (by omega)
      rw [this]
      exact q H2 (Same.refl _)
    · intro H2 s2 d2
      walk_at "ro"
      refine ⟨D, _, rfl, SqL.of d2, ?_⟩
      exact k _ s2
abbrev s_Frames_init : Stmt := inClass (topS 19) 0
abbrev ns_Frames_init : List Str := ["self", "many", "shares", "_"]
theorem sc_Frames_init : FnScope ns_Frames_init ["self", "many", "shares"] (defScope s_Frames_init) := ⟨rfl, rfl, rfl, by decide +kernel, rfl, by decide +kernel, by decide +kernel⟩

theorem ok_Frames_init {f : Addr} {fd : FuncData} (F : Fun K "__init__" "Frames.__init__" s_Frames_init f fd) (T : Txt K mg C_Frames C_Pages C_NotValid) (D_is_between : Dfn P w K mg base CX0 2 "is_between" ["value", "least", "most"] spBtw) (D_are_shares : Dfn P w K mg base CX0 2 "are_shares" ["value"] spShares) : FnOk P w K mg base (L2.CX P w) 3 f fd ["self", "many", "shares"] (spInitF C_Frames) := by
  have ho_Frames := T.o_Frames; have hn_Frames__words := T.n_Frames__words; have hn_Frames__shares := T.n_Frames__shares; have hn_Frames__rights := T.n_Frames__rights; have hn_Frames__offers := T.n_Frames__offers; have hn_Frames__asked := T.n_Frames__asked; have hn_Frames__ends_to_wait := T.n_Frames__ends_to_wait; have hn_Frames__taken := T.n_Frames__taken
  refine F.okX sc_Frames_init (fun vs H Q E h => ?_) (fun cdv A outer s H vs Q E hr h => ?_)
  · obtain ⟨x, dx, l, m, sh, rfl, _⟩ := h
    rfl
  · obtain ⟨x, dx, l, m, sh, rfl, hx, hl, sl, m8, m64, hs, k⟩ := h
    have hl : H l = some (.lst (sh.map vN)) := hl
    refine ⟨_, (pss_cons (ps_if (PW.pt (pw_or (pt_not (pt_val (pe_dcall D_is_between (hr.mono (by decide)) (by rfl) pass0 (pa_cons (pv 1) (pa_cons (pe_gint (by rfl) T.c__LEAST_FRAMES) (pa_cons (pe_gint (by rfl) T.c__MOST_FRAMES) pa_nil)))))) (pw_or1 (pt_not (pt_val (pe_dcall D_are_shares (hr.mono (by decide)) (by rfl) pass0 (pa_cons (pv 2) pa_nil))))))) (pss_one (ps_raise (by rfl) (takes_of rfl rfl rfl rfl) (pmk_x T.x_NotValid (by rfl)))) pss_nil)
  (pss_cons (ps_if (pt_cmpR op_gt (pe_callB (kSum K rfl) (by rfl) T.b_sum (by decide +kernel) (pa_cons (pv 2) pa_nil)) (pv 1) (nomark _)) (pss_one (ps_raise (by rfl) (takes_of rfl rfl rfl rfl) (pmk_x T.x_NotValid (by rfl)))) pss_nil)
  (pss_cons (kSFld K (pv 0) (pe_lc (own := [("_", 3)]) (by rfl) sc_Frames_init.nd (pi_range1 (by rfl) T.b_range (pa_cons (pv 1) pa_nil)) (blkOk_by (N := ns_Frames_init) (sc := defScope s_Frames_init) (by decide +kernel)) (fun _ _ _ _ _ => (pg_name (i := 3) sc_Frames_init.nd rfl (Or.inl rfl))) (fun _ _ _ _ _ => pts_nil) (fun _ _ _ _ _ => (pe_op op_rep (pe_lst (pa_cons pe_int pa_nil)) (pe_gint (by rfl) T.c_WORDS)))) rfl)
  (pss_cons (kSFld K (pv 0) (pe_callTy (kListOf K) (by rfl) T.b_list (by decide +kernel) (pa_cons (pv 2) pa_nil)) rfl)
  (pss_cons (kSFld K (pv 0) (pe_lc (own := [("_", 3)]) (by rfl) sc_Frames_init.nd (pi_range1 (by rfl) T.b_range (pa_cons (pe_gint (by rfl) T.c_ENVIRONMENTS) pa_nil)) (blkOk_by (N := ns_Frames_init) (sc := defScope s_Frames_init) (by decide +kernel)) (fun _ _ _ _ _ => (pg_name (i := 3) sc_Frames_init.nd rfl (Or.inl rfl))) (fun _ _ _ _ _ => pts_nil) (fun _ _ _ _ _ => pe_dnewK)) rfl)
  (pss_cons (kSFld K (pv 0) (pe_lc (own := [("_", 3)]) (by rfl) sc_Frames_init.nd (pi_range1 (by rfl) T.b_range (pa_cons (pe_gint (by rfl) T.c_ENVIRONMENTS) pa_nil)) (blkOk_by (N := ns_Frames_init) (sc := defScope s_Frames_init) (by decide +kernel)) (fun _ _ _ _ _ => (pg_name (i := 3) sc_Frames_init.nd rfl (Or.inl rfl))) (fun _ _ _ _ _ => pts_nil) (fun _ _ _ _ _ => pe_dnewK)) rfl)
  (pss_cons (kSFld K (pv 0) (pe_op op_rep (pe_lst (pa_cons pe_int pa_nil)) (pe_gint (by rfl) T.c_ENVIRONMENTS)) rfl)
  (pss_cons (kSFld K (pv 0) (pe_op op_rep (pe_lst (pa_cons pe_int pa_nil)) (pe_gint (by rfl) T.c_ENVIRONMENTS)) rfl)
  (pss_one (kSFld K (pv 0) (pe_lc (own := [("_", 3)]) (by rfl) sc_Frames_init.nd (pi_range1 (by rfl) T.b_range (pa_cons (pe_gint (by rfl) T.c_ENVIRONMENTS) pa_nil)) (blkOk_by (N := ns_Frames_init) (sc := defScope s_Frames_init) (by decide +kernel)) (fun _ _ _ _ _ => (pg_name (i := 3) sc_Frames_init.nd rfl (Or.inl rfl))) (fun _ _ _ _ _ => pts_nil) (fun _ _ _ _ _ => (pe_lst pa_nil))) rfl)))))))))), ?_⟩
    walk_at "ro"
    refine ⟨_, .int (m : Int), _, _, rfl, .int _, _, rfl, ?_⟩
    have eb : isI (.int (m : Int)) 8 64 = true := by
      show (decide ((8 : Int) ≤ (m : Int)) && decide ((m : Int) ≤ 64)) = true
      rw [decide_eq_true (by omega), decide_eq_true (by omega)]; rfl
    rw [eb]
    refine iteF ?_
    walk_at "ro"
    refine ⟨l, sh, rfl, hl, sl, fun H1 s1 => ⟨_, rfl, ?_⟩⟩
    refine iteF ?_
    have hl1 := s1 _ _ hl
    have hx1 := s1 _ _ hx
    walk_at "ro"
    refine ⟨l, sh.map fun n : Nat => (n : Int), rfl, SqL.of (by rw [vN_map]; exact hl1), ?_⟩
    rw [sum_nat]
    walk_at "ro"
    refine iteD (fun q => absurd q (by omega)) (fun _ => ?_)
    have c0 : Chg x H H1 := Same.chg s1
    walk_at "ro"
    -- words
    refine ⟨by omega, by omega, fun W hW => ?_⟩
    refine lcRow (ob := .lst ((List.replicate 8 0).map vN)) (by omega) hW ?_ ?_
    · intro j H2 Q' s2 q
      refine ⟨rfl, ?_⟩
      walk_at "ro"
      refine ⟨szl rfl, fun q1 hq1 => ?_⟩
      walk_at "ro"
      refine ⟨_, _, _, rfl, rfl, upd_same, by decide, by decide, by decide, fun q2 hq2 => ?_⟩
      refine q q2 _ ?_ ((Same.new hq1).trans (Same.new hq2)) upd_same
      cases z : H2 q2 with
      | none => rfl
      | some o =>
        have := (Same.new (o := .lst [V.int 0]) hq1) _ _ z
        rw [hq2] at this; cases this
    intro H2 wds s2 dW lw aw nw
    rw [Int.toNat_natCast] at lw
    have hx2 := s2 _ _ hx1
    have hl2 := s2 _ _ hl1
    have xl : l ≠ x := fun z => by rw [z, hx1] at hl1; cases hl1
    have xW : W ≠ x := fun z => by rw [z, hx1] at hW; cases hW
    have xw : ∀ b ∈ wds, b ≠ x := fun b hb z => by have := (aw b hb).2.1; rw [z, hx1] at this; cases this
    walk_at "ro"
    have k23 : Chg x H2 (upd H2 x (.ins C_Frames dx (putF "_words" (.ref W) []))) := Chg.upd
    have hx3 : (upd H2 x (.ins C_Frames dx (putF "_words" (.ref W) []))) x = some (.ins C_Frames dx [("_words", .ref W)]) := upd_same
    generalize upd H2 x (.ins C_Frames dx (putF "_words" (.ref W) [])) = H3 at k23 hx3 ⊢
    have c3 : Chg x H H3 := (c0.trans (Same.chg s2)).trans k23
    refine fun S hS => ?_
    have s4 : Same H3 (upd H3 S (.lst (sh.map vN))) := Same.new hS
    have dS : (upd H3 S (.lst (sh.map vN))) S = some (.lst (sh.map vN)) := upd_same
    have xS : S ≠ x := fun z => by rw [z, hx3] at hS; cases hS
    generalize upd H3 S (.lst (sh.map vN)) = H4 at s4 dS ⊢
    have hx4 := s4 _ _ hx3
    walk_at "ro"
    have k45 : Chg x H4 (upd H4 x (.ins C_Frames dx (putF "_shares" (.ref S) [("_words", .ref W)]))) := Chg.upd
    have hx5 : (upd H4 x (.ins C_Frames dx (putF "_shares" (.ref S) [("_words", .ref W)]))) x = some (.ins C_Frames dx [("_words", .ref W), ("_shares", .ref S)]) := upd_same
    generalize upd H4 x (.ins C_Frames dx (putF "_shares" (.ref S) [("_words", .ref W)])) = H5 at k45 hx5 ⊢
    have k35 : Chg x H3 H5 := (Same.chg s4).trans k45
    have c5 : Chg x H H5 := c3.trans k35
    refine ⟨by omega, by omega, fun R hR => ?_⟩
    refine lcRow (ob := .dK []) (by decide) hR ?_ ?_
    · intro j H2 Q' s2 q
      refine ⟨rfl, ?_⟩
      exact fun q1 hq1 => q q1 _ hq1 (Same.new hq1) upd_same
    intro H6 rds s6 dR lr ar nr
    have hx6 := s6 _ _ hx5
    have xR : R ≠ x := fun z => by rw [z, hx5] at hR; cases hR
    have xr : ∀ b ∈ rds, b ≠ x := fun b hb z => by have := (ar b hb).2.1; rw [z, hx5] at this; cases this
    walk_at "ro"
    have k67 : Chg x H6 (upd H6 x (.ins C_Frames dx (putF "_rights" (.ref R) [("_words", .ref W), ("_shares", .ref S)]))) := Chg.upd
    have hx7 : (upd H6 x (.ins C_Frames dx (putF "_rights" (.ref R) [("_words", .ref W), ("_shares", .ref S)]))) x = some (.ins C_Frames dx [("_words", .ref W), ("_shares", .ref S), ("_rights", .ref R)]) := upd_same
    generalize upd H6 x (.ins C_Frames dx (putF "_rights" (.ref R) [("_words", .ref W), ("_shares", .ref S)])) = H7 at k67 hx7 ⊢
    have k57 : Chg x H5 H7 := (Same.chg s6).trans k67
    have c7 : Chg x H H7 := c5.trans k57
    refine ⟨by omega, by omega, fun O hO => ?_⟩
    refine lcRow (ob := .dK []) (by decide) hO ?_ ?_
    · intro j H2 Q' s2 q
      refine ⟨rfl, ?_⟩
      exact fun q1 hq1 => q q1 _ hq1 (Same.new hq1) upd_same
    intro H8 ods s8 dO lo ao no
    have hx8 := s8 _ _ hx7
    have xO : O ≠ x := fun z => by rw [z, hx7] at hO; cases hO
    have xo : ∀ b ∈ ods, b ≠ x := fun b hb z => by have := (ao b hb).2.1; rw [z, hx7] at this; cases this
    walk_at "ro"
    have k89 : Chg x H8 (upd H8 x (.ins C_Frames dx (putF "_offers" (.ref O) [("_words", .ref W), ("_shares", .ref S), ("_rights", .ref R)]))) := Chg.upd
    have hx9 : (upd H8 x (.ins C_Frames dx (putF "_offers" (.ref O) [("_words", .ref W), ("_shares", .ref S), ("_rights", .ref R)]))) x = some (.ins C_Frames dx [("_words", .ref W), ("_shares", .ref S), ("_rights", .ref R), ("_offers", .ref O)]) := upd_same
    generalize upd H8 x (.ins C_Frames dx (putF "_offers" (.ref O) [("_words", .ref W), ("_shares", .ref S), ("_rights", .ref R)])) = H9 at k89 hx9 ⊢
    have k79 : Chg x H7 H9 := (Same.chg s8).trans k89
    have c9 : Chg x H H9 := c7.trans k79
    refine ⟨szl rfl, fun q1 hq1 => ?_⟩
    walk_at "ro"
    refine ⟨_, _, _, rfl, rfl, upd_same, by decide, by decide, by decide, fun A1 hA1 => ?_⟩
    have s10 := (Same.new (o := .lst [V.int 0]) hq1).trans (Same.new (o := .lst (List.replicate (Int.toNat 4) [V.int 0]).flatten) hA1)
    have dA : (upd (upd H9 q1 (.lst [V.int 0])) A1 (.lst (List.replicate (Int.toNat 4) [V.int 0]).flatten)) A1 = some (.lst ((List.replicate 4 0).map vN)) := upd_same
    have hA : H9 A1 = none := by
      cases z : H9 A1 with
      | none => rfl
      | some o => rw [(Same.new (o := .lst [V.int 0]) hq1) _ _ z] at hA1; cases hA1
    have xA : A1 ≠ x := fun z => by rw [z, hx9] at hA; cases hA
    generalize upd (upd H9 q1 (.lst [V.int 0])) A1 (.lst (List.replicate (Int.toNat 4) [V.int 0]).flatten) = H10 at s10 dA ⊢
    have hx10 := s10 _ _ hx9
    walk_at "ro"
    have k1011 : Chg x H10 (upd H10 x (.ins C_Frames dx (putF "_asked" (.ref A1) [("_words", .ref W), ("_shares", .ref S), ("_rights", .ref R), ("_offers", .ref O)]))) := Chg.upd
    have hx11 : (upd H10 x (.ins C_Frames dx (putF "_asked" (.ref A1) [("_words", .ref W), ("_shares", .ref S), ("_rights", .ref R), ("_offers", .ref O)]))) x = some (.ins C_Frames dx [("_words", .ref W), ("_shares", .ref S), ("_rights", .ref R), ("_offers", .ref O), ("_asked", .ref A1)]) := upd_same
    generalize upd H10 x (.ins C_Frames dx (putF "_asked" (.ref A1) [("_words", .ref W), ("_shares", .ref S), ("_rights", .ref R), ("_offers", .ref O)])) = H11 at k1011 hx11 ⊢
    have k911 : Chg x H9 H11 := (Same.chg s10).trans k1011
    have c11 : Chg x H H11 := c9.trans k911
    walk_at "ro"
    refine ⟨szl rfl, fun q2 hq2 => ?_⟩
    walk_at "ro"
    refine ⟨_, _, _, rfl, rfl, upd_same, by decide, by decide, by decide, fun E1 hE1 => ?_⟩
    have s12 := (Same.new (o := .lst [V.int 0]) hq2).trans (Same.new (o := .lst (List.replicate (Int.toNat 4) [V.int 0]).flatten) hE1)
    have dE : (upd (upd H11 q2 (.lst [V.int 0])) E1 (.lst (List.replicate (Int.toNat 4) [V.int 0]).flatten)) E1 = some (.lst ((List.replicate 4 0).map vN)) := upd_same
    have hE : H11 E1 = none := by
      cases z : H11 E1 with
      | none => rfl
      | some o => rw [(Same.new (o := .lst [V.int 0]) hq2) _ _ z] at hE1; cases hE1
    have xE : E1 ≠ x := fun z => by rw [z, hx11] at hE; cases hE
    generalize upd (upd H11 q2 (.lst [V.int 0])) E1 (.lst (List.replicate (Int.toNat 4) [V.int 0]).flatten) = H12 at s12 dE ⊢
    have hx12 := s12 _ _ hx11
    walk_at "ro"
    have k1213 : Chg x H12 (upd H12 x (.ins C_Frames dx (putF "_ends_to_wait" (.ref E1) [("_words", .ref W), ("_shares", .ref S), ("_rights", .ref R), ("_offers", .ref O), ("_asked", .ref A1)]))) := Chg.upd
    have hx13 : (upd H12 x (.ins C_Frames dx (putF "_ends_to_wait" (.ref E1) [("_words", .ref W), ("_shares", .ref S), ("_rights", .ref R), ("_offers", .ref O), ("_asked", .ref A1)]))) x = some (.ins C_Frames dx [("_words", .ref W), ("_shares", .ref S), ("_rights", .ref R), ("_offers", .ref O), ("_asked", .ref A1), ("_ends_to_wait", .ref E1)]) := upd_same
    generalize upd H12 x (.ins C_Frames dx (putF "_ends_to_wait" (.ref E1) [("_words", .ref W), ("_shares", .ref S), ("_rights", .ref R), ("_offers", .ref O), ("_asked", .ref A1)])) = H13 at k1213 hx13 ⊢
    have k1113 : Chg x H11 H13 := (Same.chg s12).trans k1213
    have c13 : Chg x H H13 := c11.trans k1113
    walk_at "ro"
    refine ⟨by omega, by omega, fun T1 hT => ?_⟩
    refine lcRow (ob := .lst []) (by decide) hT ?_ ?_
    · intro j H2 Q' s2 q
      refine ⟨rfl, ?_⟩
      walk_at "ro"
      refine ⟨szl rfl, fun q1 hq1 => ?_⟩
      exact q q1 _ hq1 (Same.new hq1) upd_same
    intro H14 tks s14 dT lt at' nt
    have hx14 := s14 _ _ hx13
    have xT : T1 ≠ x := fun z => by rw [z, hx13] at hT; cases hT
    have xt : ∀ b ∈ tks, b ≠ x := fun b hb z => by have := (at' b hb).2.1; rw [z, hx13] at this; cases this
    walk_at "ro"
    have k1415 : Chg x H14 (upd H14 x (.ins C_Frames dx (putF "_taken" (.ref T1) [("_words", .ref W), ("_shares", .ref S), ("_rights", .ref R), ("_offers", .ref O), ("_asked", .ref A1), ("_ends_to_wait", .ref E1)]))) := Chg.upd
    have hx15 : (upd H14 x (.ins C_Frames dx (putF "_taken" (.ref T1) [("_words", .ref W), ("_shares", .ref S), ("_rights", .ref R), ("_offers", .ref O), ("_asked", .ref A1), ("_ends_to_wait", .ref E1)]))) x = some (.ins C_Frames dx [("_words", .ref W), ("_shares", .ref S), ("_rights", .ref R), ("_offers", .ref O), ("_asked", .ref A1), ("_ends_to_wait", .ref E1), ("_taken", .ref T1)]) := upd_same
    generalize upd H14 x (.ins C_Frames dx (putF "_taken" (.ref T1) [("_words", .ref W), ("_shares", .ref S), ("_rights", .ref R), ("_offers", .ref O), ("_asked", .ref A1), ("_ends_to_wait", .ref E1)])) = H15 at k1415 hx15 ⊢
    have k1315 : Chg x H13 H15 := (Same.chg s14).trans k1415
    have c15 : Chg x H H15 := c13.trans k1315
    -- all of it
    have k1215 := k1213.trans k1315
    have k1115 := k1113.trans k1315
    have k1015 := k1011.trans k1115
    have k915 := k911.trans k1115
    have k815 := k89.trans k915
    have k715 := k79.trans k915
    have k615 := k67.trans k715
    have k515 := k57.trans k715
    have k415 := k45.trans k515
    have k315 := k35.trans k515
    have k215 := k23.trans k315
    have some_ne : ∀ {Hx : Hp} {b : Addr} {o : HO}, Hx b = some o → Hx b ≠ none := fun h => by rw [h]; exact fun z => by cases z
    have A0 : ∀ b ∈ [x], H1 b ≠ none := fun b hb => by rw [List.mem_singleton.mp hb]; exact some_ne hx1
    have W2 : ∀ b ∈ W :: wds, H2 b ≠ none := fun b hb => (List.mem_cons.mp hb).elim (fun z => by rw [z]; exact some_ne dW) (fun z => some_ne (aw b z).1)
    have A1' := al_app (al_chg A0 ((Same.chg s2).trans k23) (some_ne hx3)) (al_chg W2 k23 (some_ne hx3))
    have N1 := nd_app (l1 := [x]) (l2 := W :: wds) (by simp) (List.nodup_cons.mpr ⟨fun z => (aw W z).2.2 rfl, nw⟩) A0 (cons_none hW fun w hw => (aw w hw).2.1)
    have N2 := nd_app N1 (l2 := [S]) (by simp) A1' (cons_none hS fun w hw => (by cases hw))
    have S4 : ∀ b ∈ [S], H4 b ≠ none := fun b hb => by rw [List.mem_singleton.mp hb]; exact some_ne dS
    have A2 := al_app (al_chg A1' k35 (some_ne hx5)) (al_chg S4 k45 (some_ne hx5))
    have N3 := nd_app N2 (l2 := R :: rds) (List.nodup_cons.mpr ⟨fun z => (ar R z).2.2 rfl, nr⟩) A2 (cons_none hR fun w hw => (ar w hw).2.1)
    have R6 : ∀ b ∈ R :: rds, H6 b ≠ none := fun b hb => (List.mem_cons.mp hb).elim (fun z => by rw [z]; exact some_ne dR) (fun z => some_ne (ar b z).1)
    have A3 := al_app (al_chg A2 k57 (some_ne hx7)) (al_chg R6 k67 (some_ne hx7))
    have N4 := nd_app N3 (l2 := O :: ods) (List.nodup_cons.mpr ⟨fun z => (ao O z).2.2 rfl, no⟩) A3 (cons_none hO fun w hw => (ao w hw).2.1)
    have O8 : ∀ b ∈ O :: ods, H8 b ≠ none := fun b hb => (List.mem_cons.mp hb).elim (fun z => by rw [z]; exact some_ne dO) (fun z => some_ne (ao b z).1)
    have A4 := al_app (al_chg A3 k79 (some_ne hx9)) (al_chg O8 k89 (some_ne hx9))
    have N5 := nd_app N4 (l2 := [A1]) (by simp) A4 (cons_none hA fun w hw => (by cases hw))
    have A10 : ∀ b ∈ [A1], H10 b ≠ none := fun b hb => by rw [List.mem_singleton.mp hb]; exact some_ne dA
    have A5 := al_app (al_chg A4 k911 (some_ne hx11)) (al_chg A10 k1011 (some_ne hx11))
    have N6 := nd_app N5 (l2 := [E1]) (by simp) A5 (cons_none hE fun w hw => (by cases hw))
    have E12 : ∀ b ∈ [E1], H12 b ≠ none := fun b hb => by rw [List.mem_singleton.mp hb]; exact some_ne dE
    have A6 := al_app (al_chg A5 k1113 (some_ne hx13)) (al_chg E12 k1213 (some_ne hx13))
    have N7 := nd_app N6 (l2 := T1 :: tks) (List.nodup_cons.mpr ⟨fun z => (at' T1 z).2.2 rfl, nt⟩) A6 (cons_none hT fun w hw => (at' w hw).2.1)
    let a : FA := ⟨dx, W, S, R, O, A1, E1, T1, wds, rds, ods, tks, List.replicate 4 []⟩
    have eo : a.own x = [x, W, S, R, O, A1, E1, T1] ++ (wds ++ (rds ++ (ods ++ (tks ++ ([] : List Addr))))) := rfl
    have nd : (a.own x).Nodup := by rw [eo]; exact (own_perm x W S R O A1 E1 T1 wds rds ods tks).nodup_iff.mpr N7
    have mine : ∀ b ∈ a.own x, b = x ∨ H b = none := by
      intro b hb
      rw [eo] at hb
      have hb := (own_perm x W S R O A1 E1 T1 wds rds ods tks).subset hb
      simp only [List.mem_append, List.mem_cons, List.not_mem_nil, or_false] at hb
      rcases hb with ((((((hb | hb | hb) | hb) | hb | hb) | hb | hb) | hb) | hb) | hb | hb
      · exact .inl hb
      · exact .inr (by rw [hb]; exact none_back c0 xW hW)
      · exact .inr (none_back c0 (xw b hb) (aw b hb).2.1)
      · exact .inr (by rw [hb]; exact none_back c3 xS hS)
      · exact .inr (by rw [hb]; exact none_back c5 xR hR)
      · exact .inr (none_back c5 (xr b hb) (ar b hb).2.1)
      · exact .inr (by rw [hb]; exact none_back c7 xO hO)
      · exact .inr (none_back c7 (xo b hb) (ao b hb).2.1)
      · exact .inr (by rw [hb]; exact none_back c9 xA hA)
      · exact .inr (by rw [hb]; exact none_back c11 xE hE)
      · exact .inr (by rw [hb]; exact none_back c13 xT hT)
      · exact .inr (none_back c13 (xt b hb) (at' b hb).2.1)
    have rep : ∀ {α : Type} {n j : Nat} {u v : α}, (List.replicate n u)[j]? = some v → v = u := fun h => by
      obtain ⟨h1, h2⟩ := List.getElem?_eq_some_iff.mp h
      rw [← h2, List.getElem_replicate]
    refine k a H15 ⟨⟨sl, rfl, rfl, rfl, rfl, rfl, List.length_replicate, m64⟩, nd, mine, hx15, k215 _ _ xW dW, ⟨by rw [lw]; exact List.length_replicate.symm, fun j d l hd hl => ?_⟩, k415 _ _ xS dS, k615 _ _ xR dR, ⟨by rw [lr]; rfl, fun j d l hd hl => ?_⟩, k815 _ _ xO dO, rfl, ⟨by rw [lo]; rfl, fun j d q hd hq => ?_⟩, k1015 _ _ xA dA, k1215 _ _ xE dE, k1415 _ _ xT dT, ⟨by rw [lt]; rfl, fun j d l hd hl => ?_⟩⟩ c15
    · rw [rep hl]
      exact k215 _ _ (xw d (List.mem_of_getElem? hd)) (aw d (List.mem_of_getElem? hd)).1
    · rw [rep hl]
      exact k615 _ _ (xr d (List.mem_of_getElem? hd)) (ar d (List.mem_of_getElem? hd)).1
    · obtain ⟨h8, h9⟩ := List.getElem?_zip_eq_some.mp hq
      have e8 := rep h8
      have e9 := rep h9
      obtain ⟨q1, q2⟩ := q
      have e8 : q1 = [] := e8
      have e9 : q2 = [] := e9
      subst e8 e9
      exact ⟨k815 _ _ (xo d (List.mem_of_getElem? hd)) (ao d (List.mem_of_getElem? hd)).1, rfl, fun j d l hd => (by simp at hd)⟩
    · rw [rep hl]
      exact k1415 _ _ (xt d (List.mem_of_getElem? hd)) (at' d (List.mem_of_getElem? hd)).1
end
end My

namespace My
open PySem L2
local macro_rules | `(tactic| walk_at "ne") => `(tactic| first | assumption | exact Ne.symm (by assumption) | exact ne_of_none (by assumption) (by assumption) | exact Ne.symm (ne_of_none (by assumption) (by assumption)))
local macro_rules | `(tactic| walk_at "hp") => `(tactic| first | assumption | with_reducible exact upd_same | (with_reducible refine Eq.trans (upd_ne ?_) ?_; rotate_left; walk_at "hp"; walk_at "ne"))
local macro_rules | `(tactic| walk_at "cnd") => `(tactic| first | omega | (show (0 : Int) < _; omega) | exact ⟨by omega, by omega⟩ | exact Or.inl ⟨by omega, by omega⟩ | exact Or.inr ⟨by omega, by omega⟩ | exact ⟨by omega, by omega, by decide⟩ | exact ⟨by omega, by omega, by omega⟩)
local macro_rules | `(tactic| walk_at "at") => `(tactic| first | exact atC 0 rfl rfl | exact atC 1 rfl rfl | exact atC 2 rfl rfl | exact atC 3 rfl rfl | exact atC 4 rfl rfl | exact atC 5 rfl rfl | exact atC 6 rfl rfl | exact atC 7 rfl rfl)
local macro_rules | `(tactic| walk_at "ix") => `(tactic| first | exact ixC 0 rfl (Nat.le_of_ble_eq_true rfl) | exact ixC 1 rfl (Nat.le_of_ble_eq_true rfl) | exact ixC 2 rfl (Nat.le_of_ble_eq_true rfl) | exact ixC 3 rfl (Nat.le_of_ble_eq_true rfl) | exact ixC 4 rfl (Nat.le_of_ble_eq_true rfl) | exact ixC 5 rfl (Nat.le_of_ble_eq_true rfl))
local macro_rules | `(tactic| walk_at "st") => `(tactic| first
  | refine ⟨_, rfl, ?_⟩
  | refine ⟨_, _, rfl, rfl, (by walk_at "cnd" : (_ : Prop)), ?_⟩
  | refine ⟨_, _, rfl, rfl, ?_⟩
  | refine ⟨rfl, ?_⟩
  | refine Or.inl ⟨_, rfl, ?_⟩
  | refine ⟨_, _, _, _, rfl, rfl, by exact SqL.of (by walk_at "hp"), by walk_at "at", ?_⟩
  | refine ⟨_, _, _, _, rfl, rfl, by exact SqT.of (by walk_at "hp"), by walk_at "at", ?_⟩
  | refine ⟨_, _, _, _, rfl, rfl, by walk_at "hp", by walk_at "ix", ?_⟩
  | refine ⟨_, _, rfl, Or.inl (by exact SqL.of (by walk_at "hp")), ?_⟩
  | refine ⟨_, _, rfl, Or.inr (by exact SqT.of (by walk_at "hp")), ?_⟩)
local macro_rules | `(tactic| walk_at "so") => `(tactic| first
  | refine ⟨_, _, _, _, _, rfl, by walk_at "hp", by assumption, by assumption, rfl, ?_⟩
  | refine ⟨_, _, _, _, rfl, by walk_at "hp", by assumption, by assumption, Nat.le_of_ble_eq_true rfl, ?_⟩
  | refine ⟨_, _, _, rfl, by walk_at "hp", rfl, ?_⟩
  | walk_at "st")
local macro_rules | `(tactic| walk_at "ro") => `(tactic| repeat walk_at "so")
local macro_rules | `(tactic| walk_at "run") => `(tactic| repeat walk_at "st")

/-! ### the mathematics of the deeds -/
theorem nodup_len : ∀ {l1 l2 : List Nat}, l1.Nodup → (∀ a ∈ l1, a ∈ l2) → l1.length ≤ l2.length
  | [], _, _, _ => Nat.zero_le _
  | a :: l, l2, nd, h => by
    have ha := h a List.mem_cons_self
    have nd' := List.nodup_cons.mp nd
    have ih := nodup_len (l1 := l) (l2 := l2.erase a) nd'.2 fun b hb => (List.mem_erase_of_ne (fun z => nd'.1 (by rw [← z]; exact hb))).mpr (h b (List.mem_cons_of_mem _ hb))
    rw [List.length_erase_of_mem ha] at ih
    have : 0 < l2.length := List.length_pos_of_mem ha
    rw [List.length_cons]
    omega
theorem unch_nat {s : FS} {e : Nat} (h : e < 4) : unchOf s (eD e) = s.sh.getD e 0 - (s.rt.getD e []).length := by
  unfold unchOf shareOf chargeOf heldOf eD
  rw [if_pos (isE_nat h), if_pos (isE_nat h), List.length_map]; rfl
theorem lack_nat (s : FS) : lackOf s = (s.sh.getD 0 0 - (s.rt.getD 0 []).length) + ((s.sh.getD 1 0 - (s.rt.getD 1 []).length) + ((s.sh.getD 2 0 - (s.rt.getD 2 []).length) + (s.sh.getD 3 0 - (s.rt.getD 3 []).length))) := by
  unfold lackOf
  show (List.map _ [0, 1, 2, 3]).sum = _
  simp only [List.map_cons, List.map_nil, List.sum_cons, List.sum_nil]
  rw [unch_nat (by omega), unch_nat (by omega), unch_nat (by omega), unch_nat (by omega), Nat.add_zero]
theorem left_nat {s : FS} (h : s.rt.length = 4) : leftOf s = (s.m : Int) - ((s.rt.getD 0 []).length + ((s.rt.getD 1 []).length + ((s.rt.getD 2 []).length + (s.rt.getD 3 []).length)) : Nat) := by
  unfold leftOf
  match q : s.rt, h with
  | [a, b, c, d], _ => simp only [List.map_cons, List.map_nil, List.sum_cons, List.sum_nil, Nat.add_zero]; rfl
theorem mem_get {l : RL} {f : Nat} : f ∈ keysR l ↔ getR l f ≠ none := by
  constructor
  · intro h
    obtain ⟨p, hp, e⟩ := List.mem_map.mp h
    rw [← e]
    exact get_mem hp
  · intro h
    unfold getR at h
    cases y : l.find? (fun p => decide (p.1 = f)) with
    | none => rw [y] at h; exact absurd rfl h
    | some p =>
      have q := List.find?_some y
      have q : p.1 = f := by simpa using q
      rw [← q]
      exact List.mem_map_of_mem (List.mem_of_find?_eq_some y)
structure Good (s : FS) : Prop where
  nd : ∀ e, (keysR (s.rt.getD e [])).Nodup
  lt : ∀ e f, f ∈ keysR (s.rt.getD e []) → f < s.m
  ll : (lackOf s : Int) ≤ leftOf s
  aw : ∀ e, e < 4 → 0 < s.ask.getD e 0 → 0 < s.wt.getD e 0
theorem keys_len (l : RL) : (keysR l).length = l.length := List.length_map _
theorem Good.len {s : FS} (g : Good s) (e : Nat) : (s.rt.getD e []).length ≤ s.m := by
  have := nodup_len (l2 := List.range s.m) (g.nd e) fun a ha => List.mem_range.mpr (g.lt e a ha)
  rw [List.length_range, keys_len] at this
  exact this
theorem Good.free {s : FS} (g : Good s) (h4 : s.rt.length = 4) {e : Nat} (he : e < 4) (hm : moreOf s (eD e) = true) : freeT s s.m ≠ [] := by
  intro z
  have all : ∀ f, f < s.m → f ∈ keysR (s.rt.getD 0 []) ++ (keysR (s.rt.getD 1 []) ++ (keysR (s.rt.getD 2 []) ++ keysR (s.rt.getD 3 []))) := by
    intro f hf
    have h1 : heldBy s f = true := by
      cases y : heldBy s f with
      | true => rfl
      | false =>
        have : f ∈ freeT s s.m := by
          unfold freeT
          rw [List.mem_filter, List.mem_range]
          exact ⟨hf, by rw [y]; rfl⟩
        rw [z] at this; cases this
    unfold heldBy at h1
    obtain ⟨l, hl, hg⟩ := List.any_eq_true.mp h1
    obtain ⟨j, hj, ej⟩ := List.mem_iff_getElem.mp hl
    have hk : f ∈ keysR l := mem_get.mpr fun y => by rw [y] at hg; cases hg
    have ed : s.rt.getD j [] = l := by rw [List.getD_eq_getElem?_getD, List.getElem?_eq_getElem hj, ej]; rfl
    rw [← ed] at hk
    have j4 : j < 4 := by omega
    have : j = 0 ∨ j = 1 ∨ j = 2 ∨ j = 3 := by omega
    rcases this with rfl | rfl | rfl | rfl
    · exact List.mem_append_left _ hk
    · exact List.mem_append_right _ (List.mem_append_left _ hk)
    · exact List.mem_append_right _ (List.mem_append_right _ (List.mem_append_left _ hk))
    · exact List.mem_append_right _ (List.mem_append_right _ (List.mem_append_right _ hk))
  have len := nodup_len (l1 := List.range s.m) List.nodup_range fun a ha => all a (List.mem_range.mp ha)
  rw [List.length_range, List.length_append, List.length_append, List.length_append, keys_len, keys_len, keys_len, keys_len] at len
  have lf := left_nat h4
  have lk := lack_nat s
  have ll := g.ll
  have un := unch_nat (s := s) he
  unfold moreOf at hm
  rw [Bool.or_eq_true, decide_eq_true_eq, decide_eq_true_eq] at hm
  have e4 : e = 0 ∨ e = 1 ∨ e = 2 ∨ e = 3 := by omega
  rcases hm with hm | hm
  · rw [un] at hm
    rcases e4 with rfl | rfl | rfl | rfl <;> omega
  · omega
/-- one more -/
theorem Good.add {s s' : FS} (g : Good s) (h4 : s.rt.length = 4) {e f : Nat} {b : Bool} (he : e < 4) (hf : f < s.m) (hn : getR (s.rt.getD e []) f = none) (hm : moreOf s (eD e) = true) (e1 : s'.m = s.m) (e2 : s'.sh = s.sh) (e3 : s'.rt = s.rt.set e (s.rt.getD e [] ++ [(f, b)])) (e5 : s'.ask = s.ask) (e6 : s'.wt = s.wt) : Good s' := by
  have get : ∀ j, s'.rt.getD j [] = if j = e then s.rt.getD e [] ++ [(f, b)] else s.rt.getD j [] := fun j => by rw [e3, getD_set (by omega)]
  have kk : keysR (s.rt.getD e [] ++ [(f, b)]) = keysR (s.rt.getD e []) ++ [f] := by unfold keysR; rw [List.map_append]; rfl
  refine ⟨fun j => ?_, fun j x hx => ?_, ?_, by rw [e5, e6]; exact g.aw⟩
  · rw [get]
    by_cases q : j = e
    · rw [if_pos q, kk]
      refine List.nodup_append.mpr ⟨g.nd e, by simp, fun a ha c hc z => ?_⟩
      rw [List.mem_singleton.mp hc] at z
      subst z
      exact mem_get.mp ha hn
    · rw [if_neg q]; exact g.nd j
  · rw [get] at hx
    rw [e1]
    by_cases q : j = e
    · rw [if_pos q, kk] at hx
      rcases List.mem_append.mp hx with y | y
      · exact g.lt e x y
      · rw [List.mem_singleton.mp y]; exact hf
    · rw [if_neg q] at hx; exact g.lt j x hx
  · have lf := left_nat h4
    have lk := lack_nat s
    have ll := g.ll
    have un := unch_nat (s := s) he
    have lf' := left_nat (s := s') (by rw [e3, List.length_set]; exact h4)
    have lk' := lack_nat s'
    rw [get, get, get, get, e1] at lf'
    rw [get, get, get, get, e2] at lk'
    unfold moreOf at hm
    rw [Bool.or_eq_true, decide_eq_true_eq, decide_eq_true_eq] at hm
    have len : (s.rt.getD e [] ++ [(f, b)]).length = (s.rt.getD e []).length + 1 := by rw [List.length_append]; rfl
    have e4 : e = 0 ∨ e = 1 ∨ e = 2 ∨ e = 3 := by omega
    rcases e4 with rfl | rfl | rfl | rfl
    all_goals
      simp (decide := true) only [if_true, if_false, len] at lf' lk'
      rw [lf', lk']
      rw [un] at hm
      omega
/-- fewer, or others with the same frames -/
theorem Good.sub {s s' : FS} (g : Good s) (h4 : s.rt.length = 4) {e : Nat} {l : RL} (he : e < 4) (hs : (keysR l).Sublist (keysR (s.rt.getD e []))) (e1 : s'.m = s.m) (e2 : s'.sh = s.sh) (e3 : s'.rt = s.rt.set e l) (aw : ∀ e, e < 4 → 0 < s'.ask.getD e 0 → 0 < s'.wt.getD e 0) : Good s' := by
  have get : ∀ j, s'.rt.getD j [] = if j = e then l else s.rt.getD j [] := fun j => by rw [e3, getD_set (by omega)]
  have hl := hs.length_le
  rw [keys_len, keys_len] at hl
  refine ⟨fun j => ?_, fun j x hx => ?_, ?_, aw⟩
  · rw [get]
    by_cases q : j = e
    · rw [if_pos q]; exact (g.nd e).sublist hs
    · rw [if_neg q]; exact g.nd j
  · rw [get] at hx
    rw [e1]
    by_cases q : j = e
    · rw [if_pos q] at hx; exact g.lt e x (hs.subset hx)
    · rw [if_neg q] at hx; exact g.lt j x hx
  · have lf := left_nat h4
    have lk := lack_nat s
    have ll := g.ll
    have lf' := left_nat (s := s') (by rw [e3, List.length_set]; exact h4)
    have lk' := lack_nat s'
    rw [get, get, get, get, e1] at lf'
    rw [get, get, get, get, e2] at lk'
    have e4 : e = 0 ∨ e = 1 ∨ e = 2 ∨ e = 3 := by omega
    rcases e4 with rfl | rfl | rfl | rfl
    all_goals
      simp (decide := true) only [if_true, if_false] at lf' lk'
      rw [lf', lk']
      omega
theorem Good.same {s s' : FS} (g : Good s) (e1 : s'.m = s.m) (e2 : s'.sh = s.sh) (e3 : s'.rt = s.rt) (aw : ∀ e, e < 4 → 0 < s'.ask.getD e 0 → 0 < s'.wt.getD e 0) : Good s' := by
  have lk : lackOf s' = lackOf s := by rw [lack_nat, lack_nat, e2, e3]
  have lf : leftOf s' = leftOf s := by unfold leftOf; rw [e1, e3]
  exact ⟨by rw [e3]; exact g.nd, by rw [e3, e1]; exact g.lt, by rw [lk, lf]; exact g.ll, aw⟩
end My

namespace My
open PySem L2
local macro_rules | `(tactic| walk_at "ne") => `(tactic| first | assumption | exact Ne.symm (by assumption) | exact ne_of_none (by assumption) (by assumption) | exact Ne.symm (ne_of_none (by assumption) (by assumption)))
local macro_rules | `(tactic| walk_at "hp") => `(tactic| first | assumption | with_reducible exact upd_same | (with_reducible refine Eq.trans (upd_ne ?_) ?_; rotate_left; walk_at "hp"; walk_at "ne"))
local macro_rules | `(tactic| walk_at "cnd") => `(tactic| first | omega | (show (0 : Int) < _; omega) | exact ⟨by omega, by omega⟩ | exact Or.inl ⟨by omega, by omega⟩ | exact Or.inr ⟨by omega, by omega⟩ | exact ⟨by omega, by omega, by decide⟩ | exact ⟨by omega, by omega, by omega⟩)
local macro_rules | `(tactic| walk_at "at") => `(tactic| first | exact atC 0 rfl rfl | exact atC 1 rfl rfl | exact atC 2 rfl rfl | exact atC 3 rfl rfl | exact atC 4 rfl rfl | exact atC 5 rfl rfl | exact atC 6 rfl rfl | exact atC 7 rfl rfl)
local macro_rules | `(tactic| walk_at "ix") => `(tactic| first | exact ixC 0 rfl (Nat.le_of_ble_eq_true rfl) | exact ixC 1 rfl (Nat.le_of_ble_eq_true rfl) | exact ixC 2 rfl (Nat.le_of_ble_eq_true rfl) | exact ixC 3 rfl (Nat.le_of_ble_eq_true rfl) | exact ixC 4 rfl (Nat.le_of_ble_eq_true rfl) | exact ixC 5 rfl (Nat.le_of_ble_eq_true rfl))
local macro_rules | `(tactic| walk_at "st") => `(tactic| first
  | refine ⟨_, rfl, ?_⟩
  | refine ⟨_, _, rfl, rfl, (by walk_at "cnd" : (_ : Prop)), ?_⟩
  | refine ⟨_, _, rfl, rfl, ?_⟩
  | refine ⟨rfl, ?_⟩
  | refine Or.inl ⟨_, rfl, ?_⟩
  | refine ⟨_, _, _, _, rfl, rfl, by exact SqL.of (by walk_at "hp"), by walk_at "at", ?_⟩
  | refine ⟨_, _, _, _, rfl, rfl, by exact SqT.of (by walk_at "hp"), by walk_at "at", ?_⟩
  | refine ⟨_, _, _, _, rfl, rfl, by walk_at "hp", by walk_at "ix", ?_⟩
  | refine ⟨_, _, rfl, Or.inl (by exact SqL.of (by walk_at "hp")), ?_⟩
  | refine ⟨_, _, rfl, Or.inr (by exact SqT.of (by walk_at "hp")), ?_⟩)
local macro_rules | `(tactic| walk_at "so") => `(tactic| first
  | refine ⟨_, _, _, _, _, rfl, by walk_at "hp", by assumption, by assumption, rfl, ?_⟩
  | refine ⟨_, _, _, _, rfl, by walk_at "hp", by assumption, by assumption, Nat.le_of_ble_eq_true rfl, ?_⟩
  | refine ⟨_, _, _, rfl, by walk_at "hp", rfl, ?_⟩
  | walk_at "st")
local macro_rules | `(tactic| walk_at "ro") => `(tactic| repeat walk_at "so")
local macro_rules | `(tactic| walk_at "run") => `(tactic| repeat walk_at "st")

/-! ### pages -/
section
variable {κ : Type} [DecidableEq κ]
theorem valV_memD {kvs : List (κ × V)} (nd : (kvs.map (·.1)).Nodup) {p : κ × V} (h : p ∈ kvs) : valV kvs p.1 = some p.2 := by
  induction kvs with
  | nil => cases h
  | cons q r ih =>
    have nd' := List.nodup_cons.mp (show (q.1 :: r.map (·.1)).Nodup from nd)
    rcases List.mem_cons.mp h with z | z
    · subst z; exact valV_pos rfl
    · have : ¬ q.1 = p.1 := fun e => nd'.1 (by rw [e]; exact List.mem_map_of_mem z)
      rw [valV_neg this]
      exact ih nd'.2 z
theorem valV_inD {kvs : List (κ × V)} {k : κ} {v : V} (h : valV kvs k = some v) : (k, v) ∈ kvs := by
  induction kvs with
  | nil => cases h
  | cons q r ih =>
    by_cases e : q.1 = k
    · rw [valV_pos e] at h
      cases h
      rw [← e]
      exact List.mem_cons_self
    · rw [valV_neg e] at h
      exact List.mem_cons_of_mem _ (ih h)
theorem putK_memD {kvs : List (κ × V)} {k : κ} {v : V} {p : κ × V} (h : p ∈ putK kvs k v) : p = (k, v) ∨ (p ∈ kvs ∧ p.1 ≠ k) := by
  unfold putK at h
  split at h
  · obtain ⟨q, hq, e⟩ := List.mem_map.mp h
    by_cases z : q.1 = k
    · rw [if_pos z] at e
      exact .inl (by rw [← e, z])
    · rw [if_neg z] at e
      exact .inr (by rw [← e]; exact ⟨hq, z⟩)
  · rename_i hn
    rcases List.mem_append.mp h with z | z
    · refine .inr ⟨z, fun e => hn ?_⟩
      exact List.any_eq_true.mpr ⟨p, z, decide_eq_true e⟩
    · exact .inl (List.mem_singleton.mp z)
theorem putK_ndD {kvs : List (κ × V)} {k : κ} {v : V} (nd : (kvs.map (·.1)).Nodup) : ((putK kvs k v).map (·.1)).Nodup := by
  unfold putK
  split
  · rw [List.map_map]
    have e : ((fun p : κ × V => p.1) ∘ fun kv : κ × V => if kv.1 = k then (kv.1, v) else kv) = fun p => p.1 := by
      funext p
      show (if p.1 = k then (p.1, v) else p).1 = p.1
      split <;> rfl
    rw [e]; exact nd
  · rename_i hn
    rw [List.map_append]
    refine List.nodup_append.mpr ⟨nd, by simp, fun a ha b hb z => hn ?_⟩
    have hb : b = k := List.mem_singleton.mp hb
    obtain ⟨p, hp, e⟩ := List.mem_map.mp ha
    exact List.any_eq_true.mpr ⟨p, hp, decide_eq_true (by rw [e, z, hb])⟩
theorem dropK_ndD {kvs : List (κ × V)} {k : κ} (nd : (kvs.map (·.1)).Nodup) : ((dropK kvs k).map (·.1)).Nodup := nd.sublist (List.filter_sublist.map _)
theorem dropK_memD {kvs : List (κ × V)} {k : κ} {p : κ × V} (h : p ∈ dropK kvs k) : p ∈ kvs ∧ p.1 ≠ k := by
  unfold dropK at h
  have q := List.mem_filter.mp h
  exact ⟨q.1, of_decide_eq_true q.2⟩
end
abbrev PE2 := Option (Nat × Bool)
/-- tuples stay -/
def TuS (H H' : Hp) : Prop := ∀ t l, H t = some (.tup l) → H' t = some (.tup l)
theorem TuS.same {H H' : Hp} (s : Same H H') : TuS H H' := fun t l h => s _ _ h
theorem TuS.trans {H H1 H2 : Hp} (a : TuS H H1) (b : TuS H1 H2) : TuS H H2 := fun t l h => b t l (a t l h)
theorem ChgP.ts {P : Addr → Prop} {H H' : Hp} (c : ChgP P H H') (n : ∀ z, P z → ∀ l, H z ≠ some (.tup l)) : TuS H H' := fun t l h => c _ _ (fun q => n t q l h) h
def PgD (H : Hp) (d : Addr) (en : Nat → PE2) : Prop := ∃ kvs, H d = some (.dK kvs) ∧ (kvs.map (·.1)).Nodup ∧ (∀ p ∈ kvs, ∃ (g : Nat) (t : Addr) (f : Nat) (b : Bool), g < 32 ∧ p = (.inl (g : Int), .ref t) ∧ H t = some (.tup [vN f, rV b]) ∧ en g = some (f, b)) ∧ ∀ g, en g ≠ none → ∃ v, valV kvs (.inl (g : Int)) = some v
def EntV (H : Hp) (v : V) : PE2 → Prop
  | none => v = .non
  | some (f, b) => ∃ t, v = .ref t ∧ H t = some (.tup [vN f, rV b])
theorem nodup_lenK : ∀ {l : List (Key × V)}, (l.map (·.1)).Nodup → (∀ p ∈ l, ∃ g : Nat, g < 32 ∧ p.1 = .inl (g : Int)) → l.length ≤ 32 := by
  intro l nd h
  have : ∀ l : List (Key × V), (l.map (·.1)).Nodup → (∀ p ∈ l, ∃ g : Nat, g < 32 ∧ p.1 = .inl (g : Int)) → ∃ gs : List Nat, gs.Nodup ∧ gs.length = l.length ∧ (∀ g ∈ gs, g < 32 ∧ ∃ p ∈ l, p.1 = .inl (g : Int)) := by
    intro l
    induction l with
    | nil => intro _ _; exact ⟨[], List.nodup_nil, rfl, fun g hg => (by cases hg)⟩
    | cons p r ih =>
      intro nd h
      have nd' := List.nodup_cons.mp (show (p.1 :: r.map (·.1)).Nodup from nd)
      obtain ⟨gs, n1, n2, n3⟩ := ih nd'.2 fun q hq => h q (List.mem_cons_of_mem _ hq)
      obtain ⟨g, g1, g2⟩ := h p List.mem_cons_self
      refine ⟨g :: gs, List.nodup_cons.mpr ⟨fun m => ?_, n1⟩, by rw [List.length_cons, List.length_cons, n2], fun x hx => ?_⟩
      · obtain ⟨_, q, hq, e⟩ := n3 g m
        exact nd'.1 (by rw [g2, ← e]; exact List.mem_map_of_mem hq)
      · rcases List.mem_cons.mp hx with z | z
        · subst z; exact ⟨g1, p, List.mem_cons_self, g2⟩
        · obtain ⟨a, q, hq, e⟩ := n3 x z
          exact ⟨a, q, List.mem_cons_of_mem _ hq, e⟩
  obtain ⟨gs, n1, n2, n3⟩ := this l nd h
  have := nodup_len (l2 := List.range 32) n1 fun a ha => List.mem_range.mpr (n3 a ha).1
  rw [List.length_range, n2] at this
  exact this
theorem PgD.get {H : Hp} {d : Addr} {en : Nat → PE2} (h : PgD H d en) : ∃ kvs, H d = some (.dK kvs) ∧ kvs.length ≤ 32 ∧ ∀ g : Nat, (en g = none ∧ valV kvs (.inl (g : Int)) = none) ∨ ∃ v, g < 32 ∧ valV kvs (.inl (g : Int)) = some v ∧ en g ≠ none ∧ EntV H v (en g) := by
  obtain ⟨kvs, h1, nd, h2, h3⟩ := h
  refine ⟨kvs, h1, nodup_lenK nd fun p hp => ?_, fun g => ?_⟩
  · obtain ⟨g, t, f, b, g1, e, _⟩ := h2 p hp
    exact ⟨g, g1, by rw [e]⟩
  · cases y : valV kvs (.inl (g : Int)) with
    | none =>
      refine .inl ⟨?_, rfl⟩
      cases z : en g with
      | none => rfl
      | some q =>
        obtain ⟨v, hv⟩ := h3 g (by rw [z]; intro c; cases c)
        rw [y] at hv; cases hv
    | some v =>
      obtain ⟨g', t, f, b, g1, e, ht, eg⟩ := h2 _ (valV_inD y)
      injection e with e1 e2
      have : g = g' := keyI.mp e1
      subst this
      refine .inr ⟨v, g1, rfl, ?_⟩
      rw [eg]
      refine ⟨fun c => (by cases c), ?_⟩
      exact ⟨t, e2, ht⟩
def enSet (en : Nat → PE2) (g : Nat) (o : PE2) : Nat → PE2 := fun j => if j = g then o else en j
theorem PgD.put {H : Hp} {d t : Addr} {en : Nat → PE2} {g f : Nat} {b : Bool} (h : PgD H d en) {kvs : List (Key × V)} (e : H d = some (.dK kvs)) (hg : g < 32) (ht : H t = some (.tup [vN f, rV b])) : PgD (upd H d (.dK (putK kvs (.inl (g : Int)) (.ref t)))) d (enSet en g (some (f, b))) := by
  obtain ⟨kvs', h1, nd, h2, h3⟩ := h
  rw [e] at h1
  cases h1
  have ts : ∀ t l, H t = some (.tup l) → (upd H d (.dK (putK kvs (.inl (g : Int)) (.ref t)))) t = some (.tup l) := fun t l q => by
    rw [upd_ne (ne_of q e (by intro z; cases z))]; exact q
  refine ⟨_, upd_same, putK_ndD nd, fun p hp => ?_, fun j hj => ?_⟩
  · rcases putK_memD hp with z | ⟨z, zn⟩
    · exact ⟨g, t, f, b, hg, z, by rw [upd_ne (ne_of ht e (by intro z; cases z))]; exact ht, if_pos rfl⟩
    · obtain ⟨j, t', f', b', j1, ep, ht', ej⟩ := h2 p z
      refine ⟨j, t', f', b', j1, ep, by rw [upd_ne (ne_of ht' e (by intro z; cases z))]; exact ht', ?_⟩
      unfold enSet
      rw [if_neg, ej]
      intro q
      exact zn (by rw [ep, q])
  · rw [valV_put]
    by_cases q : j = g
    · exact ⟨_, if_pos (by rw [q])⟩
    · rw [if_neg (fun z => q (keyI.mp z))]
      unfold enSet at hj
      rw [if_neg q] at hj
      exact h3 j hj
theorem PgD.drop {H : Hp} {d : Addr} {en : Nat → PE2} {g : Nat} (h : PgD H d en) {kvs : List (Key × V)} (e : H d = some (.dK kvs)) : PgD (upd H d (.dK (dropK kvs (.inl (g : Int))))) d (enSet en g none) := by
  obtain ⟨kvs', h1, nd, h2, h3⟩ := h
  rw [e] at h1
  cases h1
  refine ⟨_, upd_same, dropK_ndD nd, fun p hp => ?_, fun j hj => ?_⟩
  · obtain ⟨z, zn⟩ := dropK_memD hp
    obtain ⟨j, t', f', b', j1, ep, ht', ej⟩ := h2 p z
    refine ⟨j, t', f', b', j1, ep, by rw [upd_ne (ne_of ht' e (by intro z; cases z))]; exact ht', ?_⟩
    unfold enSet
    rw [if_neg, ej]
    intro q
    exact zn (by rw [ep, q])
  · rw [valV_drop]
    unfold enSet at hj
    by_cases q : j = g
    · rw [if_pos q] at hj; exact absurd rfl hj
    · rw [if_neg q] at hj
      rw [if_neg (fun z => q (keyI.mp z))]
      exact h3 j hj
theorem PgD.keep {H H' : Hp} {d : Addr} {en : Nat → PE2} (h : PgD H d en) (k : ∀ o, H d = some o → H' d = some o) (s : TuS H H') : PgD H' d en := by
  obtain ⟨kvs, h1, nd, h2, h3⟩ := h
  refine ⟨kvs, k _ h1, nd, fun p hp => ?_, h3⟩
  obtain ⟨g, t, f, b, a1, a2, a3, a4⟩ := h2 p hp
  exact ⟨g, t, f, b, a1, a2, s _ _ a3, a4⟩
structure Pg (C : Addr) (H : Hp) (y x dx L : Addr) (ds : List Addr) (en : Nat → Nat → PE2) : Prop where
  ins : H y = some (.ins C dx [("_frames", .ref x), ("_entries", .ref L)])
  l : H L = some (.lst (ds.map V.ref))
  l4 : ds.length = 4
  nd : ds.Nodup
  es : ∀ (e : Nat) (d : Addr), ds[e]? = some d → PgD H d (en e)
def pgS (y L : Addr) (ds : List Addr) (z : Addr) : Prop := z = y ∨ z = L ∨ z ∈ ds
theorem Pg.nt {C y x dx L : Addr} {ds : List Addr} {H : Hp} {en : Nat → Nat → PE2} (h : Pg C H y x dx L ds en) : ∀ z, pgS y L ds z → ∀ l, H z ≠ some (.tup l) := by
  intro z hz l q
  rcases hz with e | e | e
  · rw [e, h.ins] at q; cases q
  · rw [e, h.l] at q; cases q
  · obtain ⟨j, hj, ej⟩ := List.mem_iff_getElem.mp e
    obtain ⟨kvs, hk, _⟩ := h.es j z (by rw [List.getElem?_eq_getElem hj, ej])
    rw [hk] at q; cases q
theorem Pg.keep {C y x dx L : Addr} {ds : List Addr} {H H' : Hp} {en : Nat → Nat → PE2} (h : Pg C H y x dx L ds en) (k : ∀ z o, pgS y L ds z → H z = some o → H' z = some o) (s : TuS H H') : Pg C H' y x dx L ds en :=
  ⟨k _ _ (.inl rfl) h.ins, k _ _ (.inr (.inl rfl)) h.l, h.l4, h.nd, fun e d hd => (h.es e d hd).keep (fun o => k d o (.inr (.inr (List.mem_of_getElem? hd)))) s⟩
theorem Pg.same {C y x dx L : Addr} {ds : List Addr} {H H' : Hp} {en : Nat → Nat → PE2} (h : Pg C H y x dx L ds en) (s : Same H H') : Pg C H' y x dx L ds en := h.keep (fun _ _ _ => s _ _) (TuS.same s)
def enSet2 (en : Nat → Nat → PE2) (e g : Nat) (o : PE2) : Nat → Nat → PE2 := fun i j => if i = e ∧ j = g then o else en i j
/-- one dict changes -/
theorem Pg.one {C y x dx L : Addr} {ds : List Addr} {H : Hp} {en : Nat → Nat → PE2} (h : Pg C H y x dx L ds en) {e g : Nat} {d : Addr} {kvs : List (Key × V)} {o : PE2} (hd : ds[e]? = some d) (hk : PgD (upd H d (.dK kvs)) d (enSet (en e) g o)) : Pg C (upd H d (.dK kvs)) y x dx L ds (enSet2 en e g o) := by
  obtain ⟨kv0, h0, _⟩ := h.es e d hd
  refine ⟨?_, ?_, h.l4, h.nd, fun i d' hi => ?_⟩
  · rw [upd_ne (ne_of h.ins h0 (by intro z; cases z))]; exact h.ins
  · rw [upd_ne (ne_of h.l h0 (by intro z; cases z))]; exact h.l
  · by_cases q : i = e
    · subst q
      rw [hd] at hi
      cases hi
      have : (enSet2 en i g o) i = enSet (en i) g o := by
        funext j
        unfold enSet2 enSet
        by_cases z : j = g
        · rw [if_pos ⟨rfl, z⟩, if_pos z]
        · rw [if_neg (fun w => z w.2), if_neg z]
      rw [this]; exact hk
    · have : (enSet2 en e g o) i = en i := by
        funext j
        unfold enSet2
        rw [if_neg (fun w => q w.1)]
      rw [this]
      have ne : d' ≠ d := fun z => q ((List.getElem?_inj (List.getElem?_eq_some_iff.mp hi).1 h.nd).mp (by rw [hi, hd, z]))
      refine (h.es i d' hi).keep (fun o ho => by rw [upd_ne ne]; exact ho) fun t l ht => ?_
      rw [upd_ne (ne_of ht h0 (by intro z; cases z))]; exact ht
def entOf (en : Nat → Nat → PE2) (e : Nat) (j : Int) : PE2 := if 0 ≤ j then en e j.toNat else none
def spIsPage : Sp := fun vs H Q _ => ∃ (e : Nat) (j : Int), vs = [.int (e : Int), .int j] ∧ e < 4 ∧ Q (.bl (isI (.int j) 0 31)) H
def spEntry (C : Addr) : Sp := fun vs H Q _ => ∃ (y x dx L : Addr) (ds : List Addr) (en : Nat → Nat → PE2) (e : Nat) (j : Int), vs = [.ref y, .int (e : Int), .int j] ∧ Pg C H y x dx L ds en ∧ e < 4 ∧ ∀ v, EntV H v (entOf en e j) → Q v H
def spMap (CF C : Addr) : Sp := fun vs H Q _ => ∃ (P : Addr → Prop) (y x dx L : Addr) (ds : List Addr) (en : Nat → Nat → PE2) (a : FA) (s : FS) (e : Nat) (j fr : Int) (r : RW3), vs = [.ref y, .int (e : Int), .int j, .int fr, rv3 r] ∧ Fr CF P H x a s ∧ Pg C H y x dx L ds en ∧ e < 4 ∧
  (isI (.int j) 0 31 = false ∨ incl3 (rightOf s (.int (e : Int)) (.int fr)) r = false → Q (.bl false) H) ∧
  (∀ (g f : Nat) (b : Bool), j = (g : Int) → g < 32 → fr = (f : Int) → f < s.m → rv3 r = rV b → incl3 (getR (s.rt.getD e []) f) r = true → ∀ (t : Addr) (H' : Hp), Pg C H' y x dx L ds (enSet2 en e g (some (f, b))) → ChgP (pgS y L ds) H H' → Q (.bl true) H')
def spUnmap (C : Addr) : Sp := fun vs H Q _ => ∃ (y x dx L : Addr) (ds : List Addr) (en : Nat → Nat → PE2) (e : Nat) (j : Int), vs = [.ref y, .int (e : Int), .int j] ∧ Pg C H y x dx L ds en ∧ e < 4 ∧
  (entOf en e j = none → Q (.bl false) H) ∧ (∀ g : Nat, j = (g : Int) → en e g ≠ none → ∀ H', Pg C H' y x dx L ds (enSet2 en e g none) → ChgP (pgS y L ds) H H' → Q (.bl true) H')
def spLoad (CF C : Addr) : Sp := fun vs H Q _ => ∃ (P : Addr → Prop) (y x dx L : Addr) (ds : List Addr) (en : Nat → Nat → PE2) (a : FA) (s : FS) (e : Nat) (j i : Int), vs = [.ref y, .int (e : Int), .int j, .int i] ∧ Fr CF P H x a s ∧ Pg C H y x dx L ds en ∧ e < 4 ∧
  (∀ f b, entOf en e j = some (f, b) → f < s.m ∧ (s.wd.getD f []).length = 8) ∧
  (entOf en e j = none ∨ isI (.int i) 0 7 = false → Q .non H) ∧ (∀ f b (k w : Nat), entOf en e j = some (f, b) → i = (k : Int) → k < 8 → (s.wd.getD f [])[k]? = some w → Q (.int (w : Int)) H)
def mayS (en : Nat → Nat → PE2) (e : Nat) (j i w : Int) : Bool := (match entOf en e j with | some (_, true) => true | _ => false) && (isI (.int i) 0 7 && isI (.int w) 0 4294967295)
def spStore (CF C : Addr) : Sp := fun vs H Q _ => ∃ (P : Addr → Prop) (y x dx L : Addr) (ds : List Addr) (en : Nat → Nat → PE2) (a : FA) (s : FS) (e : Nat) (j i w : Int), vs = [.ref y, .int (e : Int), .int j, .int i, .int w] ∧ Fr CF P H x a s ∧ Pg C H y x dx L ds en ∧ e < 4 ∧
  (∀ f b, entOf en e j = some (f, b) → f < s.m ∧ (s.wd.getD f []).length = 8) ∧
  (mayS en e j i w = false → Q (.bl false) H) ∧ (∀ f (k n : Nat), entOf en e j = some (f, true) → i = (k : Int) → k < 8 → w = (n : Int) → n ≤ 4294967295 → ∀ H', Fr CF P H' x a (wordS s f k n) → ChgP P H H' → Q (.bl true) H')
section
variable {P : Program} {w : World} {K : PySem.W.Frag} {mg : Str → Option Value} {base : Heap} {C_Frames C_Pages C_NotValid : Addr}
abbrev s_is_page : Stmt := topS 23
abbrev ns_is_page : List Str := ["environment", "page"]
theorem sc_is_page : FnScope ns_is_page ["environment", "page"] (defScope s_is_page) := ⟨rfl, rfl, rfl, by decide +kernel, rfl, by decide +kernel, by decide +kernel⟩

theorem ok_is_page {f : Addr} {fd : FuncData} (F : Fun K "_is_page" "_is_page" s_is_page f fd) (T : Txt K mg C_Frames C_Pages C_NotValid) (D_is_environment : Dfn P w K mg base CX0 4 "is_environment" ["value"] spEnv) (D_is_index : Dfn P w K mg base CX0 3 "is_index" ["value", "many"] spIdx) : FnOk P w K mg base CX0 5 f fd ["environment", "page"] spIsPage := by
  refine F.ok sc_is_page (fun vs H Q E h => ?_) (fun cdv A outer s H vs Q E hr h => ?_)
  · obtain ⟨e, j, rfl, _⟩ := h
    rfl
  · obtain ⟨e, j, rfl, e4, k⟩ := h
    refine ⟨_, (pss_one (ps_ret (pe_and (pe_dcall D_is_environment (hr.mono (by decide)) (by rfl) pass0 (pa_cons (pv 0) pa_nil)) (pe_one (pe_dcall D_is_index (hr.mono (by decide)) (by rfl) pass0 (pa_cons (pv 1) (pa_cons (pe_gint (by rfl) T.c_PAGES) pa_nil))))))), ?_⟩
    walk_at "ro"
    refine ⟨_, .int (e : Int), rfl, .int _, ?_⟩
    rw [isE_nat e4]
    walk_at "ro"
    exact ⟨_, .int j, _, rfl, .int _, k⟩
abbrev s_Pages_entry : Stmt := inClass (topS 22) 3
abbrev ns_Pages_entry : List Str := ["self", "environment", "page"]
theorem sc_Pages_entry : FnScope ns_Pages_entry ["self", "environment", "page"] (defScope s_Pages_entry) := ⟨rfl, rfl, rfl, by decide +kernel, rfl, by decide +kernel, by decide +kernel⟩

theorem ok_Pages_entry {f : Addr} {fd : FuncData} (F : Fun K "entry" "Pages.entry" s_Pages_entry f fd) (T : Txt K mg C_Frames C_Pages C_NotValid) (D_is_page : Dfn P w K mg base CX0 5 "_is_page" ["environment", "page"] spIsPage) : FnOk P w K mg base CX0 6 f fd ["self", "environment", "page"] (spEntry C_Pages) := by
  have ho_Pages := T.o_Pages; have hn_Pages__frames := T.n_Pages__frames; have hn_Pages__entries := T.n_Pages__entries
  refine F.ok sc_Pages_entry (fun vs H Q E h => ?_) (fun cdv A outer s H vs Q E hr h => ?_)
  · obtain ⟨y, x, dx, L, ds, en, e, j, rfl, _⟩ := h
    rfl
  · obtain ⟨y, x, dx, L, ds, en, e, j, rfl, pg, e4, k⟩ := h
    refine ⟨_, (pss_cons (ps_if (pt_not (pt_val (pe_dcall D_is_page (hr.mono (by decide)) (by rfl) pass0 (pa_cons (pv 1) (pa_cons (pv 2) pa_nil))))) (pss_one (ps_ret pe_non)) pss_nil)
  (pss_one (ps_ret (pe_dget1 (units1 hr) (pe_ix (kIxL K) (kFld K (pv 0) rfl) (pv 1) (fun _ _ => rfl)) (pv 2) ⟨rfl, rfl, rfl, rfl⟩)))), ?_⟩
    have h1 := pg.ins
    have h2 := pg.l
    have el : e < ds.length := by rw [pg.l4]; exact e4
    have hd := List.getElem?_eq_getElem el
    obtain ⟨kvs, hk, _, hg⟩ := (pg.es e _ hd).get
    walk_at "ro"
    refine ⟨e, j, rfl, e4, ?_⟩
    cases e1 : isI (.int j) 0 31 with
    | false =>
      walk_at "ro"
      refine k _ ?_
      unfold entOf
      by_cases q : 0 ≤ j
      · rw [if_pos q]
        have e1' : (decide ((0 : Int) ≤ j) && decide (j ≤ 31)) = false := e1
        rw [decide_eq_true q, Bool.true_and, decide_eq_false_iff_not] at e1'
        rcases hg j.toNat with z | ⟨v, z, _⟩
        · rw [z.1]; rfl
        · omega
      · rw [if_neg q]; rfl
    | true =>
      walk_at "ro"
      obtain ⟨g, ej, g31⟩ := isI_nat e1
      cases ej
      refine ⟨_, _, _, _, rfl, rfl, SqL.of h2, atC e rfl (by rw [List.getElem?_map, hd]; rfl), ?_⟩
      refine ⟨_, rfl, .inl ⟨_, .inl hk⟩, ?_⟩
      walk_at "ro"
      refine ⟨_, DGet.k (k := .inl (g : Int)) hk, ?_⟩
      refine k _ ?_
      unfold entOf
      rw [if_pos (by omega), Int.toNat_natCast]
      rcases hg g with ⟨z1, z2⟩ | ⟨v, _, z2, _, z3⟩
      · rw [z1, z2]; rfl
      · rw [z2]; exact z3
end
end My

namespace My
open PySem L2
local macro_rules | `(tactic| walk_at "ne") => `(tactic| first | assumption | exact Ne.symm (by assumption) | exact ne_of_none (by assumption) (by assumption) | exact Ne.symm (ne_of_none (by assumption) (by assumption)))
local macro_rules | `(tactic| walk_at "hp") => `(tactic| first | assumption | with_reducible exact upd_same | (with_reducible refine Eq.trans (upd_ne ?_) ?_; rotate_left; walk_at "hp"; walk_at "ne"))
local macro_rules | `(tactic| walk_at "cnd") => `(tactic| first | omega | (show (0 : Int) < _; omega) | exact ⟨by omega, by omega⟩ | exact Or.inl ⟨by omega, by omega⟩ | exact Or.inr ⟨by omega, by omega⟩ | exact ⟨by omega, by omega, by decide⟩ | exact ⟨by omega, by omega, by omega⟩)
local macro_rules | `(tactic| walk_at "at") => `(tactic| first | exact atC 0 rfl rfl | exact atC 1 rfl rfl | exact atC 2 rfl rfl | exact atC 3 rfl rfl | exact atC 4 rfl rfl | exact atC 5 rfl rfl | exact atC 6 rfl rfl | exact atC 7 rfl rfl)
local macro_rules | `(tactic| walk_at "ix") => `(tactic| first | exact ixC 0 rfl (Nat.le_of_ble_eq_true rfl) | exact ixC 1 rfl (Nat.le_of_ble_eq_true rfl) | exact ixC 2 rfl (Nat.le_of_ble_eq_true rfl) | exact ixC 3 rfl (Nat.le_of_ble_eq_true rfl) | exact ixC 4 rfl (Nat.le_of_ble_eq_true rfl) | exact ixC 5 rfl (Nat.le_of_ble_eq_true rfl))
local macro_rules | `(tactic| walk_at "st") => `(tactic| first
  | refine ⟨_, rfl, ?_⟩
  | refine ⟨_, _, rfl, rfl, (by walk_at "cnd" : (_ : Prop)), ?_⟩
  | refine ⟨_, _, rfl, rfl, ?_⟩
  | refine ⟨rfl, ?_⟩
  | refine Or.inl ⟨_, rfl, ?_⟩
  | refine ⟨_, _, _, _, rfl, rfl, by exact SqL.of (by walk_at "hp"), by walk_at "at", ?_⟩
  | refine ⟨_, _, _, _, rfl, rfl, by exact SqT.of (by walk_at "hp"), by walk_at "at", ?_⟩
  | refine ⟨_, _, _, _, rfl, rfl, by walk_at "hp", by walk_at "ix", ?_⟩
  | refine ⟨_, _, rfl, Or.inl (by exact SqL.of (by walk_at "hp")), ?_⟩
  | refine ⟨_, _, rfl, Or.inr (by exact SqT.of (by walk_at "hp")), ?_⟩)
local macro_rules | `(tactic| walk_at "so") => `(tactic| first
  | refine ⟨_, _, _, _, _, rfl, by walk_at "hp", by assumption, by assumption, rfl, ?_⟩
  | refine ⟨_, _, _, _, rfl, by walk_at "hp", by assumption, by assumption, Nat.le_of_ble_eq_true rfl, ?_⟩
  | refine ⟨_, _, _, rfl, by walk_at "hp", rfl, ?_⟩
  | walk_at "st")
local macro_rules | `(tactic| walk_at "ro") => `(tactic| repeat walk_at "so")
local macro_rules | `(tactic| walk_at "run") => `(tactic| repeat walk_at "st")

theorem entOf_bad {C y x dx L : Addr} {ds : List Addr} {H : Hp} {en : Nat → Nat → PE2} (h : Pg C H y x dx L ds en) {e : Nat} {j : Int} (e4 : e < 4) (hn : entOf en e j ≠ none) : ∃ g : Nat, j = (g : Int) ∧ g < 32 ∧ en e g = entOf en e j := by
  unfold entOf at hn ⊢
  by_cases q : 0 ≤ j
  · rw [if_pos q] at hn ⊢
    have el : e < ds.length := by rw [h.l4]; exact e4
    obtain ⟨kvs, _, _, hg⟩ := (h.es e _ (List.getElem?_eq_getElem el)).get
    rcases hg j.toNat with z | ⟨v, z, _⟩
    · exact absurd z.1 hn
    · exact ⟨j.toNat, by omega, z, rfl⟩
  · rw [if_neg q] at hn; exact absurd rfl hn
theorem rightOf_bad {s : FS} {e : Nat} {fr : Int} (h : rightOf s (.int (e : Int)) (.int fr) ≠ none) : ∃ f : Nat, fr = (f : Int) ∧ f < s.m ∧ rightOf s (.int (e : Int)) (.int fr) = getR (s.rt.getD e []) f := by
  unfold rightOf at h ⊢
  split at h
  · rename_i q
    rw [if_pos q]
    obtain ⟨f, ef, fm⟩ := isI_nat q.2
    cases ef
    exact ⟨f, rfl, by omega, rfl⟩
  · exact absurd rfl h
section
variable {P : Program} {w : World} {K : PySem.W.Frag} {mg : Str → Option Value} {base : Heap} {C_Frames C_Pages C_NotValid : Addr}
abbrev s_Pages_map : Stmt := inClass (topS 22) 1
abbrev ns_Pages_map : List Str := ["self", "environment", "page", "frame", "right"]
theorem sc_Pages_map : FnScope ns_Pages_map ["self", "environment", "page", "frame", "right"] (defScope s_Pages_map) := ⟨rfl, rfl, rfl, by decide +kernel, rfl, by decide +kernel, by decide +kernel⟩

theorem ok_Pages_map {f : Addr} {fd : FuncData} (F : Fun K "map" "Pages.map" s_Pages_map f fd) (T : Txt K mg C_Frames C_Pages C_NotValid) (D_is_page : Dfn P w K mg base CX0 5 "_is_page" ["environment", "page"] spIsPage) (D_includes : Dfn P w K mg base CX0 1 "includes" ["held", "right"] spIncl3) (D_Frames_right : Mth P w K mg base CX0 5 C_Frames "right" ["self", "environment", "frame"] (spRight C_Frames)) : FnOk P w K mg base CX0 6 f fd ["self", "environment", "page", "frame", "right"] (spMap C_Frames C_Pages) := by
  have ho_Pages := T.o_Pages; have hn_Pages__frames := T.n_Pages__frames; have hn_Pages__entries := T.n_Pages__entries
  refine F.ok sc_Pages_map (fun vs H Q E h => ?_) (fun cdv A outer s H vs Q E hr h => ?_)
  · obtain ⟨P', y, x, dx, L, ds, en, a, s', e, j, fr, r, rfl, _⟩ := h
    rfl
  · obtain ⟨P', y, x, dx, L, ds, en, a, s', e, j, fr, r, rfl, fm, pg, e4, kn, ks⟩ := h
    refine ⟨_, (pss_cons (ps_if (pt_not (pt_val (pe_dcall D_is_page (hr.mono (by decide)) (by rfl) pass0 (pa_cons (pv 1) (pa_cons (pv 2) pa_nil))))) (pss_one (ps_ret pe_bl)) pss_nil)
  (pss_cons (ps_if (pt_not (pt_val (pe_dcall D_includes (hr.mono (by decide)) (by rfl) pass0 (pa_cons (pe_dmeth (kFld K (pv 0) rfl) D_Frames_right (hr.mono (by decide)) pass0 (pa_cons (pv 1) (pa_cons (pv 3) pa_nil))) (pa_cons (pv 4) pa_nil))))) (pss_one (ps_ret pe_bl)) pss_nil)
  (pss_cons (ps_dput (units1 hr) (pe_ix (kIxL K) (kFld K (pv 0) rfl) (pv 1) (fun _ _ => rfl)) (pv 2) (pe_tup (pa_cons (pv 3) (pa_cons (pv 4) pa_nil))) rfl)
  (pss_one (ps_ret pe_bl))))), ?_⟩
    have h1 := pg.ins
    have h3 := fm.ins
    have h2 := pg.l
    have el : e < ds.length := by rw [pg.l4]; exact e4
    have hd := List.getElem?_eq_getElem el
    obtain ⟨kvs, hk, hlen, hg⟩ := (pg.es e _ hd).get
    walk_at "ro"
    refine ⟨e, j, rfl, e4, ?_⟩
    cases e1 : isI (.int j) 0 31 with
    | false =>
      walk_at "ro"
      exact kn (.inl e1)
    | true =>
      walk_at "ro"
      refine ⟨P', x, a, s', _, _, _, _, rfl, fm, .int _, .int _, ?_⟩
      walk_at "ro"
      refine ⟨_, r, rfl, ?_⟩
      cases e2 : incl3 (rightOf s' (.int (e : Int)) (.int fr)) r with
      | false =>
        walk_at "ro"
        exact kn (.inr e2)
      | true =>
        have ne : rightOf s' (.int (e : Int)) (.int fr) ≠ none := by intro z; rw [z] at e2; cases e2
        obtain ⟨f, rfl, fm2, ef⟩ := rightOf_bad ne
        obtain ⟨g, ej, g31⟩ := isI_nat e1
        cases ej
        rw [ef] at e2
        obtain ⟨b, eb⟩ : ∃ b, rv3 r = rV b := by
          cases r with
          | no => cases h : getR (s'.rt.getD e []) f with | none => rw [h] at e2; cases e2 | some c => rw [h] at e2; cases c <;> cases e2
          | w => cases h : getR (s'.rt.getD e []) f with | none => rw [h] at e2; cases e2 | some c => rw [h] at e2; cases c <;> cases e2
          | r => exact ⟨false, rfl⟩
          | rw => exact ⟨true, rfl⟩
        rw [eb]
        walk_at "ro"
        refine ⟨szl rfl, fun q hq => ?_⟩
        have sq := Same.new (o := .tup [vN f, rV b]) hq
        have pg1 := pg.same sq
        have hq1 : (upd H q (.tup [vN f, rV b])) q = some (.tup [vN f, rV b]) := upd_same
        have hk1 := sq _ _ hk
        have h21 := sq _ _ h2
        have h11 := sq _ _ h1
        have e3 : upd H q (.tup [V.int (f : Int), rV b]) = upd H q (.tup [vN f, rV b]) := rfl
        rw [e3]
        generalize upd H q (.tup [vN f, rV b]) = H1 at sq pg1 hq1 hk1 h21 h11 ⊢
        walk_at "ro"
        refine ⟨_, _, _, _, rfl, rfl, SqL.of h21, atC e rfl (by rw [List.getElem?_map, hd]; rfl), ?_⟩
        have hlt : kvs.length < sizeLine := szt (by omega)
        walk_at "ro"
        refine ⟨_, _, rfl, DPut.k (k := .inl (g : Int)) hk1 hlt, ?_⟩
        walk_at "ro"
        have c1 : ChgP (pgS y L ds) H H1 := ChgP.same sq
        refine ks g f b rfl (by omega) rfl fm2 eb e2 q _ (pg1.one hd ((pg1.es e _ hd).put hk1 (by omega) hq1)) (c1.upd (.inr (.inr (List.mem_of_getElem? hd))))
abbrev s_Pages_unmap : Stmt := inClass (topS 22) 2
abbrev ns_Pages_unmap : List Str := ["self", "environment", "page"]
theorem sc_Pages_unmap : FnScope ns_Pages_unmap ["self", "environment", "page"] (defScope s_Pages_unmap) := ⟨rfl, rfl, rfl, by decide +kernel, rfl, by decide +kernel, by decide +kernel⟩

theorem ok_Pages_unmap {f : Addr} {fd : FuncData} (F : Fun K "unmap" "Pages.unmap" s_Pages_unmap f fd) (T : Txt K mg C_Frames C_Pages C_NotValid) (D_Pages_entry : Mth P w K mg base CX0 6 C_Pages "entry" ["self", "environment", "page"] (spEntry C_Pages)) : FnOk P w K mg base CX0 7 f fd ["self", "environment", "page"] (spUnmap C_Pages) := by
  have ho_Pages := T.o_Pages; have hn_Pages__frames := T.n_Pages__frames; have hn_Pages__entries := T.n_Pages__entries
  refine F.ok sc_Pages_unmap (fun vs H Q E h => ?_) (fun cdv A outer s H vs Q E hr h => ?_)
  · obtain ⟨y, x, dx, L, ds, en, e, j, rfl, _⟩ := h
    rfl
  · obtain ⟨y, x, dx, L, ds, en, e, j, rfl, pg, e4, kn, ks⟩ := h
    refine ⟨_, (pss_cons (ps_if (pt_cmpR op_isN (pe_dmeth (pv 0) D_Pages_entry (hr.mono (by decide)) pass0 (pa_cons (pv 1) (pa_cons (pv 2) pa_nil))) pe_non (nomark _)) (pss_one (ps_ret pe_bl)) pss_nil)
  (pss_cons (ps_ddel (pe_ix (kIxL K) (kFld K (pv 0) rfl) (pv 1) (fun _ _ => rfl)) (pv 2))
  (pss_one (ps_ret pe_bl)))), ?_⟩
    have h1 := pg.ins
    have h2 := pg.l
    have el : e < ds.length := by rw [pg.l4]; exact e4
    have hd := List.getElem?_eq_getElem el
    obtain ⟨kvs, hk, hlen, hg⟩ := (pg.es e _ hd).get
    walk_at "ro"
    refine ⟨y, x, dx, L, ds, en, e, j, rfl, pg, e4, fun v hv => ?_⟩
    cases e1 : entOf en e j with
    | none =>
      rw [e1] at hv
      have ev : v = .non := hv
      subst ev
      walk_at "ro"
      exact kn e1
    | some q =>
      rw [e1] at hv
      obtain ⟨t, rfl, ht⟩ := (show ∃ t, v = .ref t ∧ H t = some (.tup [vN q.1, rV q.2]) from hv)
      obtain ⟨g, rfl, g32, eg⟩ := entOf_bad pg e4 (by rw [e1]; intro z; cases z)
      rw [e1] at eg
      walk_at "ro"
      refine ⟨_, _, _, _, rfl, rfl, SqL.of h2, atC e rfl (by rw [List.getElem?_map, hd]; rfl), ?_⟩
      walk_at "ro"
      have hv2 : valV kvs (.inl (g : Int)) ≠ none := by
        rcases hg g with ⟨z, _⟩ | ⟨v, _, z, _⟩
        · rw [eg] at z; cases z
        · rw [z]; intro c; cases c
      refine ⟨_, kvs, .inl (g : Int), rfl, hk, rfl, Option.isSome_iff_ne_none.mpr hv2, ?_⟩
      walk_at "ro"
      exact ks g rfl (by rw [eg]; intro z; cases z) _ (pg.one hd ((pg.es e _ hd).drop hk)) (ChgP.upd (fun _ _ _ h => h) (.inr (.inr (List.mem_of_getElem? hd))))
abbrev s_Pages_load : Stmt := inClass (topS 22) 4
abbrev ns_Pages_load : List Str := ["self", "environment", "page", "index", "entry"]
theorem sc_Pages_load : FnScope ns_Pages_load ["self", "environment", "page", "index"] (defScope s_Pages_load) := ⟨rfl, rfl, rfl, by decide +kernel, rfl, by decide +kernel, by decide +kernel⟩

theorem ok_Pages_load {f : Addr} {fd : FuncData} (F : Fun K "load" "Pages.load" s_Pages_load f fd) (T : Txt K mg C_Frames C_Pages C_NotValid) (D_Pages_entry : Mth P w K mg base CX0 6 C_Pages "entry" ["self", "environment", "page"] (spEntry C_Pages)) (D_is_index : Dfn P w K mg base CX0 3 "is_index" ["value", "many"] spIdx) (D_Frames_read : Mth P w K mg base (L2.CX P w) 5 C_Frames "read" ["self", "frame", "index"] (spRead C_Frames)) : FnOk P w K mg base (L2.CX P w) 7 f fd ["self", "environment", "page", "index"] (spLoad C_Frames C_Pages) := by
  have ho_Pages := T.o_Pages; have hn_Pages__frames := T.n_Pages__frames; have hn_Pages__entries := T.n_Pages__entries
  refine F.okX sc_Pages_load (fun vs H Q E h => ?_) (fun cdv A outer s H vs Q E hr h => ?_)
  · obtain ⟨P', y, x, dx, L, ds, en, a, s', e, j, i, rfl, _⟩ := h
    rfl
  · obtain ⟨P', y, x, dx, L, ds, en, a, s', e, j, i, rfl, fm, pg, e4, hw, kn, ks⟩ := h
    refine ⟨_, (pss_cons (ps_set (i := 4) sc_Pages_load.nd rfl (Or.inl rfl) (pe_dmeth (pv 0) D_Pages_entry (hr.mono (by decide)) pass0 (pa_cons (pv 1) (pa_cons (pv 2) pa_nil))))
  (pss_cons (ps_if (PW.pt (pw_or (pt_cmpR op_isN (pv 4) pe_non (nomark _)) (pw_or1 (pt_not (pt_val (pe_dcall D_is_index (hr.mono (by decide)) (by rfl) pass0 (pa_cons (pv 3) (pa_cons (pe_gint (by rfl) T.c_WORDS) pa_nil)))))))) (pss_one (ps_ret pe_non)) pss_nil)
  (pss_one (ps_ret (pe_dmeth (kFld K (pv 0) rfl) D_Frames_read (hr.mono (by decide)) (passes_call (takes_of rfl rfl rfl rfl) fun _ _ _ _ h => h) (pa_cons (pe_ix (kIxT K) (pv 4) pe_int (fun _ _ => rfl)) (pa_cons (pv 3) pa_nil))))))), ?_⟩
    have h1 := pg.ins
    have h3 := fm.ins
    have h2 := pg.l
    walk_at "ro"
    refine ⟨y, x, dx, L, ds, en, e, j, rfl, pg, e4, fun v hv => ?_⟩
    cases e1 : entOf en e j with
    | none =>
      rw [e1] at hv
      have ev : v = .non := hv
      subst ev
      walk_at "ro"
      exact kn (.inl e1)
    | some q =>
      rw [e1] at hv
      obtain ⟨t, rfl, ht⟩ := (show ∃ t, v = .ref t ∧ H t = some (.tup [vN q.1, rV q.2]) from hv)
      walk_at "ro"
      refine ⟨_, .int i, _, rfl, .int _, _, rfl, ?_⟩
      cases e2 : isI (.int i) 0 ((8 : Int) - 1) with
      | false =>
        walk_at "ro"
        exact kn (.inr e2)
      | true =>
        obtain ⟨k, ei, k8⟩ := isI_nat e2
        cases ei
        obtain ⟨fm2, l8⟩ := hw q.1 q.2 e1
        have k8' : k < (s'.wd.getD q.1 []).length := by omega
        walk_at "ro"
        refine ⟨P', x, a, s', q.1, k, (s'.wd.getD q.1 [])[k], rfl, fm, fm2, by omega, List.getElem?_eq_getElem k8', ?_⟩
        exact ks q.1 q.2 k _ e1 rfl (by omega) (List.getElem?_eq_getElem k8')
abbrev s_Pages_store : Stmt := inClass (topS 22) 5
abbrev ns_Pages_store : List Str := ["self", "environment", "page", "index", "word", "entry"]
theorem sc_Pages_store : FnScope ns_Pages_store ["self", "environment", "page", "index", "word"] (defScope s_Pages_store) := ⟨rfl, rfl, rfl, by decide +kernel, rfl, by decide +kernel, by decide +kernel⟩

theorem ok_Pages_store {f : Addr} {fd : FuncData} (F : Fun K "store" "Pages.store" s_Pages_store f fd) (T : Txt K mg C_Frames C_Pages C_NotValid) (D_Pages_entry : Mth P w K mg base CX0 6 C_Pages "entry" ["self", "environment", "page"] (spEntry C_Pages)) (D_is_index : Dfn P w K mg base CX0 3 "is_index" ["value", "many"] spIdx) (D_is_word : Dfn P w K mg base CX0 3 "is_word" ["value"] spWord) (D_Frames_write : Mth P w K mg base (L2.CX P w) 5 C_Frames "write" ["self", "frame", "index", "word"] (spWrite C_Frames)) : FnOk P w K mg base (L2.CX P w) 7 f fd ["self", "environment", "page", "index", "word"] (spStore C_Frames C_Pages) := by
  have ho_Pages := T.o_Pages; have hn_Pages__frames := T.n_Pages__frames; have hn_Pages__entries := T.n_Pages__entries
  refine F.okX sc_Pages_store (fun vs H Q E h => ?_) (fun cdv A outer s H vs Q E hr h => ?_)
  · obtain ⟨P', y, x, dx, L, ds, en, a, s', e, j, i, w, rfl, _⟩ := h
    rfl
  · obtain ⟨P', y, x, dx, L, ds, en, a, s', e, j, i, w, rfl, fm, pg, e4, hw, kn, ks⟩ := h
    refine ⟨_, (pss_cons (ps_set (i := 5) sc_Pages_store.nd rfl (Or.inl rfl) (pe_dmeth (pv 0) D_Pages_entry (hr.mono (by decide)) pass0 (pa_cons (pv 1) (pa_cons (pv 2) pa_nil))))
  (pss_cons (ps_if (PW.pt (pw_or (pt_cmpR op_isN (pv 5) pe_non (nomark _)) (pw_or1 (pt_cmpR op_ne (pe_ix (kIxT K) (pv 5) pe_int (fun _ _ => rfl)) pe_str (nomark _))))) (pss_one (ps_ret pe_bl)) pss_nil)
  (pss_cons (ps_if (PW.pt (pw_or (pt_not (pt_val (pe_dcall D_is_index (hr.mono (by decide)) (by rfl) pass0 (pa_cons (pv 3) (pa_cons (pe_gint (by rfl) T.c_WORDS) pa_nil))))) (pw_or1 (pt_not (pt_val (pe_dcall D_is_word (hr.mono (by decide)) (by rfl) pass0 (pa_cons (pv 4) pa_nil))))))) (pss_one (ps_ret pe_bl)) pss_nil)
  (pss_cons (ps_expr (pe_dmeth (kFld K (pv 0) rfl) D_Frames_write (hr.mono (by decide)) (passes_call (takes_of rfl rfl rfl rfl) fun _ _ _ _ h => h) (pa_cons (pe_ix (kIxT K) (pv 5) pe_int (fun _ _ => rfl)) (pa_cons (pv 3) (pa_cons (pv 4) pa_nil)))))
  (pss_one (ps_ret pe_bl)))))), ?_⟩
    have h1 := pg.ins
    have h3 := fm.ins
    have h2 := pg.l
    walk_at "ro"
    refine ⟨y, x, dx, L, ds, en, e, j, rfl, pg, e4, fun v hv => ?_⟩
    cases e1 : entOf en e j with
    | none =>
      rw [e1] at hv
      have ev : v = .non := hv
      subst ev
      walk_at "ro"
      exact kn (by unfold mayS; rw [e1]; rfl)
    | some q =>
      obtain ⟨f, b⟩ := q
      rw [e1] at hv
      obtain ⟨t, rfl, ht⟩ := (show ∃ t, v = .ref t ∧ H t = some (.tup [vN f, rV b]) from hv)
      cases b with
      | false =>
        walk_at "ro"
        exact kn (by unfold mayS; rw [e1]; rfl)
      | true =>
        walk_at "ro"
        refine ⟨_, .int i, _, rfl, .int _, _, rfl, ?_⟩
        cases e2 : isI (.int i) 0 ((8 : Int) - 1) with
        | false =>
          walk_at "ro"
          exact kn (by unfold mayS; rw [e1, show isI (.int i) 0 7 = false from e2]; rfl)
        | true =>
          obtain ⟨k, ei, k8⟩ := isI_nat e2
          cases ei
          obtain ⟨fm2, l8⟩ := hw f true e1
          walk_at "ro"
          refine ⟨_, .int w, rfl, .int _, ?_⟩
          cases e3 : isI (.int w) 0 4294967295 with
          | false =>
            walk_at "ro"
            exact kn (by unfold mayS; rw [e1, show isI (.int (k : Int)) 0 7 = true from e2, e3]; rfl)
          | true =>
            obtain ⟨n, en', n32⟩ := isI_nat e3
            cases en'
            walk_at "ro"
            refine ⟨P', x, a, s', f, k, n, rfl, fm, fm2, by omega, l8, by omega, fun H' fr' c => ?_⟩
            walk_at "ro"
            exact ks f k n e1 rfl (by omega) rfl (by omega) H' fr' c
end
end My

namespace My
open PySem L2
local macro_rules | `(tactic| walk_at "ne") => `(tactic| first | assumption | exact Ne.symm (by assumption) | exact ne_of_none (by assumption) (by assumption) | exact Ne.symm (ne_of_none (by assumption) (by assumption)))
local macro_rules | `(tactic| walk_at "hp") => `(tactic| first | assumption | with_reducible exact upd_same | (with_reducible refine Eq.trans (upd_ne ?_) ?_; rotate_left; walk_at "hp"; walk_at "ne"))
local macro_rules | `(tactic| walk_at "cnd") => `(tactic| first | omega | (show (0 : Int) < _; omega) | exact ⟨by omega, by omega⟩ | exact Or.inl ⟨by omega, by omega⟩ | exact Or.inr ⟨by omega, by omega⟩ | exact ⟨by omega, by omega, by decide⟩ | exact ⟨by omega, by omega, by omega⟩)
local macro_rules | `(tactic| walk_at "at") => `(tactic| first | exact atC 0 rfl rfl | exact atC 1 rfl rfl | exact atC 2 rfl rfl | exact atC 3 rfl rfl | exact atC 4 rfl rfl | exact atC 5 rfl rfl | exact atC 6 rfl rfl | exact atC 7 rfl rfl)
local macro_rules | `(tactic| walk_at "ix") => `(tactic| first | exact ixC 0 rfl (Nat.le_of_ble_eq_true rfl) | exact ixC 1 rfl (Nat.le_of_ble_eq_true rfl) | exact ixC 2 rfl (Nat.le_of_ble_eq_true rfl) | exact ixC 3 rfl (Nat.le_of_ble_eq_true rfl) | exact ixC 4 rfl (Nat.le_of_ble_eq_true rfl) | exact ixC 5 rfl (Nat.le_of_ble_eq_true rfl))
local macro_rules | `(tactic| walk_at "st") => `(tactic| first
  | refine ⟨_, rfl, ?_⟩
  | refine ⟨_, _, rfl, rfl, (by walk_at "cnd" : (_ : Prop)), ?_⟩
  | refine ⟨_, _, rfl, rfl, ?_⟩
  | refine ⟨rfl, ?_⟩
  | refine Or.inl ⟨_, rfl, ?_⟩
  | refine ⟨_, _, _, _, rfl, rfl, by exact SqL.of (by walk_at "hp"), by walk_at "at", ?_⟩
  | refine ⟨_, _, _, _, rfl, rfl, by exact SqT.of (by walk_at "hp"), by walk_at "at", ?_⟩
  | refine ⟨_, _, _, _, rfl, rfl, by walk_at "hp", by walk_at "ix", ?_⟩
  | refine ⟨_, _, rfl, Or.inl (by exact SqL.of (by walk_at "hp")), ?_⟩
  | refine ⟨_, _, rfl, Or.inr (by exact SqT.of (by walk_at "hp")), ?_⟩)
local macro_rules | `(tactic| walk_at "so") => `(tactic| first
  | refine ⟨_, _, _, _, _, rfl, by walk_at "hp", by assumption, by assumption, rfl, ?_⟩
  | refine ⟨_, _, _, _, rfl, by walk_at "hp", by assumption, by assumption, Nat.le_of_ble_eq_true rfl, ?_⟩
  | refine ⟨_, _, _, rfl, by walk_at "hp", rfl, ?_⟩
  | walk_at "st")
local macro_rules | `(tactic| walk_at "ro") => `(tactic| repeat walk_at "so")
local macro_rules | `(tactic| walk_at "run") => `(tactic| repeat walk_at "st")

/-! ### entries that fall -/
theorem units65 {k : Nat} {A : Around} (r : Room k A) : A.units + 65 < cLine := by have := r.un; omega
theorem kNotInD {X : Cx} (K : PySem.W.Frag) (hu : X.A.units + 65 < cLine) (h : X.K = K := by rfl) : OpR X (compareOp .NotIn) (rNotInD K) := by subst h; exact op_notInD hu
def pD (q : Nat × Bool) : PyData := .tuple [.int (q.1 : Int), .str (rS q.2)]
theorem dp_pair {K : PySem.W.Frag} {H : Hp} {t : Addr} {f : Nat} {b : Bool} (h : H t = some (.tup [vN f, rV b])) : Dp K H (.ref t) (pD (f, b)) := .tup (SqT.of h) (.cons (.int _) (.cons (.str _) .nil))
theorem sh_pair (q : Nat × Bool) : Sh 4 (pD q) := by
  refine Sh.tup (n := 3) fun d hd => ?_
  simp only [List.mem_cons, List.not_mem_nil, or_false] at hd
  rcases hd with rfl | rfl
  · exact Sh.int _ _
  · cases q.2 <;> exact ⟨by decide +kernel, by decide +kernel⟩
theorem eqv_pair (p q : Nat × Bool) : PyData.eqv (pD p) (pD q) = decide (p = q) := by
  obtain ⟨a, b⟩ := p
  obtain ⟨c, d⟩ := q
  have h : PyData.eqv (pD (a, b)) (pD (c, d)) = (((a : Int) == (c : Int)) && ((rS b == rS d) && true)) := by
    unfold pD
    rw [PyData.eqv, PyData.eqvAll, PyData.eqv, PyData.eqvAll, PyData.eqv, PyData.eqvAll]
  rw [h]
  have e1 : ((a : Int) == (c : Int)) = decide (a = c) := by
    by_cases z : a = c
    · rw [z, decide_eq_true rfl]; exact beq_self_eq_true _
    · rw [decide_eq_false z]
      exact beq_false_of_ne (fun w => z (Int.ofNat.inj w))
  have e2 : (rS b == rS d) = decide (b = d) := by cases b <;> cases d <;> decide +kernel
  rw [e1, e2, Bool.and_true]
  by_cases z : a = c <;> by_cases w : b = d <;> simp [z, w]
theorem any_pair (fs : List (Nat × Bool)) (q : Nat × Bool) : ((fs.map pD).any fun z => PyData.eqv z (pD q)) = decide (q ∈ fs) := by
  induction fs with
  | nil => rfl
  | cons p r ih =>
    rw [List.map_cons, List.any_cons, ih, eqv_pair]
    by_cases z : p = q
    · subst z; simp
    · have : ¬ q = p := fun w => z w.symm
      simp [z, this]
def keepB (en : Nat → PE2) (fs : List (Nat × Bool)) (p : Key × V) : Bool := match p.1 with
  | .inl g => (match en g.toNat with | some q => !decide (q ∈ fs) | none => false)
  | .inr _ => false
theorem keepB_at {en : Nat → PE2} {fs : List (Nat × Bool)} {g : Nat} {v : V} {q : Nat × Bool} (h : en g = some q) : keepB en fs (.inl (g : Int), v) = !decide (q ∈ fs) := by
  unfold keepB
  show (match en ((g : Int)).toNat with | some q => !decide (q ∈ fs) | none => false) = _
  rw [Int.toNat_natCast, h]
def fall1 (en : Nat → PE2) (fs : List (Nat × Bool)) : Nat → PE2 := fun j => match en j with | some q => if q ∈ fs then none else some q | none => none
def fallE (en : Nat → Nat → PE2) (e : Nat) (fs : List (Nat × Bool)) : Nat → Nat → PE2 := fun i => if i = e then fall1 (en i) fs else en i
theorem PgD.fall {H H' : Hp} {d D : Addr} {en : Nat → PE2} {fs : List (Nat × Bool)} {kvs : List (Key × V)} (h : PgD H d en) (e : H d = some (.dK kvs)) (hD : H' D = some (.dK (kvs.filter (keepB en fs)))) (ts : TuS H H') : PgD H' D (fall1 en fs) := by
  obtain ⟨kvs', h1, nd, h2, h3⟩ := h
  rw [e] at h1
  cases h1
  refine ⟨_, hD, nd.sublist (List.filter_sublist.map _), fun p hp => ?_, fun j hj => ?_⟩
  · obtain ⟨hp, hk⟩ := List.mem_filter.mp hp
    obtain ⟨j, t', f', b', j1, ep, ht', ej⟩ := h2 p hp
    subst ep
    rw [keepB_at ej] at hk
    refine ⟨j, t', f', b', j1, rfl, ts _ _ ht', ?_⟩
    unfold fall1
    rw [ej]
    have : ¬ (f', b') ∈ fs := by simpa using hk
    exact if_neg this
  · unfold fall1 at hj
    cases ej : en j with
    | none => rw [ej] at hj; exact absurd rfl hj
    | some q =>
      rw [ej] at hj
      have nq : q ∉ fs := fun z => hj (if_pos z)
      obtain ⟨v, hv⟩ := h3 j (by rw [ej]; intro z; cases z)
      refine ⟨v, ?_⟩
      have hm : (Sum.inl (j : Int), v) ∈ kvs.filter (keepB en fs) := List.mem_filter.mpr ⟨valV_inD hv, by rw [keepB_at ej, decide_eq_false nq]; rfl⟩
      exact valV_memD (nd.sublist (List.filter_sublist.map _)) hm
def spFall (C : Addr) : Sp := fun vs H Q _ => ∃ (y x dx L : Addr) (ds : List Addr) (en : Nat → Nat → PE2) (e : Nat) (fl : Addr) (ts : List Addr) (fs : List (Nat × Bool)), vs = [.ref y, .int (e : Int), .ref fl] ∧ Pg C H y x dx L ds en ∧ e < 4 ∧ H fl = some (.lst (ts.map V.ref)) ∧ fl ≠ L ∧ ts.length = fs.length ∧ fs.length ≤ 2 ∧ (∀ (j : Nat) t q, ts[j]? = some t → fs[j]? = some q → H t = some (.tup [vN q.1, rV q.2])) ∧
  ∀ ds' H', Pg C H' y x dx L ds' (fallE en e fs) → (∀ d ∈ ds', d ∈ ds ∨ H d = none) → ChgP (pgS y L ds) H H' → Q .non H'
def spEnded (C : Addr) (g : Nat → List (Nat × Bool)) : Sp := fun vs H Q _ => ∃ (y x dx L : Addr) (ds : List Addr) (en : Nat → Nat → PE2) (e f : Nat), vs = [.ref y, .int (e : Int), .int (f : Int)] ∧ Pg C H y x dx L ds en ∧ e < 4 ∧
  ∀ ds' H', Pg C H' y x dx L ds' (fallE en e (g f)) → (∀ d ∈ ds', d ∈ ds ∨ H d = none) → ChgP (pgS y L ds) H H' → Q .non H'
theorem dpAll_pairs {K : PySem.W.Frag} {H : Hp} : ∀ {ts : List Addr} {fs : List (Nat × Bool)}, ts.length = fs.length → (∀ (j : Nat) t q, ts[j]? = some t → fs[j]? = some q → H t = some (.tup [vN q.1, rV q.2])) → DpAll K H (ts.map V.ref) (fs.map pD)
  | [], [], _, _ => .nil
  | t :: ts, q :: fs, l, h => .cons (dp_pair (h 0 t q rfl rfl)) (dpAll_pairs (Nat.succ.inj l) fun j t q a b => h (j + 1) t q a b)
  | [], _ :: _, l, _ => by cases l
  | _ :: _, [], l, _ => by cases l
section
variable {P : Program} {w : World} {K : PySem.W.Frag} {mg : Str → Option Value} {base : Heap} {C_Frames C_Pages C_NotValid : Addr}
abbrev s_Pages_let_fall : Stmt := inClass (topS 22) 8
abbrev ns_Pages_let_fall : List Str := ["self", "environment", "fallen", "entries", "page"]
theorem sc_Pages_let_fall : FnScope ns_Pages_let_fall ["self", "environment", "fallen"] (defScope s_Pages_let_fall) := ⟨rfl, rfl, rfl, by decide +kernel, rfl, by decide +kernel, by decide +kernel⟩

theorem ok_Pages_let_fall {f : Addr} {fd : FuncData} (F : Fun K "_let_fall" "Pages._let_fall" s_Pages_let_fall f fd) (T : Txt K mg C_Frames C_Pages C_NotValid) (D_is_environment : Dfn P w K mg base CX0 4 "is_environment" ["value"] spEnv) : FnOk P w K mg base CX0 5 f fd ["self", "environment", "fallen"] (spFall C_Pages) := by
  have ho_Pages := T.o_Pages; have hn_Pages__frames := T.n_Pages__frames; have hn_Pages__entries := T.n_Pages__entries
  refine F.ok sc_Pages_let_fall (fun vs H Q E h => ?_) (fun cdv A outer s H vs Q E hr h => ?_)
  · obtain ⟨y, x, dx, L, ds, en, e, fl, ts, fs, rfl, _⟩ := h
    rfl
  · obtain ⟨y, x, dx, L, ds, en, e, fl, ts, fs, rfl, pg, e4, hfl, flL, tl, f2, ht, k⟩ := h
    refine ⟨_, (pss_cons (ps_if (pt_not (pt_val (pe_dcall D_is_environment (hr.mono (by decide)) (by rfl) pass0 (pa_cons (pv 1) pa_nil)))) (pss_one ps_retN) pss_nil)
  (pss_cons (ps_set (i := 3) sc_Pages_let_fall.nd rfl (Or.inr rfl) (pe_ix (kIxL K) (kFld K (pv 0) rfl) (pv 1) (fun _ _ => rfl)))
  (pss_one (ps_asg (pe_lock (pe_dc (own := [("page", 4)]) (by rfl) sc_Pages_let_fall.nd (pi_keys (pv 3)) (blkOk_by (N := ns_Pages_let_fall) (sc := defScope s_Pages_let_fall) (by decide +kernel)) (fun _ _ _ _ _ => (pg_name (i := 4) sc_Pages_let_fall.nd rfl (Or.inl rfl))) (fun _ _ _ _ _ => (pts_one (pt_cmpR (kNotInD K (units65 hr)) (pe_dget (units1 hr) (pv 3) (pv 4) (fun _ _ => rfl)) (pv 2) (by rfl)))) (fun _ _ _ _ _ => (pv 4)) (fun _ _ _ _ _ => (pe_dget (units1 hr) (pv 3) (pv 4) (fun _ _ => rfl))))) (pg_sub (kFld K (pv 0) rfl) (pv 1) set_list))))), ?_⟩
    have h1 := pg.ins
    have h2 := pg.l
    have el : e < ds.length := by rw [pg.l4]; exact e4
    have hd := List.getElem?_eq_getElem el
    obtain ⟨kvs, hk, hlen, hg⟩ := (pg.es e _ hd).get
    generalize ds[e] = d at hd hk hg
    obtain ⟨kvs', hk', ndk, hkm, _⟩ := id (pg.es e d hd)
    rw [hk] at hk'
    cases hk'
    walk_at "ro"
    refine ⟨_, .int (e : Int), rfl, .int _, ?_⟩
    rw [isE_nat e4]
    walk_at "ro"
    refine ⟨_, _, _, _, rfl, rfl, SqL.of h2, atC e rfl (by rw [List.getElem?_map, hd]; rfl), ?_⟩
    walk_at "ro"
    refine ⟨d, _, hk, True.intro, fun od => ?_⟩
    walk_at "ro"
    refine ⟨d, od, rfl, .inl ⟨_, upd_same, fun D hD => ?_⟩⟩
    have hG : (upd H d (.frz od (.dK kvs))) d = some (.frz od (.dK kvs)) := upd_same
    have nDd : d ≠ D := ne_of_none hG hD
    have oth : ∀ z o, z ≠ d → H z = some o → (upd H d (.frz od (.dK kvs))) z = some o := fun z o n q => by rw [upd_ne n]; exact q
    have tus : ∀ t l, H t = some (.tup l) → (upd H d (.frz od (.dK kvs))) t = some (.tup l) := fun t l q => oth t _ (ne_of q hk (by intro z; cases z)) q
    refine ⟨fun j m Hx => m = kvs.length - j ∧ j ≤ kvs.length ∧ Hx D = some (.dK ((kvs.take j).filter (keepB (en e) fs))) ∧ Same (upd H d (.frz od (.dK kvs))) Hx, ⟨_, rfl, Nat.zero_le _, upd_same, Same.new hD⟩, ?_⟩
    rintro j m Hx ⟨rfl, hj, hxD, sx⟩
    have hxd := sx d _ hG
    by_cases hlt : j < kvs.length
    · refine .inr ⟨⟨hxd, hlt⟩, fun H' => H' D = some (.dK ((kvs.take (j + 1)).filter (keepB (en e) fs))) ∧ Same (upd H d (.frz od (.dK kvs))) H', fun H' ⟨h1, h2⟩ => ⟨kvs.length - (j + 1), by omega, rfl, hlt, h1, h2⟩, ?_⟩
      rintro u H' ⟨rfl, kk, v, hkv, rfl⟩
      have hm := List.mem_of_getElem? hkv
      obtain ⟨g, t, f, b, g32, ep, ht2, eg⟩ := hkm _ hm
      injection ep with ep1 ep2
      subst ep1
      subst ep2
      have hvv : valV kvs (.inl (g : Int)) = some (.ref t) := valV_memD ndk hm
      have etk : kvs.take (j + 1) = kvs.take j ++ [(.inl (g : Int), .ref t)] := by rw [List.take_add_one, hkv]; rfl
      have kb := keepB_at (fs := fs) (v := V.ref t) eg
      have hxfl : H' fl = some (.lst (ts.map V.ref)) := sx _ _ (oth fl _ (ne_of hfl hk (by intro z; cases z)) hfl)
      have dg : DGet H' d (.int (g : Int)) (some (.ref t)) := .inl ⟨kvs, .inl (g : Int), .inr ⟨od, hxd⟩, rfl, hvv.symm⟩
      have dp1 : Dp K H' (.ref t) (pD (f, b)) := dp_pair (sx _ _ (tus _ _ ht2))
      have dp2 : Dp K H' (.ref fl) (.list (fs.map pD)) := .lst (SqL.of hxfl) (dpAll_pairs tl fun j t q a c => sx _ _ (tus _ _ (ht j t q a c)))
      have sh2 : SeqAt.shaped (.list (fs.map pD)) = true := (Sh.lst (n := 4) fun d hd => by
        obtain ⟨q, _, rfl⟩ := List.mem_map.mp hd
        exact sh_pair q).ok
      refine ⟨rfl, ?_⟩
      walk_at "ro"
      refine ⟨_, _, rfl, dg, ?_⟩
      walk_at "ro"
      refine ⟨_, _, dp1, dp2, (sh_pair _).ok, sh2, ?_⟩
      rw [any_pair]
      rw [etk, List.filter_append]
      by_cases q : (f, b) ∈ fs
      · rw [decide_eq_true q] at kb ⊢
        have kb' : keepB (en e) fs (.inl (g : Int), .ref t) = false := kb
        rw [List.filter_cons_of_neg (by rw [kb']; intro z; cases z), List.filter_nil, List.append_nil]
        walk_at "ro"
        exact ⟨hxD, sx⟩
      · rw [decide_eq_false q] at kb ⊢
        have kb' : keepB (en e) fs (.inl (g : Int), .ref t) = true := kb
        rw [List.filter_cons_of_pos kb', List.filter_nil]
        walk_at "ro"
        refine ⟨_, _, rfl, dg, ?_⟩
        have nin : valV ((kvs.take j).filter (keepB (en e) fs)) (.inl (g : Int)) = none := by
          cases y : valV ((kvs.take j).filter (keepB (en e) fs)) (.inl (g : Int)) with
          | none => rfl
          | some v =>
            have m1 := (List.mem_filter.mp (valV_inD y)).1
            have n1 : ((kvs.take j ++ [((.inl (g : Int) : Key), V.ref t)]).map (·.1)).Nodup := by
              rw [← etk]
              exact ndk.sublist ((List.take_sublist _ _).map _)
            rw [List.map_append] at n1
            exact absurd rfl ((List.nodup_append.mp n1).2.2 _ (List.mem_map_of_mem (f := (·.1)) m1) (.inl (g : Int)) (by simp))
        refine ⟨_, .inl (g : Int), rfl, hxD, ?_, ?_, ?_⟩
        · have := List.length_filter_le (keepB (en e) fs) (kvs.take j)
          rw [List.length_take] at this
          exact szt (by omega)
        · rw [putK_new _ nin]; exact upd_same
        · exact Same.mut sx hD
    · have ej : j = kvs.length := by omega
      subst ej
      rw [List.take_length] at hxD
      refine .inl ⟨⟨hxd, Nat.le_refl _⟩, hxd, ?_⟩
      have s1 : Same H (upd Hx d (.dK kvs)) := fun b o q => by
        by_cases z : b = d
        · subst z; rw [upd_same, ← q, hk]
        · rw [upd_ne z]; exact sx _ _ (oth b o z q)
      have hD1 : upd Hx d (.dK kvs) D = some (.dK (kvs.filter (keepB (en e) fs))) := by rw [upd_ne nDd.symm]; exact hxD
      have hD0 : H D = none := by
        have : (upd H d (.frz od (.dK kvs))) D = none := hD
        rw [upd_ne nDd.symm] at this
        exact this
      generalize upd Hx d (.dK kvs) = H1 at s1 hD1 ⊢
      have h11 := s1 _ _ h1
      have h21 := s1 _ _ h2
      walk_at "ro"
      refine ⟨_, _, _, e, rfl, rfl, h21, ixC e rfl (by rw [List.length_map]; exact el), ?_⟩
      have els : (ds.map V.ref).set e (.ref D) = (ds.set e D).map V.ref := by rw [List.map_set]
      rw [els]
      have Dn : D ∉ ds := fun z => by
        obtain ⟨i, hi, ei⟩ := List.mem_iff_getElem.mp z
        obtain ⟨kv, hkv, _⟩ := pg.es i D (by rw [List.getElem?_eq_getElem hi, ei])
        rw [hD0] at hkv; cases hkv
      have tl1 : ∀ t l, H1 t = some (.tup l) → (upd H1 L (.lst ((ds.set e D).map V.ref))) t = some (.tup l) := fun t l q => by
        rw [upd_ne (ne_of q h21 (by intro z; cases z))]; exact q
      refine k (ds.set e D) _ ⟨?_, upd_same, by rw [List.length_set]; exact pg.l4, nodup_set pg.nd Dn, fun i d' hi => ?_⟩ (fun z hz => ?_) ((ChgP.same s1).upd (.inr (.inl rfl)))
      · rw [upd_ne (ne_of h11 h21 (by intro z; cases z))]; exact h11
      · by_cases q : i = e
        · subst q
          rw [List.getElem?_set_self el] at hi
          cases hi
          unfold fallE
          rw [if_pos rfl]
          have dL : D ≠ L := fun z => by rw [z, h2] at hD0; cases hD0
          refine PgD.fall (pg.es i d hd) hk (by rw [upd_ne dL]; exact hD1) (fun t l q => tl1 t l (s1 _ _ q))
        · rw [List.getElem?_set_ne (fun z => q z.symm)] at hi
          unfold fallE
          rw [if_neg q]
          refine (pg.es i d' hi).keep (fun o ho => ?_) (fun t l q => tl1 t l (s1 _ _ q))
          obtain ⟨kv, hkv, _⟩ := pg.es i d' hi
          rw [upd_ne (ne_of (s1 _ _ hkv) h21 (by intro z; cases z))]
          exact s1 _ _ ho
      · rcases List.mem_or_eq_of_mem_set hz with q | q
        · exact .inl q
        · exact .inr (by rw [q]; exact hD0)
end
end My

namespace My
open PySem L2
local macro_rules | `(tactic| walk_at "ne") => `(tactic| first | assumption | exact Ne.symm (by assumption) | exact ne_of_none (by assumption) (by assumption) | exact Ne.symm (ne_of_none (by assumption) (by assumption)))
local macro_rules | `(tactic| walk_at "hp") => `(tactic| first | assumption | with_reducible exact upd_same | (with_reducible refine Eq.trans (upd_ne ?_) ?_; rotate_left; walk_at "hp"; walk_at "ne"))
local macro_rules | `(tactic| walk_at "cnd") => `(tactic| first | omega | (show (0 : Int) < _; omega) | exact ⟨by omega, by omega⟩ | exact Or.inl ⟨by omega, by omega⟩ | exact Or.inr ⟨by omega, by omega⟩ | exact ⟨by omega, by omega, by decide⟩ | exact ⟨by omega, by omega, by omega⟩)
local macro_rules | `(tactic| walk_at "at") => `(tactic| first | exact atC 0 rfl rfl | exact atC 1 rfl rfl | exact atC 2 rfl rfl | exact atC 3 rfl rfl | exact atC 4 rfl rfl | exact atC 5 rfl rfl | exact atC 6 rfl rfl | exact atC 7 rfl rfl)
local macro_rules | `(tactic| walk_at "ix") => `(tactic| first | exact ixC 0 rfl (Nat.le_of_ble_eq_true rfl) | exact ixC 1 rfl (Nat.le_of_ble_eq_true rfl) | exact ixC 2 rfl (Nat.le_of_ble_eq_true rfl) | exact ixC 3 rfl (Nat.le_of_ble_eq_true rfl) | exact ixC 4 rfl (Nat.le_of_ble_eq_true rfl) | exact ixC 5 rfl (Nat.le_of_ble_eq_true rfl))
local macro_rules | `(tactic| walk_at "st") => `(tactic| first
  | refine ⟨_, rfl, ?_⟩
  | refine ⟨_, _, rfl, rfl, (by walk_at "cnd" : (_ : Prop)), ?_⟩
  | refine ⟨_, _, rfl, rfl, ?_⟩
  | refine ⟨rfl, ?_⟩
  | refine Or.inl ⟨_, rfl, ?_⟩
  | refine ⟨_, _, _, _, rfl, rfl, by exact SqL.of (by walk_at "hp"), by walk_at "at", ?_⟩
  | refine ⟨_, _, _, _, rfl, rfl, by exact SqT.of (by walk_at "hp"), by walk_at "at", ?_⟩
  | refine ⟨_, _, _, _, rfl, rfl, by walk_at "hp", by walk_at "ix", ?_⟩
  | refine ⟨_, _, rfl, Or.inl (by exact SqL.of (by walk_at "hp")), ?_⟩
  | refine ⟨_, _, rfl, Or.inr (by exact SqT.of (by walk_at "hp")), ?_⟩)
local macro_rules | `(tactic| walk_at "so") => `(tactic| first
  | refine ⟨_, _, _, _, _, rfl, by walk_at "hp", by assumption, by assumption, rfl, ?_⟩
  | refine ⟨_, _, _, _, rfl, by walk_at "hp", by assumption, by assumption, Nat.le_of_ble_eq_true rfl, ?_⟩
  | refine ⟨_, _, _, rfl, by walk_at "hp", rfl, ?_⟩
  | walk_at "st")
local macro_rules | `(tactic| walk_at "ro") => `(tactic| repeat walk_at "so")
local macro_rules | `(tactic| walk_at "run") => `(tactic| repeat walk_at "st")

def bothF (f : Nat) : List (Nat × Bool) := [(f, false), (f, true)]
def rwF (f : Nat) : List (Nat × Bool) := [(f, true)]
theorem Pg.L_none {C y x dx L : Addr} {ds : List Addr} {H : Hp} {en : Nat → Nat → PE2} (h : Pg C H y x dx L ds en) {q : Addr} (hq : H q = none) : q ≠ L := fun z => by rw [z, h.l] at hq; cases hq
theorem same_chgP {P : Addr → Prop} {H H1 H2 : Hp} (s : Same H H1) (c : ChgP P H1 H2) : ChgP P H H2 := fun b o n e => c b o n (s b o e)
theorem none_same {H H1 : Hp} {b : Addr} (s : Same H H1) (h : H1 b = none) : H b = none := by
  cases y : H b with
  | none => rfl
  | some o => rw [s b o y] at h; cases h
section
variable {P : Program} {w : World} {K : PySem.W.Frag} {mg : Str → Option Value} {base : Heap} {C_Frames C_Pages C_NotValid : Addr}
abbrev s_Pages_ended : Stmt := inClass (topS 22) 6
abbrev ns_Pages_ended : List Str := ["self", "environment", "frame"]
theorem sc_Pages_ended : FnScope ns_Pages_ended ["self", "environment", "frame"] (defScope s_Pages_ended) := ⟨rfl, rfl, rfl, by decide +kernel, rfl, by decide +kernel, by decide +kernel⟩

theorem ok_Pages_ended {f : Addr} {fd : FuncData} (F : Fun K "ended" "Pages.ended" s_Pages_ended f fd) (T : Txt K mg C_Frames C_Pages C_NotValid) (D_Pages_let_fall : Mth P w K mg base CX0 5 C_Pages "_let_fall" ["self", "environment", "fallen"] (spFall C_Pages)) : FnOk P w K mg base CX0 6 f fd ["self", "environment", "frame"] (spEnded C_Pages bothF) := by
  have ho_Pages := T.o_Pages; have hn_Pages__frames := T.n_Pages__frames; have hn_Pages__entries := T.n_Pages__entries
  refine F.ok sc_Pages_ended (fun vs H Q E h => ?_) (fun cdv A outer s H vs Q E hr h => ?_)
  · obtain ⟨y, x, dx, L, ds, en, e, f, rfl, _⟩ := h
    rfl
  · obtain ⟨y, x, dx, L, ds, en, e, f, rfl, pg, e4, k⟩ := h
    refine ⟨_, (pss_one (ps_expr (pe_dmeth (pv 0) D_Pages_let_fall (hr.mono (by decide)) pass0 (pa_cons (pv 1) (pa_cons (pe_lst (pa_cons (pe_tup (pa_cons (pv 2) (pa_cons pe_str pa_nil))) (pa_cons (pe_tup (pa_cons (pv 2) (pa_cons pe_str pa_nil))) pa_nil))) pa_nil))))), ?_⟩
    have h1 := pg.ins
    walk_at "ro"
    refine ⟨szl rfl, fun q1 hq1 => ?_⟩
    walk_at "ro"
    refine ⟨szl rfl, fun q2 hq2 => ?_⟩
    walk_at "ro"
    refine ⟨szl rfl, fun q3 hq3 => ?_⟩
    have a1 : (upd H q1 (.tup [V.int (f : Int), V.str "r"])) q1 = some (.tup [vN f, rV false]) := upd_same
    have sa := Same.new (o := .tup [V.int (f : Int), V.str "r"]) hq1
    generalize upd H q1 (.tup [V.int (f : Int), V.str "r"]) = H1 at a1 sa hq2 hq3 ⊢
    have a2 : (upd H1 q2 (.tup [V.int (f : Int), V.str "rw"])) q2 = some (.tup [vN f, rV true]) := upd_same
    have sb := Same.new (o := .tup [V.int (f : Int), V.str "rw"]) hq2
    have a1 := sb _ _ a1
    generalize upd H1 q2 (.tup [V.int (f : Int), V.str "rw"]) = H2 at a1 a2 sb hq3 ⊢
    have a3 : (upd H2 q3 (.lst [V.ref q1, V.ref q2])) q3 = some (.lst [V.ref q1, V.ref q2]) := upd_same
    have sc := Same.new (o := .lst [V.ref q1, V.ref q2]) hq3
    have a1 := sc _ _ a1
    have a2 := sc _ _ a2
    have ss := (sa.trans sb).trans sc
    have qL : q3 ≠ L := (pg.same (sa.trans sb)).L_none hq3
    generalize upd H2 q3 (.lst [V.ref q1, V.ref q2]) = H3 at a1 a2 a3 ss ⊢
    have pg3 := pg.same ss
    refine ⟨y, x, dx, L, ds, en, e, q3, [q1, q2], bothF f, rfl, pg3, e4, a3, qL, rfl, Nat.le_refl _, fun j t q c d => ?_, fun ds' H' p i c => ?_⟩
    · rcases j with _ | _ | j
      · cases c; cases d; exact a1
      · cases c; cases d; exact a2
      · cases c
    · walk_at "ro"
      exact k ds' H' p (fun z hz => (i z hz).elim .inl fun w => .inr (none_same ss w)) (same_chgP ss c)
abbrev s_Pages_narrowed : Stmt := inClass (topS 22) 7
abbrev ns_Pages_narrowed : List Str := ["self", "environment", "frame"]
theorem sc_Pages_narrowed : FnScope ns_Pages_narrowed ["self", "environment", "frame"] (defScope s_Pages_narrowed) := ⟨rfl, rfl, rfl, by decide +kernel, rfl, by decide +kernel, by decide +kernel⟩

theorem ok_Pages_narrowed {f : Addr} {fd : FuncData} (F : Fun K "narrowed" "Pages.narrowed" s_Pages_narrowed f fd) (T : Txt K mg C_Frames C_Pages C_NotValid) (D_Pages_let_fall : Mth P w K mg base CX0 5 C_Pages "_let_fall" ["self", "environment", "fallen"] (spFall C_Pages)) : FnOk P w K mg base CX0 6 f fd ["self", "environment", "frame"] (spEnded C_Pages rwF) := by
  have ho_Pages := T.o_Pages; have hn_Pages__frames := T.n_Pages__frames; have hn_Pages__entries := T.n_Pages__entries
  refine F.ok sc_Pages_narrowed (fun vs H Q E h => ?_) (fun cdv A outer s H vs Q E hr h => ?_)
  · obtain ⟨y, x, dx, L, ds, en, e, f, rfl, _⟩ := h
    rfl
  · obtain ⟨y, x, dx, L, ds, en, e, f, rfl, pg, e4, k⟩ := h
    refine ⟨_, (pss_one (ps_expr (pe_dmeth (pv 0) D_Pages_let_fall (hr.mono (by decide)) pass0 (pa_cons (pv 1) (pa_cons (pe_lst (pa_cons (pe_tup (pa_cons (pv 2) (pa_cons pe_str pa_nil))) pa_nil)) pa_nil))))), ?_⟩
    have h1 := pg.ins
    walk_at "ro"
    refine ⟨szl rfl, fun q2 hq2 => ?_⟩
    walk_at "ro"
    refine ⟨szl rfl, fun q3 hq3 => ?_⟩
    have a2 : (upd H q2 (.tup [V.int (f : Int), V.str "rw"])) q2 = some (.tup [vN f, rV true]) := upd_same
    have sb := Same.new (o := .tup [V.int (f : Int), V.str "rw"]) hq2
    generalize upd H q2 (.tup [V.int (f : Int), V.str "rw"]) = H2 at a2 sb hq3 ⊢
    have a3 : (upd H2 q3 (.lst [V.ref q2])) q3 = some (.lst [V.ref q2]) := upd_same
    have sc := Same.new (o := .lst [V.ref q2]) hq3
    have a2 := sc _ _ a2
    have ss := sb.trans sc
    have qL : q3 ≠ L := (pg.same sb).L_none hq3
    generalize upd H2 q3 (.lst [V.ref q2]) = H3 at a2 a3 ss ⊢
    have pg3 := pg.same ss
    refine ⟨y, x, dx, L, ds, en, e, q3, [q2], rwF f, rfl, pg3, e4, a3, qL, rfl, (by show 1 ≤ 2; omega), fun j t q c d => ?_, fun ds' H' p i c => ?_⟩
    · rcases j with _ | j
      · cases c; cases d; exact a2
      · cases c
    · walk_at "ro"
      exact k ds' H' p (fun z hz => (i z hz).elim .inl fun w => .inr (none_same ss w)) (same_chgP ss c)
end
def spInitP (C : Addr) : Sp := fun vs H Q _ => ∃ (y dx x : Addr), vs = [.ref y, .ref x] ∧ H y = some (.ins C dx []) ∧
  ∀ L ds H', Pg C H' y x dx L ds (fun _ _ => none) → H L = none → (∀ d ∈ ds, H d = none) → Chg y H H' → Q .non H'
section
variable {P : Program} {w : World} {K : PySem.W.Frag} {mg : Str → Option Value} {base : Heap} {C_Frames C_Pages C_NotValid : Addr}
abbrev s_Pages_init : Stmt := inClass (topS 22) 0
abbrev ns_Pages_init : List Str := ["self", "frames", "_"]
theorem sc_Pages_init : FnScope ns_Pages_init ["self", "frames"] (defScope s_Pages_init) := ⟨rfl, rfl, rfl, by decide +kernel, rfl, by decide +kernel, by decide +kernel⟩

theorem ok_Pages_init {f : Addr} {fd : FuncData} (F : Fun K "__init__" "Pages.__init__" s_Pages_init f fd) (T : Txt K mg C_Frames C_Pages C_NotValid) : FnOk P w K mg base CX0 1 f fd ["self", "frames"] (spInitP C_Pages) := by
  have ho_Pages := T.o_Pages; have hn_Pages__frames := T.n_Pages__frames; have hn_Pages__entries := T.n_Pages__entries
  refine F.ok sc_Pages_init (fun vs H Q E h => ?_) (fun cdv A outer s H vs Q E hr h => ?_)
  · obtain ⟨y, dx, x, rfl, _⟩ := h
    rfl
  · obtain ⟨y, dx, x, rfl, hy, k⟩ := h
    refine ⟨_, (pss_cons (kSFld K (pv 0) (pv 1) rfl)
  (pss_one (kSFld K (pv 0) (pe_lc (own := [("_", 2)]) (by rfl) sc_Pages_init.nd (pi_range1 (by rfl) T.b_range (pa_cons (pe_gint (by rfl) T.c_ENVIRONMENTS) pa_nil)) (blkOk_by (N := ns_Pages_init) (sc := defScope s_Pages_init) (by decide +kernel)) (fun _ _ _ _ _ => (pg_name (i := 2) sc_Pages_init.nd rfl (Or.inl rfl))) (fun _ _ _ _ _ => pts_nil) (fun _ _ _ _ _ => pe_dnewK)) rfl))), ?_⟩
    walk_at "ro"
    have c1 : Chg y H (upd H y (.ins C_Pages dx (putF "_frames" (.ref x) []))) := Chg.upd
    have hy1 : (upd H y (.ins C_Pages dx (putF "_frames" (.ref x) []))) y = some (.ins C_Pages dx [("_frames", .ref x)]) := upd_same
    generalize upd H y (.ins C_Pages dx (putF "_frames" (.ref x) [])) = H1 at c1 hy1 ⊢
    refine ⟨by decide, by decide, fun L hL => ?_⟩
    refine lcRow (ob := .dK []) (by decide) hL ?_ ?_
    · intro j H2 Q' s2 q
      refine ⟨rfl, ?_⟩
      walk_at "ro"
      refine fun q1 hq1 => ?_
      exact q q1 _ hq1 (Same.new hq1) upd_same
    intro H2 ds s2 dL lw aw nw
    have l4 : ds.length = 4 := lw
    have hy2 := s2 _ _ hy1
    walk_at "ro"
    have yL : y ≠ L := fun z => by rw [z, dL] at hy2; cases hy2
    have yd : ∀ d ∈ ds, d ≠ y := fun d hd z => by rw [z] at hd; have := (aw y hd).1; rw [hy2] at this; cases this
    have nb : ∀ b, b ≠ y → H1 b = none → H b = none := fun b n h => none_back c1 n h
    refine k L ds _ ⟨?_, ?_, l4, nw, fun e d hd => ?_⟩ (nb L yL.symm hL) (fun d hd => nb d (yd d hd) (aw d hd).2.1) ?_
    · exact upd_same
    · rw [upd_ne yL.symm]; exact dL
    · have hm := List.mem_of_getElem? hd
      refine ⟨[], by rw [upd_ne (yd d hm)]; exact (aw d hm).1, List.nodup_nil, fun p hp => (by cases hp), fun g hg => absurd rfl hg⟩
    · exact (c1.trans (Same.chg s2)).trans Chg.upd
end
end My

namespace My
open PySem L2
local macro_rules | `(tactic| walk_at "ne") => `(tactic| first | assumption | exact Ne.symm (by assumption) | exact ne_of_none (by assumption) (by assumption) | exact Ne.symm (ne_of_none (by assumption) (by assumption)))
local macro_rules | `(tactic| walk_at "hp") => `(tactic| first | assumption | with_reducible exact upd_same | (with_reducible refine Eq.trans (upd_ne ?_) ?_; rotate_left; walk_at "hp"; walk_at "ne"))
local macro_rules | `(tactic| walk_at "cnd") => `(tactic| first | omega | (show (0 : Int) < _; omega) | exact ⟨by omega, by omega⟩ | exact Or.inl ⟨by omega, by omega⟩ | exact Or.inr ⟨by omega, by omega⟩ | exact ⟨by omega, by omega, by decide⟩ | exact ⟨by omega, by omega, by omega⟩)
local macro_rules | `(tactic| walk_at "at") => `(tactic| first | exact atC 0 rfl rfl | exact atC 1 rfl rfl | exact atC 2 rfl rfl | exact atC 3 rfl rfl | exact atC 4 rfl rfl | exact atC 5 rfl rfl | exact atC 6 rfl rfl | exact atC 7 rfl rfl)
local macro_rules | `(tactic| walk_at "ix") => `(tactic| first | exact ixC 0 rfl (Nat.le_of_ble_eq_true rfl) | exact ixC 1 rfl (Nat.le_of_ble_eq_true rfl) | exact ixC 2 rfl (Nat.le_of_ble_eq_true rfl) | exact ixC 3 rfl (Nat.le_of_ble_eq_true rfl) | exact ixC 4 rfl (Nat.le_of_ble_eq_true rfl) | exact ixC 5 rfl (Nat.le_of_ble_eq_true rfl))
local macro_rules | `(tactic| walk_at "st") => `(tactic| first
  | refine ⟨_, rfl, ?_⟩
  | refine ⟨_, _, rfl, rfl, (by walk_at "cnd" : (_ : Prop)), ?_⟩
  | refine ⟨_, _, rfl, rfl, ?_⟩
  | refine ⟨rfl, ?_⟩
  | refine Or.inl ⟨_, rfl, ?_⟩
  | refine ⟨_, _, _, _, rfl, rfl, by exact SqL.of (by walk_at "hp"), by walk_at "at", ?_⟩
  | refine ⟨_, _, _, _, rfl, rfl, by exact SqT.of (by walk_at "hp"), by walk_at "at", ?_⟩
  | refine ⟨_, _, _, _, rfl, rfl, by walk_at "hp", by walk_at "ix", ?_⟩
  | refine ⟨_, _, rfl, Or.inl (by exact SqL.of (by walk_at "hp")), ?_⟩
  | refine ⟨_, _, rfl, Or.inr (by exact SqT.of (by walk_at "hp")), ?_⟩)
local macro_rules | `(tactic| walk_at "so") => `(tactic| first
  | refine ⟨_, _, _, _, _, rfl, by walk_at "hp", by assumption, by assumption, rfl, ?_⟩
  | refine ⟨_, _, _, _, rfl, by walk_at "hp", by assumption, by assumption, Nat.le_of_ble_eq_true rfl, ?_⟩
  | refine ⟨_, _, _, rfl, by walk_at "hp", rfl, ?_⟩
  | walk_at "st")
local macro_rules | `(tactic| walk_at "ro") => `(tactic| repeat walk_at "so")
local macro_rules | `(tactic| walk_at "run") => `(tactic| repeat walk_at "st")

def kk2 (e f : Nat) : List Key := [.inl (e : Int), .inl (f : Int)]
theorem kk2_inj {e f e' f' : Nat} : kk2 e f = kk2 e' f' ↔ e = e' ∧ f = f' := by
  unfold kk2
  constructor
  · intro h
    injection h with h1 h2
    injection h2 with h2 _
    exact ⟨keyI.mp h1, keyI.mp h2⟩
  · rintro ⟨rfl, rfl⟩; rfl
theorem valV_dropG {κ : Type} [DecidableEq κ] (k j : κ) : ∀ kvs : List (κ × V), valV (dropK kvs k) j = if j = k then none else valV kvs j
  | [] => by
    by_cases q : j = k
    · rw [if_pos q]; rfl
    · rw [if_neg q]; rfl
  | p :: r => by
    have ih := valV_dropG k j r
    by_cases e : p.1 = k
    · rw [dropK_pos e, ih]
      by_cases q : j = k
      · rw [if_pos q, if_pos q]
      · rw [if_neg q, if_neg q, valV_neg (fun z => q (z.symm.trans e))]
    · rw [dropK_neg e]
      by_cases y : p.1 = j
      · rw [valV_pos y, if_neg (fun z => e (y.trans z)), valV_pos y]
      · rw [valV_neg y, ih, valV_neg y]
theorem keys_thin (l : RL) (f : Nat) : keysR (thinR l f) = keysR l := by
  unfold keysR thinR
  rw [List.map_map]
  congr 1
  funext p
  show (if p.1 = f then (p.1, false) else p).1 = p.1
  split <;> rfl
theorem get_thin {l : RL} {f : Nat} (h : getR l f ≠ none) (g : Nat) : getR (thinR l f) g = if g = f then some false else getR l g := by
  apply rV_inj
  rw [← valR, ← thin_ent h, valV_put]
  by_cases q : g = f
  · rw [if_pos (keyI.mpr q), if_pos q]; rfl
  · rw [if_neg (fun z => q (keyI.mp z)), if_neg q, valR]
theorem dropO_sub {n : Nat} {l : List (Nat × RL)} {f : Nat} (h : l.length ≤ n ∧ ∀ p ∈ l, p.2.length ≤ n) : (dropO l f).length ≤ n ∧ ∀ p ∈ dropO l f, p.2.length ≤ n :=
  ⟨Nat.le_trans (List.length_filter_le _ _) h.1, fun p hp => h.2 p (List.mem_filter.mp hp).1⟩
theorem OB.endS {n : Nat} {s : FS} {e f : Nat} (h : OB n s.of) (he : e < s.of.length) : OB n (endS s e f).of := by
  have q : s.of.getD e [] ∈ s.of := by
    rw [List.getD_eq_getElem?_getD, List.getElem?_eq_getElem he]
    exact List.getElem_mem he
  obtain ⟨a, b⟩ := dropO_sub (f := f) (h _ q)
  exact h.set0 a b
theorem OB.le {n n' : Nat} {of : List (List (Nat × RL))} (h : OB n of) (l : n ≤ n') : OB n' of := fun x hx => ⟨by have := (h x hx).1; omega, fun p hp => by have := (h x hx).2 p hp; omega⟩
theorem Fr.chg {C : Addr} {P : Addr → Prop} {H H' : Hp} {x : Addr} {a : FA} {s : FS} (h : Fr C P H x a s) (c : ∀ b ∈ a.own x, ∀ o, H b = some o → H' b = some o) : Fr C P H' x a s := by
  have hd : ∀ b, b ∈ heads a x → b ∈ a.own x := fun b hb => by unfold FA.own; exact List.mem_append_left _ hb
  have hw : ∀ b ∈ a.wds, b ∈ a.own x := fun b hb => by unfold FA.own; exact List.mem_append_right _ (List.mem_append_left _ hb)
  have hr : ∀ b ∈ a.rds, b ∈ a.own x := fun b hb => by unfold FA.own; exact List.mem_append_right _ (List.mem_append_right _ (List.mem_append_left _ hb))
  have ho : ∀ b ∈ a.ods, b ∈ a.own x := fun b hb => by unfold FA.own; exact List.mem_append_right _ (List.mem_append_right _ (List.mem_append_right _ (List.mem_append_left _ hb)))
  have ht : ∀ b ∈ a.tks, b ∈ a.own x := fun b hb => by unfold FA.own; exact List.mem_append_right _ (List.mem_append_right _ (List.mem_append_right _ (List.mem_append_right _ (List.mem_append_left _ hb))))
  have hi : ∀ b ∈ a.ids.flatten, b ∈ a.own x := fun b hb => by unfold FA.own; exact List.mem_append_right _ (List.mem_append_right _ (List.mem_append_right _ (List.mem_append_right _ (List.mem_append_right _ hb))))
  refine ⟨h.ok, h.nd, h.mine, c _ (hd _ (by simp [heads])) _ h.ins, c _ (hd _ (by simp [heads])) _ h.w, h.ws.mono fun d l m r => c d (hw d m) _ r, c _ (hd _ (by simp [heads])) _ h.hs, c _ (hd _ (by simp [heads])) _ h.r, h.rs.mono fun d l m r => c d (hr d m) _ r, c _ (hd _ (by simp [heads])) _ h.o, h.il, ⟨h.os.1, fun j d q hd' hq => ?_⟩, c _ (hd _ (by simp [heads])) _ h.ha, c _ (hd _ (by simp [heads])) _ h.he, c _ (hd _ (by simp [heads])) _ h.t, h.ts.mono fun d l m r => c d (ht d m) _ r⟩
  obtain ⟨g1, g2⟩ := h.os.2 j d q hd' hq
  obtain ⟨h8, _⟩ := List.getElem?_zip_eq_some.mp hq
  exact ⟨c d (ho d (List.mem_of_getElem? hd')) _ g1, g2.mono fun i p m r => c i (hi i (List.mem_flatten.mpr ⟨q.1, List.mem_of_getElem? h8, m⟩)) _ r⟩

theorem Fr.nt {C : Addr} {P : Addr → Prop} {H : Hp} {x : Addr} {a : FA} {s : FS} (h : Fr C P H x a s) : ∀ b ∈ a.own x, ∀ l, H b ≠ some (.tup l) := by
  have each : ∀ {α : Type} {rel : Hp → Addr → α → Prop} {ds : List Addr} {ls : List α}, Each rel H ds ls → (∀ d l, rel H d l → ∀ l, H d ≠ some (.tup l)) → ∀ b ∈ ds, ∀ l, H b ≠ some (.tup l) := by
    intro α rel ds ls e f b hb
    obtain ⟨j, hj, eb⟩ := List.mem_iff_getElem.mp hb
    exact f b _ (e.2 j b (ls[j]'(by rw [← e.1]; exact hj)) (by rw [List.getElem?_eq_getElem hj, eb]) (List.getElem?_eq_getElem _))
  have ns : ∀ d l, NsL H d l → ∀ l, H d ≠ some (.tup l) := fun d l r l => by rw [show H d = _ from r]; exact fun z => by cases z
  have rt : ∀ d l, RtD H d l → ∀ l, H d ≠ some (.tup l) := fun d l r l => by rw [show H d = _ from r]; exact fun z => by cases z
  intro b hb
  unfold FA.own at hb
  rcases List.mem_append.mp hb with hb | hb
  · simp only [List.mem_cons, List.not_mem_nil, or_false] at hb
    rcases hb with rfl | rfl | rfl | rfl | rfl | rfl | rfl | rfl
    · intro l; rw [h.ins]; exact fun z => by cases z
    · intro l; rw [h.w]; exact fun z => by cases z
    · exact ns _ _ h.hs
    · intro l; rw [h.r]; exact fun z => by cases z
    · intro l; rw [h.o]; exact fun z => by cases z
    · exact ns _ _ h.ha
    · exact ns _ _ h.he
    · intro l; rw [h.t]; exact fun z => by cases z
  rcases List.mem_append.mp hb with hb | hb
  · exact each h.ws ns b hb
  rcases List.mem_append.mp hb with hb | hb
  · exact each h.rs rt b hb
  rcases List.mem_append.mp hb with hb | hb
  · exact each h.os (fun d q r l => by rw [r.1]; exact fun z => by cases z) b hb
  rcases List.mem_append.mp hb with hb | hb
  · exact each h.ts ns b hb
  obtain ⟨is, hi, hb⟩ := List.mem_flatten.mp hb
  obtain ⟨e, he, ei⟩ := List.mem_iff_getElem.mp hi
  have oe : e < s.of.length := by rw [← h.il]; exact he
  have hz : (a.ids.zip s.of)[e]? = some (is, s.of[e]) := List.getElem?_zip_eq_some.mpr ⟨by rw [List.getElem?_eq_getElem he, ei], List.getElem?_eq_getElem oe⟩
  obtain ⟨d, hd, q⟩ := h.os.at hz
  exact each q.2 (fun d p r => rt d p.2 r) b hb
/-! ### the law's own things -/
structure LA where
  (tp ts x y dx L E W : Addr)
def LD (H : Hp) (E : Addr) (el : Nat → Nat → PE2) (n : Nat) : Prop := ∃ kvs, H E = some (.dT kvs) ∧ kvs.length ≤ n ∧ ∀ e g : Nat, e < 4 → (el e g = none ∧ valV kvs (kk2 e g) = none) ∨ ∃ v, valV kvs (kk2 e g) = some v ∧ el e g ≠ none ∧ EntV H v (el e g)
abbrev WM := Nat → Option (Addr × List Nat)
def WD (H : Hp) (W : Addr) (wm : WM) (n : Nat) : Prop := ∃ kvs, H W = some (.dK kvs) ∧ kvs.length ≤ n ∧ (∀ f : Nat, valV kvs (.inl (f : Int)) = (wm f).map fun q => V.ref q.1) ∧ (∀ f q, wm f = some q → NsL H q.1 q.2) ∧ ∀ f f' q q', wm f = some q → wm f' = some q' → q.1 = q'.1 → f = f'
theorem EntV.ts {H H' : Hp} {v : V} {o : PE2} (h : EntV H v o) (t : TuS H H') : EntV H' v o := by
  cases o with
  | none => exact h
  | some q =>
    obtain ⟨t', e, ht⟩ := h
    exact ⟨t', e, t _ _ ht⟩
theorem LD.keep {H H' : Hp} {E : Addr} {el : Nat → Nat → PE2} {n n' : Nat} (h : LD H E el n) (k : ∀ o, H E = some o → H' E = some o) (t : TuS H H') (l : n ≤ n') : LD H' E el n' := by
  obtain ⟨kvs, h1, h2, h3⟩ := h
  refine ⟨kvs, k _ h1, by omega, fun e g he => ?_⟩
  rcases h3 e g he with z | ⟨v, a, b, c⟩
  · exact .inl z
  · exact .inr ⟨v, a, b, c.ts t⟩
theorem WD.keep {H H' : Hp} {W : Addr} {wm : WM} {n n' : Nat} (h : WD H W wm n) (k : ∀ o, H W = some o → H' W = some o) (k2 : ∀ f q o, wm f = some q → H q.1 = some o → H' q.1 = some o) (l : n ≤ n') : WD H' W wm n' := by
  obtain ⟨kvs, h1, h2, h3, h4, h5⟩ := h
  exact ⟨kvs, k _ h1, by omega, h3, fun f q e => k2 f q _ e (h4 f q e), h5⟩
def role (A : LA) (a : FA) (ds : List Addr) (wm : WM) (z : Addr) (k : Nat) : Prop :=
  (k = 1 ∧ z ∈ a.own A.x) ∨ (k = 2 ∧ pgS A.y A.L ds z) ∨ (k = 3 ∧ (z = A.tp ∨ z = A.ts)) ∨ (k = 4 ∧ z = A.E) ∨ (k = 5 ∧ z = A.W) ∨ (k = 6 ∧ ∃ f q, wm f = some q ∧ z = q.1)
theorem un_step {r r' : Addr → Nat → Prop} {H : Hp} {k0 : Nat} (un : ∀ z k k', r z k → r z k' → k = k') (al : ∀ z k, r z k → H z ≠ none) (h : ∀ z k, r' z k → r z k ∨ (H z = none ∧ k = k0)) : ∀ z k k', r' z k → r' z k' → k = k' := by
  intro z k k' a b
  rcases h z k a with a | ⟨a, a2⟩ <;> rcases h z k' b with b | ⟨b, b2⟩
  · exact un z k k' a b
  · exact absurd b (al z k a)
  · exact absurd a (al z k' b)
  · rw [a2, b2]
structure JP (CF CP : Addr) (A : LA) (H : Hp) (a : FA) (s : FS) (ds : List Addr) (en el : Nat → Nat → PE2) (wm : WM) (n : Nat) : Prop where
  tape : Tape H A.tp A.ts
  fr : Fr CF (fun z => z ∈ a.own A.x) H A.x a s
  pg : Pg CP H A.y A.x A.dx A.L ds en
  ld : LD H A.E el n
  wd : WD H A.W wm n
  un : ∀ z k k', role A a ds wm z k → role A a ds wm z k' → k = k'
theorem Pg.al {C y x dx L : Addr} {ds : List Addr} {H : Hp} {en : Nat → Nat → PE2} (h : Pg C H y x dx L ds en) : ∀ z, pgS y L ds z → H z ≠ none := by
  intro z hz
  rcases hz with e | e | e
  · rw [e, h.ins]; intro z; cases z
  · rw [e, h.l]; intro z; cases z
  · obtain ⟨j, hj, ej⟩ := List.mem_iff_getElem.mp e
    obtain ⟨kvs, hk, _⟩ := h.es j z (by rw [List.getElem?_eq_getElem hj, ej])
    rw [hk]; intro z; cases z
section
variable {CF CP : Addr} {A : LA} {H H' : Hp} {a a' : FA} {s s' : FS} {ds ds' : List Addr} {en en' el el' : Nat → Nat → PE2} {wm wm' : WM} {n n' : Nat}
theorem JP.al (j : JP CF CP A H a s ds en el wm n) : ∀ z k, role A a ds wm z k → H z ≠ none := by
  intro z k h
  rcases h with ⟨_, h⟩ | ⟨_, h⟩ | ⟨_, h⟩ | ⟨_, h⟩ | ⟨_, h⟩ | ⟨_, f, q, h, e⟩
  · exact j.fr.al z h
  · exact j.pg.al z h
  · obtain ⟨ns, i, r, y, ha, hs, _⟩ := j.tape
    rcases h with h | h
    · rw [h, ha]; intro z; cases z
    · rw [h, hs]; intro z; cases z
  · obtain ⟨kvs, h1, _⟩ := j.ld
    rw [h, h1]; intro z; cases z
  · obtain ⟨kvs, h1, _⟩ := j.wd
    rw [h, h1]; intro z; cases z
  · obtain ⟨kvs, _, _, _, h4, _⟩ := j.wd
    rw [e, show H q.1 = _ from h4 f q h]; intro z; cases z
/-- what is of another role stays -/
theorem JP.rest (j : JP CF CP A H a s ds en el wm n) {S : Addr → Prop} {k0 : Nat} (hS : ∀ z, S z → role A a ds wm z k0) (c : ChgP S H H') {z : Addr} {k : Nat} {o : HO} (r : role A a ds wm z k) (hk : k ≠ k0) (h : H z = some o) : H' z = some o :=
  c z o (fun q => hk (j.un z k k0 r (hS z q))) h
theorem Tape.keep2 {H H' : Hp} {a t : Addr} (h : Tape H a t) (c1 : ∀ o, H a = some o → H' a = some o) (c2 : ∀ o, H t = some o → H' t = some o) : Tape H' a t := by
  obtain ⟨ns, i, r, z, ha, hs, q⟩ := h
  exact ⟨ns, i, r, z, c1 _ ha, c2 _ hs, q⟩
theorem r1 {z : Addr} (h : z ∈ a.own A.x) : role A a ds wm z 1 := .inl ⟨rfl, h⟩
theorem r2 {z : Addr} (h : pgS A.y A.L ds z) : role A a ds wm z 2 := .inr (.inl ⟨rfl, h⟩)
theorem r3a : role A a ds wm A.tp 3 := .inr (.inr (.inl ⟨rfl, .inl rfl⟩))
theorem r3b : role A a ds wm A.ts 3 := .inr (.inr (.inl ⟨rfl, .inr rfl⟩))
theorem r4 : role A a ds wm A.E 4 := .inr (.inr (.inr (.inl ⟨rfl, rfl⟩)))
theorem r5 : role A a ds wm A.W 5 := .inr (.inr (.inr (.inr (.inl ⟨rfl, rfl⟩))))
theorem r6 {f : Nat} {q : Addr × List Nat} (h : wm f = some q) : role A a ds wm q.1 6 := .inr (.inr (.inr (.inr (.inr ⟨rfl, f, q, h, rfl⟩))))
theorem JP.same (j : JP CF CP A H a s ds en el wm n) (c : Same H H') : JP CF CP A H' a s ds en el wm n :=
  ⟨j.tape.same c, j.fr.same c, j.pg.same c, j.ld.keep (fun _ => c _ _) (TuS.same c) (Nat.le_refl _), j.wd.keep (fun _ => c _ _) (fun _ _ _ _ => c _ _) (Nat.le_refl _), j.un⟩
theorem JP.le (j : JP CF CP A H a s ds en el wm n) (l : n ≤ n') : JP CF CP A H a s ds en el wm n' :=
  ⟨j.tape, j.fr, j.pg, j.ld.keep (fun _ h => h) (fun _ _ h => h) l, j.wd.keep (fun _ h => h) (fun _ _ _ _ h => h) l, j.un⟩
theorem JP.draw (j : JP CF CP A H a s ds en el wm n) (t : Tape H' A.tp A.ts) (c : Chg A.tp H H') : JP CF CP A H' a s ds en el wm n := by
  have c' : ChgP (fun z => z = A.tp) H H' := fun b o n h => c b o n h
  have hS : ∀ z, z = A.tp → role A a ds wm z 3 := fun z e => by rw [e]; exact r3a
  have ts : TuS H H' := c'.ts fun z e l h => by
    obtain ⟨xs, q⟩ := j.tape.lst
    rw [e, q] at h; cases h
  exact ⟨t, j.fr.chg fun b hb o => j.rest hS c' (r1 hb) (by decide), j.pg.keep (fun z o hz => j.rest hS c' (r2 hz) (by decide)) ts, j.ld.keep (fun o => j.rest hS c' r4 (by decide)) ts (Nat.le_refl _), j.wd.keep (fun o => j.rest hS c' r5 (by decide)) (fun f q o e => j.rest hS c' (r6 e) (by decide)) (Nat.le_refl _), j.un⟩
theorem JP.frames {P' : Addr → Prop} (j : JP CF CP A H a s ds en el wm n) (f : Fr CF P' H' A.x a' s') (hP : ∀ z ∈ a'.own A.x, z ∈ a.own A.x ∨ H z = none) (c : ChgP (fun z => z ∈ a.own A.x) H H') : JP CF CP A H' a' s' ds en el wm n := by
  have hS : ∀ z, z ∈ a.own A.x → role A a ds wm z 1 := fun z e => r1 e
  have ts : TuS H H' := c.ts fun z e l h => j.fr.nt z e l h
  refine ⟨j.tape.keep2 (fun o => j.rest hS c r3a (by decide)) (fun o => j.rest hS c r3b (by decide)), f.mono fun z h => h, j.pg.keep (fun z o hz => j.rest hS c (r2 hz) (by decide)) ts, j.ld.keep (fun o => j.rest hS c r4 (by decide)) ts (Nat.le_refl _), j.wd.keep (fun o => j.rest hS c r5 (by decide)) (fun f q o e => j.rest hS c (r6 e) (by decide)) (Nat.le_refl _), un_step (k0 := 1) j.un j.al fun z k h => ?_⟩
  rcases h with ⟨e, h⟩ | h
  · rcases hP z h with q | q
    · exact .inl (.inl ⟨e, q⟩)
    · exact .inr ⟨q, e⟩
  · exact .inl (.inr h)
theorem JP.pages (j : JP CF CP A H a s ds en el wm n) (p : Pg CP H' A.y A.x A.dx A.L ds' en') (i : ∀ d ∈ ds', d ∈ ds ∨ H d = none) (c : ChgP (pgS A.y A.L ds) H H') : JP CF CP A H' a s ds' en' el wm n := by
  have hS : ∀ z, pgS A.y A.L ds z → role A a ds wm z 2 := fun z e => r2 e
  have ts : TuS H H' := c.ts j.pg.nt
  refine ⟨j.tape.keep2 (fun o => j.rest hS c r3a (by decide)) (fun o => j.rest hS c r3b (by decide)), j.fr.chg fun b hb o => j.rest hS c (r1 hb) (by decide), p, j.ld.keep (fun o => j.rest hS c r4 (by decide)) ts (Nat.le_refl _), j.wd.keep (fun o => j.rest hS c r5 (by decide)) (fun f q o e => j.rest hS c (r6 e) (by decide)) (Nat.le_refl _), un_step (k0 := 2) j.un j.al fun z k h => ?_⟩
  rcases h with h | ⟨e, h⟩ | h
  · exact .inl (.inl h)
  · rcases h with h | h | h
    · exact .inl (.inr (.inl ⟨e, .inl h⟩))
    · exact .inl (.inr (.inl ⟨e, .inr (.inl h)⟩))
    · rcases i z h with q | q
      · exact .inl (.inr (.inl ⟨e, .inr (.inr q)⟩))
      · exact .inr ⟨q, e⟩
  · exact .inl (.inr (.inr h))
theorem JP.entries (j : JP CF CP A H a s ds en el wm n) (d : LD H' A.E el' n') (l : n ≤ n') (c : ChgP (fun z => z = A.E) H H') : JP CF CP A H' a s ds en el' wm n' := by
  have hS : ∀ z, z = A.E → role A a ds wm z 4 := fun z e => by rw [e]; exact r4
  have ts : TuS H H' := c.ts fun z e l h => by
    obtain ⟨kvs, q, _⟩ := j.ld
    rw [e, q] at h; cases h
  exact ⟨j.tape.keep2 (fun o => j.rest hS c r3a (by decide)) (fun o => j.rest hS c r3b (by decide)), j.fr.chg fun b hb o => j.rest hS c (r1 hb) (by decide), j.pg.keep (fun z o hz => j.rest hS c (r2 hz) (by decide)) ts, d, j.wd.keep (fun o => j.rest hS c r5 (by decide)) (fun f q o e => j.rest hS c (r6 e) (by decide)) l, j.un⟩
/-- a new row of words -/
theorem JP.wput (j : JP CF CP A H a s ds en el wm n) (d : WD H' A.W wm' n') (l : n ≤ n') (c : ChgP (fun z => z = A.W) H H') (i : ∀ f q, wm' f = some q → (∃ f0 q0, wm f0 = some q0 ∧ q.1 = q0.1) ∨ (∀ k, ¬ role A a ds wm q.1 k)) : JP CF CP A H' a s ds en el wm' n' := by
  have hS : ∀ z, z = A.W → role A a ds wm z 5 := fun z e => by rw [e]; exact r5
  have ts : TuS H H' := c.ts fun z e l h => by
    obtain ⟨kvs, q, _⟩ := j.wd
    rw [e, q] at h; cases h
  refine ⟨j.tape.keep2 (fun o => j.rest hS c r3a (by decide)) (fun o => j.rest hS c r3b (by decide)), j.fr.chg fun b hb o => j.rest hS c (r1 hb) (by decide), j.pg.keep (fun z o hz => j.rest hS c (r2 hz) (by decide)) ts, j.ld.keep (fun o => j.rest hS c r4 (by decide)) ts l, d, ?_⟩
  have red : ∀ z k, role A a ds wm' z k → role A a ds wm z k ∨ (k = 6 ∧ ∀ k', ¬ role A a ds wm z k') := by
    intro z k h
    rcases h with h | h | h | h | h | ⟨e, f, q, h, ez⟩
    · exact .inl (.inl h)
    · exact .inl (.inr (.inl h))
    · exact .inl (.inr (.inr (.inl h)))
    · exact .inl (.inr (.inr (.inr (.inl h))))
    · exact .inl (.inr (.inr (.inr (.inr (.inl h)))))
    · rcases i f q h with ⟨f0, q0, w1, w2⟩ | w
      · exact .inl (.inr (.inr (.inr (.inr (.inr ⟨e, f0, q0, w1, by rw [ez, w2]⟩)))))
      · exact .inr ⟨e, by rw [ez]; exact w⟩
  intro z k k' h h'
  rcases red z k h with x | ⟨x, y⟩ <;> rcases red z k' h' with x' | ⟨x', y'⟩
  · exact j.un z k k' x x'
  · exact absurd x (y' k)
  · exact absurd x' (y k')
  · rw [x, x']
/-- a word is set -/
theorem JP.wset (j : JP CF CP A H a s ds en el wm n) (d : WD H' A.W wm' n) {f : Nat} {q : Addr × List Nat} (hf : wm f = some q) (c : ChgP (fun z => z = q.1) H H') (i : ∀ f q, wm' f = some q → ∃ f0 q0, wm f0 = some q0 ∧ q.1 = q0.1) : JP CF CP A H' a s ds en el wm' n := by
  have hS : ∀ z, z = q.1 → role A a ds wm z 6 := fun z e => by rw [e]; exact r6 hf
  have ts : TuS H H' := c.ts fun z e l h => by
    obtain ⟨kvs, _, _, _, h4, _⟩ := j.wd
    rw [e, show H q.1 = _ from h4 f q hf] at h; cases h
  refine ⟨j.tape.keep2 (fun o => j.rest hS c r3a (by decide)) (fun o => j.rest hS c r3b (by decide)), j.fr.chg fun b hb o => j.rest hS c (r1 hb) (by decide), j.pg.keep (fun z o hz => j.rest hS c (r2 hz) (by decide)) ts, j.ld.keep (fun o => j.rest hS c r4 (by decide)) ts (Nat.le_refl _), d, ?_⟩
  have red : ∀ z k, role A a ds wm' z k → role A a ds wm z k := by
    intro z k h
    rcases h with h | h | h | h | h | ⟨e, f, q, h, ez⟩
    · exact .inl h
    · exact .inr (.inl h)
    · exact .inr (.inr (.inl h))
    · exact .inr (.inr (.inr (.inl h)))
    · exact .inr (.inr (.inr (.inr (.inl h))))
    · obtain ⟨f0, q0, w1, w2⟩ := i f q h
      exact .inr (.inr (.inr (.inr (.inr ⟨e, f0, q0, w1, by rw [ez, w2]⟩))))
  exact fun z k k' h h' => j.un z k k' (red z k h) (red z k' h')
end
end My

namespace My
open PySem L2
local macro_rules | `(tactic| walk_at "ne") => `(tactic| first | assumption | exact Ne.symm (by assumption) | exact ne_of_none (by assumption) (by assumption) | exact Ne.symm (ne_of_none (by assumption) (by assumption)))
local macro_rules | `(tactic| walk_at "hp") => `(tactic| first | assumption | with_reducible exact upd_same | (with_reducible refine Eq.trans (upd_ne ?_) ?_; rotate_left; walk_at "hp"; walk_at "ne"))
local macro_rules | `(tactic| walk_at "cnd") => `(tactic| first | omega | (show (0 : Int) < _; omega) | exact ⟨by omega, by omega⟩ | exact Or.inl ⟨by omega, by omega⟩ | exact Or.inr ⟨by omega, by omega⟩ | exact ⟨by omega, by omega, by decide⟩ | exact ⟨by omega, by omega, by omega⟩)
local macro_rules | `(tactic| walk_at "at") => `(tactic| first | exact atC 0 rfl rfl | exact atC 1 rfl rfl | exact atC 2 rfl rfl | exact atC 3 rfl rfl | exact atC 4 rfl rfl | exact atC 5 rfl rfl | exact atC 6 rfl rfl | exact atC 7 rfl rfl)
local macro_rules | `(tactic| walk_at "ix") => `(tactic| first | exact ixC 0 rfl (Nat.le_of_ble_eq_true rfl) | exact ixC 1 rfl (Nat.le_of_ble_eq_true rfl) | exact ixC 2 rfl (Nat.le_of_ble_eq_true rfl) | exact ixC 3 rfl (Nat.le_of_ble_eq_true rfl) | exact ixC 4 rfl (Nat.le_of_ble_eq_true rfl) | exact ixC 5 rfl (Nat.le_of_ble_eq_true rfl))
local macro_rules | `(tactic| walk_at "st") => `(tactic| first
  | refine ⟨_, rfl, ?_⟩
  | refine ⟨_, _, rfl, rfl, (by walk_at "cnd" : (_ : Prop)), ?_⟩
  | refine ⟨_, _, rfl, rfl, ?_⟩
  | refine ⟨rfl, ?_⟩
  | refine Or.inl ⟨_, rfl, ?_⟩
  | refine ⟨_, _, _, _, rfl, rfl, by exact SqL.of (by walk_at "hp"), by walk_at "at", ?_⟩
  | refine ⟨_, _, _, _, rfl, rfl, by exact SqT.of (by walk_at "hp"), by walk_at "at", ?_⟩
  | refine ⟨_, _, _, _, rfl, rfl, by walk_at "hp", by walk_at "ix", ?_⟩
  | refine ⟨_, _, rfl, Or.inl (by exact SqL.of (by walk_at "hp")), ?_⟩
  | refine ⟨_, _, rfl, Or.inr (by exact SqT.of (by walk_at "hp")), ?_⟩)
local macro_rules | `(tactic| walk_at "so") => `(tactic| first
  | refine ⟨_, _, _, _, _, rfl, by walk_at "hp", by assumption, by assumption, rfl, ?_⟩
  | refine ⟨_, _, _, _, rfl, by walk_at "hp", by assumption, by assumption, Nat.le_of_ble_eq_true rfl, ?_⟩
  | refine ⟨_, _, _, rfl, by walk_at "hp", rfl, ?_⟩
  | walk_at "st")
local macro_rules | `(tactic| walk_at "ro") => `(tactic| repeat walk_at "so")
local macro_rules | `(tactic| walk_at "run") => `(tactic| repeat walk_at "st")

structure LG (s : FS) (en : Nat → Nat → PE2) (wm : WM) (n : Nat) : Prop where
  good : Good s
  ob : OB n s.of
  sm : s.m = 10
  rel : ∀ e g f b, e < 4 → en e g = some (f, b) → ∃ c, getR (s.rt.getD e []) f = some c ∧ (b = true → c = true)
  held : ∀ f, heldBy s f = true → ∃ q, wm f = some (q, s.wd.getD f []) ∧ (s.wd.getD f []).length = 8
theorem held_of {s : FS} {e f : Nat} (h4 : s.rt.length = 4) (he : e < 4) (h : getR (s.rt.getD e []) f ≠ none) : heldBy s f = true := by
  unfold heldBy
  have el : e < s.rt.length := by omega
  refine List.any_eq_true.mpr ⟨s.rt[e], List.getElem_mem el, ?_⟩
  rw [List.getD_eq_getElem?_getD, List.getElem?_eq_getElem el] at h
  exact Option.isSome_iff_ne_none.mpr h
theorem held_iff {s : FS} {f : Nat} (h4 : s.rt.length = 4) : heldBy s f = true ↔ ∃ e, e < 4 ∧ getR (s.rt.getD e []) f ≠ none := by
  constructor
  · intro h
    unfold heldBy at h
    obtain ⟨l, hl, hs⟩ := List.any_eq_true.mp h
    obtain ⟨e, he, ee⟩ := List.mem_iff_getElem.mp hl
    refine ⟨e, by omega, ?_⟩
    rw [List.getD_eq_getElem?_getD, List.getElem?_eq_getElem he, ee]
    exact Option.isSome_iff_ne_none.mp hs
  · rintro ⟨e, he, h⟩
    exact held_of h4 he h
theorem get_app (l : RL) (f : Nat) (b : Bool) (g : Nat) (h : getR l f = none) : getR (l ++ [(f, b)]) g = if g = f then some b else getR l g := by
  unfold getR at h ⊢
  rw [List.find?_append]
  by_cases q : g = f
  · subst q
    rw [if_pos rfl]
    have h' : l.find? (fun p => decide (p.1 = g)) = none := by
      cases y : l.find? (fun p => decide (p.1 = g)) with
      | none => rfl
      | some z => rw [y] at h; cases h
    rw [h']
    simp
  · rw [if_neg q]
    have : ¬ f = g := fun z => q z.symm
    simp [this]
section
variable {s : FS} {en : Nat → Nat → PE2} {wm : WM} {n : Nat}
theorem LG.le {n' : Nat} (h : LG s en wm n) (l : n ≤ n') : LG s en wm n' := ⟨h.good, h.ob.le l, h.sm, h.rel, h.held⟩
theorem LG.drop {e f : Nat} (h : LG s en wm n) (ok : FOk s) (he : e < 4) : LG (endS s e f) (fallE en e (bothF f)) wm n := by
  have el : e < s.rt.length := by rw [ok.rt4]; exact he
  have get : ∀ j, (endS s e f).rt.getD j [] = if j = e then dropR (s.rt.getD e []) f else s.rt.getD j [] := fun j => getD_set el
  refine ⟨?_, h.ob.endS (by rw [ok.of4]; exact he), h.sm, fun j g f' b hj hh => ?_, fun f' hf => ?_⟩
  · refine h.good.sub ok.rt4 he (List.Sublist.map _ List.filter_sublist) rfl rfl rfl fun j hj h0 => ?_
    have h0 : 0 < (s.ask.set e (s.ask.getD e 0 - 1)).getD j 0 := h0
    rw [getD_set (by rw [ok.ask4]; exact he)] at h0
    refine h.good.aw j hj ?_
    by_cases y : j = e
    · rw [if_pos y] at h0; rw [y]; omega
    · rw [if_neg y] at h0; exact h0
  · rw [get]
    unfold fallE at hh
    by_cases q : j = e
    · rw [if_pos q] at hh ⊢
      subst q
      unfold fall1 at hh
      cases y : en j g with
      | none => rw [y] at hh; cases hh
      | some p =>
        rw [y] at hh
        by_cases m : p ∈ bothF f
        · have : (if p ∈ bothF f then none else some p) = some (f', b) := hh
          rw [if_pos m] at this; cases this
        · have : (if p ∈ bothF f then none else some p) = some (f', b) := hh
          rw [if_neg m] at this
          cases this
          obtain ⟨c, c1, c2⟩ := h.rel j g f' b hj y
          refine ⟨c, ?_, c2⟩
          rw [get_drop, if_neg, c1]
          intro z
          subst z
          exact m (by cases b <;> simp [bothF])
    · rw [if_neg q] at hh ⊢
      exact h.rel j g f' b hj hh
  · refine h.held f' ?_
    obtain ⟨j, hj, hn⟩ := (held_iff (s := endS s e f) (by show (s.rt.set _ _).length = 4; rw [List.length_set]; exact ok.rt4)).mp hf
    refine held_of ok.rt4 hj fun z => hn ?_
    rw [get]
    by_cases q : j = e
    · rw [if_pos q, get_drop, ← q, z, ite_self]
    · rw [if_neg q]; exact z
theorem LG.narrow {e f : Nat} (h : LG s en wm n) (ok : FOk s) (he : e < 4) (hf : getR (s.rt.getD e []) f = some true) : LG (thinS s e f) (fallE en e (rwF f)) wm n := by
  have el : e < s.rt.length := by rw [ok.rt4]; exact he
  have get : ∀ j, (thinS s e f).rt.getD j [] = if j = e then thinR (s.rt.getD e []) f else s.rt.getD j [] := fun j => getD_set el
  have hf' : getR (s.rt.getD e []) f ≠ none := by rw [hf]; intro z; cases z
  refine ⟨?_, h.ob, h.sm, fun j g f' b hj hh => ?_, fun f' hf2 => ?_⟩
  · exact h.good.sub ok.rt4 he (by rw [keys_thin]; exact List.Sublist.refl _) rfl rfl rfl h.good.aw
  · rw [get]
    unfold fallE at hh
    by_cases q : j = e
    · rw [if_pos q] at hh ⊢
      subst q
      unfold fall1 at hh
      cases y : en j g with
      | none => rw [y] at hh; cases hh
      | some p =>
        rw [y] at hh
        by_cases m : p ∈ rwF f
        · have : (if p ∈ rwF f then none else some p) = some (f', b) := hh
          rw [if_pos m] at this; cases this
        · have : (if p ∈ rwF f then none else some p) = some (f', b) := hh
          rw [if_neg m] at this
          cases this
          obtain ⟨c, c1, c2⟩ := h.rel j g f' b hj y
          rw [get_thin hf']
          by_cases z : f' = f
          · rw [if_pos z]
            subst z
            refine ⟨false, rfl, fun w => ?_⟩
            subst w
            exact absurd (by simp [rwF]) m
          · rw [if_neg z]; exact ⟨c, c1, c2⟩
    · rw [if_neg q] at hh ⊢
      exact h.rel j g f' b hj hh
  · refine h.held f' ?_
    obtain ⟨j, hj, hn⟩ := (held_iff (s := thinS s e f) (by show (s.rt.set _ _).length = 4; rw [List.length_set]; exact ok.rt4)).mp hf2
    refine held_of ok.rt4 hj fun z => hn ?_
    rw [get]
    by_cases q : j = e
    · rw [if_pos q, get_thin hf']
      by_cases y : f' = f
      · subst y; rw [q] at z; exact absurd z hf'
      · rw [if_neg y, ← q, z]
    · rw [if_neg q]; exact z
def wmPut (wm : WM) (f : Nat) (q : Addr × List Nat) : WM := fun i => if i = f then some q else wm i
theorem LG.add {s' : FS} {e f : Nat} {b : Bool} {wm' : WM} {n' : Nat} (h : LG s en wm n) (ok : FOk s) (he : e < 4) (hn : getR (s.rt.getD e []) f = none) (good : Good s') (ob : OB n' s'.of) (e1 : s'.m = s.m) (e3 : s'.rt = s.rt.set e (s.rt.getD e [] ++ [(f, b)]))
    (hw : ∀ f', f' ≠ f → heldBy s f' = true → s'.wd.getD f' [] = s.wd.getD f' [] ∧ wm' f' = wm f') (hf : ∃ q, wm' f = some (q, s'.wd.getD f []) ∧ (s'.wd.getD f []).length = 8) : LG s' en wm' n' := by
  have el : e < s.rt.length := by rw [ok.rt4]; exact he
  have get : ∀ j, s'.rt.getD j [] = if j = e then s.rt.getD e [] ++ [(f, b)] else s.rt.getD j [] := fun j => by rw [e3]; exact getD_set el
  refine ⟨good, ob, e1.trans h.sm, fun j g f' b' hj hh => ?_, fun f' hf2 => ?_⟩
  · obtain ⟨c, c1, c2⟩ := h.rel j g f' b' hj hh
    rw [get]
    by_cases q : j = e
    · rw [if_pos q, get_app _ _ _ _ hn]
      by_cases z : f' = f
      · subst z; rw [q, hn] at c1; cases c1
      · rw [if_neg z, ← q]; exact ⟨c, c1, c2⟩
    · rw [if_neg q]; exact ⟨c, c1, c2⟩
  · by_cases z : f' = f
    · subst z; exact hf
    · obtain ⟨j, hj, hn2⟩ := (held_iff (s := s') (by rw [e3, List.length_set]; exact ok.rt4)).mp hf2
      have hb : heldBy s f' = true := by
        refine held_of ok.rt4 hj fun y => hn2 ?_
        rw [get]
        by_cases q : j = e
        · rw [if_pos q, get_app _ _ _ _ hn, if_neg z, ← q, y]
        · rw [if_neg q]; exact y
      obtain ⟨w1, w2⟩ := hw f' z hb
      obtain ⟨q, q1, q2⟩ := h.held f' hb
      exact ⟨q, by rw [w2, w1]; exact q1, by rw [w1]; exact q2⟩
theorem LG.offer {of' : List (List (Nat × RL))} (h : LG s en wm n) (ob : OB (n + 1) of') : LG { s with of := of' } en wm (n + 1) := ⟨h.good.same rfl rfl rfl h.good.aw, ob, h.sm, h.rel, h.held⟩
theorem LG.map {e g f : Nat} {b c : Bool} (h : LG s en wm n) (hc : getR (s.rt.getD e []) f = some c) (hb : b = true → c = true) : LG s (enSet2 en e g (some (f, b))) wm n := by
  refine ⟨h.good, h.ob, h.sm, fun j g' f' b' hj hh => ?_, h.held⟩
  unfold enSet2 at hh
  split at hh
  · rename_i q
    cases hh
    rw [q.1]
    exact ⟨c, hc, hb⟩
  · exact h.rel j g' f' b' hj hh
theorem LG.unmap {e g : Nat} (h : LG s en wm n) : LG s (enSet2 en e g none) wm n := by
  refine ⟨h.good, h.ob, h.sm, fun j g' f' b' hj hh => ?_, h.held⟩
  unfold enSet2 at hh
  split at hh
  · cases hh
  · exact h.rel j g' f' b' hj hh
theorem LG.store {f k w : Nat} {q : Addr} (h : LG s en wm n) (fl : f < s.wd.length) (hq : wm f = some (q, s.wd.getD f [])) : LG (wordS s f k w) en (wmPut wm f (q, (s.wd.getD f []).set k w)) n := by
  refine ⟨h.good.same rfl rfl rfl h.good.aw, h.ob, h.sm, h.rel, fun f' hf => ?_⟩
  obtain ⟨q', q1, q2⟩ := h.held f' hf
  have get : (wordS s f k w).wd.getD f' [] = if f' = f then (s.wd.getD f []).set k w else s.wd.getD f' [] := getD_set fl
  rw [get]
  unfold wmPut
  by_cases z : f' = f
  · rw [if_pos z, if_pos z]
    refine ⟨q, rfl, ?_⟩
    rw [List.length_set, ← z]
    exact q2
  · rw [if_neg z, if_neg z]; exact ⟨q', q1, q2⟩
end
def J (CF CP : Addr) (A : LA) (H : Hp) (n : Nat) : Prop := ∃ a s ds en wm, JP CF CP A H a s ds en en wm n ∧ LG s en wm n
end My

namespace My
open PySem L2
local macro_rules | `(tactic| walk_at "ne") => `(tactic| first | assumption | exact Ne.symm (by assumption) | exact ne_of_none (by assumption) (by assumption) | exact Ne.symm (ne_of_none (by assumption) (by assumption)))
local macro_rules | `(tactic| walk_at "hp") => `(tactic| first | assumption | with_reducible exact upd_same | (with_reducible refine Eq.trans (upd_ne ?_) ?_; rotate_left; walk_at "hp"; walk_at "ne"))
local macro_rules | `(tactic| walk_at "cnd") => `(tactic| first | omega | (show (0 : Int) < _; omega) | exact ⟨by omega, by omega⟩ | exact Or.inl ⟨by omega, by omega⟩ | exact Or.inr ⟨by omega, by omega⟩ | exact ⟨by omega, by omega, by decide⟩ | exact ⟨by omega, by omega, by omega⟩)
local macro_rules | `(tactic| walk_at "at") => `(tactic| first | exact atC 0 rfl rfl | exact atC 1 rfl rfl | exact atC 2 rfl rfl | exact atC 3 rfl rfl | exact atC 4 rfl rfl | exact atC 5 rfl rfl | exact atC 6 rfl rfl | exact atC 7 rfl rfl)
local macro_rules | `(tactic| walk_at "ix") => `(tactic| first | exact ixC 0 rfl (Nat.le_of_ble_eq_true rfl) | exact ixC 1 rfl (Nat.le_of_ble_eq_true rfl) | exact ixC 2 rfl (Nat.le_of_ble_eq_true rfl) | exact ixC 3 rfl (Nat.le_of_ble_eq_true rfl) | exact ixC 4 rfl (Nat.le_of_ble_eq_true rfl) | exact ixC 5 rfl (Nat.le_of_ble_eq_true rfl))
local macro_rules | `(tactic| walk_at "st") => `(tactic| first
  | refine ⟨_, rfl, ?_⟩
  | refine ⟨_, _, rfl, rfl, (by walk_at "cnd" : (_ : Prop)), ?_⟩
  | refine ⟨_, _, rfl, rfl, ?_⟩
  | refine ⟨rfl, ?_⟩
  | refine Or.inl ⟨_, rfl, ?_⟩
  | refine ⟨_, _, _, _, rfl, rfl, by exact SqL.of (by walk_at "hp"), by walk_at "at", ?_⟩
  | refine ⟨_, _, _, _, rfl, rfl, by exact SqT.of (by walk_at "hp"), by walk_at "at", ?_⟩
  | refine ⟨_, _, _, _, rfl, rfl, by walk_at "hp", by walk_at "ix", ?_⟩
  | refine ⟨_, _, rfl, Or.inl (by exact SqL.of (by walk_at "hp")), ?_⟩
  | refine ⟨_, _, rfl, Or.inr (by exact SqT.of (by walk_at "hp")), ?_⟩)
local macro_rules | `(tactic| walk_at "so") => `(tactic| first
  | refine ⟨_, _, _, _, _, rfl, by walk_at "hp", by assumption, by assumption, rfl, ?_⟩
  | refine ⟨_, _, _, _, rfl, by walk_at "hp", by assumption, by assumption, Nat.le_of_ble_eq_true rfl, ?_⟩
  | refine ⟨_, _, _, rfl, by walk_at "hp", rfl, ?_⟩
  | walk_at "st")
local macro_rules | `(tactic| walk_at "ro") => `(tactic| repeat walk_at "so")
local macro_rules | `(tactic| walk_at "run") => `(tactic| repeat walk_at "st")

theorem Pg.big {C y x dx L : Addr} {ds : List Addr} {H : Hp} {en : Nat → Nat → PE2} (h : Pg C H y x dx L ds en) {e g : Nat} (he : e < 4) (hg : 32 ≤ g) : en e g = none := by
  have el : e < ds.length := by rw [h.l4]; exact he
  obtain ⟨kvs, _, _, hh⟩ := (h.es e _ (List.getElem?_eq_getElem el)).get
  rcases hh g with z | ⟨v, z, _⟩
  · exact z.1
  · omega
theorem LD.drop {H : Hp} {E : Addr} {el : Nat → Nat → PE2} {n e g : Nat} {kvs : List (List Key × V)} (h : LD H E el n) (k : H E = some (.dT kvs)) : LD (upd H E (.dT (dropK kvs (kk2 e g)))) E (enSet2 el e g none) n := by
  obtain ⟨kvs', h1, h2, h3⟩ := h
  rw [k] at h1
  cases h1
  refine ⟨_, upd_same, Nat.le_trans (dropK_le kvs _) h2, fun e' g' he => ?_⟩
  rw [valV_dropG]
  unfold enSet2
  by_cases q : e' = e ∧ g' = g
  · rw [if_pos q, if_pos (kk2_inj.mpr q)]
    exact .inl ⟨rfl, rfl⟩
  · rw [if_neg q, if_neg (fun z => q (kk2_inj.mp z))]
    rcases h3 e' g' he with z | ⟨v, a, b, c⟩
    · exact .inl z
    · exact .inr ⟨v, a, b, c.ts fun t l ht => by rw [upd_ne (ne_of ht k (by intro z; cases z))]; exact ht⟩
theorem LD.put {H : Hp} {E t : Addr} {el : Nat → Nat → PE2} {n e g f : Nat} {b : Bool} {kvs : List (List Key × V)} (h : LD H E el n) (k : H E = some (.dT kvs)) (ht : H t = some (.tup [vN f, rV b])) : LD (upd H E (.dT (putK kvs (kk2 e g) (.ref t)))) E (enSet2 el e g (some (f, b))) (n + 1) := by
  obtain ⟨kvs', h1, h2, h3⟩ := h
  rw [k] at h1
  cases h1
  have ts : ∀ t l, H t = some (.tup l) → (upd H E (.dT (putK kvs (kk2 e g) (.ref t)))) t = some (.tup l) := fun t l ht => by rw [upd_ne (ne_of ht k (by intro z; cases z))]; exact ht
  refine ⟨_, upd_same, Nat.le_trans (length_putK kvs _ _) (by omega), fun e' g' he => ?_⟩
  rw [valV_put]
  unfold enSet2
  by_cases q : e' = e ∧ g' = g
  · rw [if_pos q, if_pos (kk2_inj.mpr q)]
    exact .inr ⟨_, rfl, fun z => (by cases z), t, rfl, by rw [upd_ne (ne_of ht k (by intro z; cases z))]; exact ht⟩
  · rw [if_neg q, if_neg (fun z => q (kk2_inj.mp z))]
    rcases h3 e' g' he with z | ⟨v, a, b, c⟩
    · exact .inl z
    · exact .inr ⟨v, a, b, c.ts fun t l ht => by rw [upd_ne (ne_of ht k (by intro z; cases z))]; exact ht⟩
theorem LD.eqL {H : Hp} {E : Addr} {el el' : Nat → Nat → PE2} {n : Nat} (h : LD H E el n) (q : ∀ e g, e < 4 → el e g = el' e g) : LD H E el' n := by
  obtain ⟨kvs, h1, h2, h3⟩ := h
  refine ⟨kvs, h1, h2, fun e g he => ?_⟩
  rw [← q e g he]
  exact h3 e g he
theorem JP.eqL {CF CP : Addr} {A : LA} {H : Hp} {a : FA} {s : FS} {ds : List Addr} {en el el' : Nat → Nat → PE2} {wm : WM} {n : Nat} (j : JP CF CP A H a s ds en el wm n) (q : ∀ e g, e < 4 → el e g = el' e g) : JP CF CP A H a s ds en el' wm n := ⟨j.tape, j.fr, j.pg, j.ld.eqL q, j.wd, j.un⟩
def spDropL (CF CP : Addr) : Sp := fun vs H Q _ => ∃ (A : LA) (n e f : Nat), vs = [.ref A.x, .ref A.y, .ref A.E, .int (e : Int), .int (f : Int)] ∧ J CF CP A H n ∧ e < 4 ∧ f < 10 ∧ n ≤ 900 ∧ ∀ H', J CF CP A H' n → Q .non H'
section
variable {P : Program} {w : World} {K : PySem.W.Frag} {mg : Str → Option Value} {base : Heap} {C_Frames C_Pages C_NotValid : Addr}
abbrev s_law_drop : Stmt := topS 26
abbrev ns_law_drop : List Str := ["frames", "pages", "entries", "environment", "frame", "page"]
theorem sc_law_drop : FnScope ns_law_drop ["frames", "pages", "entries", "environment", "frame"] (defScope s_law_drop) := ⟨rfl, rfl, rfl, by decide +kernel, rfl, by decide +kernel, by decide +kernel⟩

theorem ok_law_drop {f : Addr} {fd : FuncData} (F : Fun K "_law_drop" "_law_drop" s_law_drop f fd) (T : Txt K mg C_Frames C_Pages C_NotValid) (D_Frames_drop : Mth P w K mg base CX0 6 C_Frames "drop" ["self", "environment", "frame"] (spDrop C_Frames)) (D_Pages_ended : Mth P w K mg base CX0 6 C_Pages "ended" ["self", "environment", "frame"] (spEnded C_Pages bothF)) : FnOk P w K mg base CX0 7 f fd ["frames", "pages", "entries", "environment", "frame"] (spDropL C_Frames C_Pages) := by
  have ho_Frames := T.o_Frames; have hn_Frames__words := T.n_Frames__words; have hn_Frames__shares := T.n_Frames__shares; have hn_Frames__rights := T.n_Frames__rights; have hn_Frames__offers := T.n_Frames__offers; have hn_Frames__asked := T.n_Frames__asked; have hn_Frames__ends_to_wait := T.n_Frames__ends_to_wait; have hn_Frames__taken := T.n_Frames__taken
  have ho_Pages := T.o_Pages; have hn_Pages__frames := T.n_Pages__frames; have hn_Pages__entries := T.n_Pages__entries
  refine F.ok sc_law_drop (fun vs H Q E h => ?_) (fun cdv A outer s H vs Q E hr h => ?_)
  · obtain ⟨A, n, e, f, rfl, _⟩ := h
    rfl
  · obtain ⟨A, n, e, f, rfl, ⟨a, s', ds, en, wm, j, g⟩, e4, f10, nz, k⟩ := h
    refine ⟨_, (pss_cons (ps_if (pt_not (pt_val (pe_dmeth (pv 0) D_Frames_drop (hr.mono (by decide)) pass0 (pa_cons (pv 3) (pa_cons (pv 4) pa_nil))))) (pss_one ps_retN) pss_nil)
  (pss_cons (ps_expr (pe_dmeth (pv 1) D_Pages_ended (hr.mono (by decide)) pass0 (pa_cons (pv 3) (pa_cons (pv 4) pa_nil))))
  (pss_one (ps_for PassesOwn.never (by rfl) (pi_range1 (by rfl) T.b_range (pa_cons pe_int pa_nil)) (pg_name (i := 5) sc_law_drop.nd rfl (Or.inl rfl)) (pss_one (ps_if (pt_cmpR op_eq (pe_ix (kIxT K) (pe_dget2 (units1 hr) (pv 2) (pe_tup (pa_cons (pv 3) (pa_cons (pv 5) pa_nil))) (pe_tup (pa_cons (pe_un un_neg pe_int) (pa_cons pe_str pa_nil))) ⟨rfl, rfl, rfl, rfl⟩) pe_int (fun _ _ => rfl)) (pv 4) (nomark _)) (pss_one (ps_expr (kBM K PySem.F.plainAttrs_dict PySem.F.slot_dict_pop PySem.F.type_dict_pop (mt_popT1 (units1 hr)) (pv 2) (pa_cons (pe_tup (pa_cons (pv 3) (pa_cons (pv 5) pa_nil))) pa_nil)))) pss_nil)))))), ?_⟩
    have h1 := j.fr.ins
    have fm : f < s'.m := by rw [g.sm]; exact f10
    walk_at "ro"
    refine ⟨_, A.x, a, s', e, f, rfl, j.fr, e4, fm, fun q => ?_, fun q a' H1 fr1 c1 => ?_⟩
    · walk_at "ro"
      exact k H ⟨a, s', ds, en, wm, j, g⟩
    have j1 := j.frames fr1 (fun z hz => .inl (fr1.mine z hz)) c1
    have g1 := g.drop (f := f) j.fr.ok e4
    have h1p := j1.pg.ins
    walk_at "ro"
    refine ⟨A.y, A.x, A.dx, A.L, ds, en, e, f, rfl, j1.pg, e4, fun ds' H2 p pi c2 => ?_⟩
    have j2 := j1.pages p pi c2
    clear h1p h1
    walk_at "ro"
    refine ⟨by decide, by decide, ?_⟩
    refine for_range (fun i σ Hx => Hide (∃ (v5 : Option V) (el : Nat → Nat → PE2), σ = [some (.ref A.x), some (.ref A.y), some (.ref A.E), some (.int (e : Int)), some (.int (f : Int)), v5] ∧ JP C_Frames C_Pages A Hx a' (endS s' e f) ds' (fallE en e (bothF f)) el wm n ∧ ∀ e' g', e' < 4 → el e' g' = if e' = e ∧ g' < i then fallE en e (bothF f) e' g' else en e' g')) ?_ ?_ ?_
    · exact hide ⟨none, en, rfl, j2, fun e' g' _ => by rw [if_neg (fun z => by omega)]⟩
    · rintro i σ Hx hi hh
      obtain ⟨v5, el, rfl, jx, eq⟩ := hh.out
      clear hh
      have hi : i < 32 := hi
      obtain ⟨kvs, k1, k2, k3⟩ := id jx.ld
      have old : el e i = en e i := by rw [eq e i e4, if_neg (fun z => by omega)]
      have step : ∀ el' : Nat → Nat → PE2, (∀ e' g', el' e' g' = if e' = e ∧ g' = i then fallE en e (bothF f) e i else el e' g') → ∀ e' g', e' < 4 → el' e' g' = if e' = e ∧ g' < i + 1 then fallE en e (bothF f) e' g' else en e' g' := fun el' h e' g' he => by
        rw [h]
        by_cases q : e' = e ∧ g' = i
        · rw [if_pos q, if_pos ⟨q.1, by omega⟩, q.1, q.2]
        · rw [if_neg q, eq e' g' he]
          by_cases y : e' = e ∧ g' < i
          · rw [if_pos y, if_pos ⟨y.1, by omega⟩]
          · rw [if_neg y, if_neg (fun z => y ⟨z.1, by
              have : g' ≠ i := fun h => q ⟨z.1, h⟩
              omega⟩)]
      walk_at "ro"
      refine ⟨.inr ⟨_, .inl k1⟩, ?_⟩
      walk_at "ro"
      refine ⟨szl rfl, fun q1 hq1 => ?_⟩
      have s1 := Same.new (o := .tup [.int (e : Int), .int (0 + (i : Int))]) hq1
      have a1 : (upd Hx q1 (.tup [.int (e : Int), .int (0 + (i : Int))])) q1 = some (.tup ((kk2 e i).map kV)) := by rw [upd_same, Int.zero_add]; rfl
      generalize upd Hx q1 (.tup [.int (e : Int), .int (0 + (i : Int))]) = H3 at s1 a1 ⊢
      walk_at "ro"
      refine ⟨szl rfl, fun q2 hq2 => ?_⟩
      have s2 := Same.new (o := .tup [.int (-1), .str ""]) hq2
      have a2 : (upd H3 q2 (.tup [.int (-1), .str ""])) q2 = some (.tup [.int (-1), .str ""]) := upd_same
      have a1 := s2 _ _ a1
      have s12 := s1.trans s2
      generalize upd H3 q2 (.tup [.int (-1), .str ""]) = H4 at s2 s12 a1 a2 ⊢
      refine ⟨_, DGet.t (k := kk2 e i) (s12 _ _ k1) a1, ?_⟩
      have j4 := jx.same s12
      rcases k3 e i e4 with ⟨z1, z2⟩ | ⟨v, z1, z2, z3⟩
      · rw [z2]
        walk_at "ro"
        refine hide ⟨_, el, rfl, j4, step el fun e' g' => ?_⟩
        by_cases q : e' = e ∧ g' = i
        · rw [if_pos q, q.1, q.2, z1]
          unfold fallE fall1
          rw [if_pos rfl, ← old, z1]
        · rw [if_neg q]
      · rw [z1]
        obtain ⟨⟨f', b⟩, ef⟩ := Option.ne_none_iff_exists'.mp z2
        rw [ef] at z3
        obtain ⟨t, rfl, ht⟩ := z3
        have ht4 := s12 _ _ ht
        walk_at "ro"
        refine iteD (fun q => ?_) (fun q => ?_)
        · have q : f' = f := by injection q with q; exact Int.ofNat.inj q
          subst q
          walk_at "ro"
          refine ⟨.inr (.inr (.inl ⟨rfl, .inr ⟨_, s12 _ _ k1⟩⟩)), ?_⟩
          walk_at "ro"
          refine ⟨szl rfl, fun q3 hq3 => ?_⟩
          have s3 := Same.new (o := .tup [.int (e : Int), .int (0 + (i : Int))]) hq3
          have a3 : (upd H4 q3 (.tup [.int (e : Int), .int (0 + (i : Int))])) q3 = some (.tup ((kk2 e i).map kV)) := by rw [upd_same, Int.zero_add]; rfl
          generalize upd H4 q3 (.tup [.int (e : Int), .int (0 + (i : Int))]) = H5 at s3 a3 ⊢
          have j5 := j4.same s3
          have k5 := s3 _ _ (s12 _ _ k1)
          refine ⟨A.E, kvs, kk2 e i, q3, _, rfl, rfl, k5, a3, z1, ?_⟩
          have d5 := j5.ld.drop (e := e) (g := i) k5
          refine hide ⟨_, enSet2 el e i none, rfl, j5.entries d5 (Nat.le_refl _) (ChgP.upd (fun _ _ _ h => h) rfl), step _ fun e' g' => ?_⟩
          unfold enSet2
          by_cases q : e' = e ∧ g' = i
          · rw [if_pos q, if_pos q]
            unfold fallE fall1
            rw [if_pos rfl, ← old, ef]
            exact (if_pos (by cases b <;> simp [bothF])).symm
          · rw [if_neg q, if_neg q]
        · walk_at "ro"
          refine hide ⟨_, el, rfl, j4, step el fun e' g' => ?_⟩
          by_cases q' : e' = e ∧ g' = i
          · rw [if_pos q', q'.1, q'.2]
            unfold fallE fall1
            rw [if_pos rfl, ← old, ef]
            exact (if_neg (fun m => q (by
              simp only [bothF, List.mem_cons, List.not_mem_nil, or_false, Prod.mk.injEq] at m
              rcases m with m | m <;> (rw [m.1]; rfl)))).symm
          · rw [if_neg q']
    · rintro σ Hx hh
      obtain ⟨v5, el, rfl, jx, eq⟩ := hh.out
      walk_at "ro"
      refine k Hx ⟨a', _, ds', _, wm, jx.eqL fun e' g' he => ?_, g1⟩
      rw [eq e' g' he]
      by_cases q : e' = e ∧ g' < Int.toNat 32
      · exact if_pos q
      · rw [if_neg q]
        unfold fallE fall1
        by_cases y : e' = e
        · have : 32 ≤ g' := Nat.le_of_not_lt fun z => q ⟨y, z⟩
          rw [if_pos y, j.pg.big he this]
        · rw [if_neg y]
end
end My

namespace My
open PySem L2
local macro_rules | `(tactic| walk_at "ne") => `(tactic| first | assumption | exact Ne.symm (by assumption) | exact ne_of_none (by assumption) (by assumption) | exact Ne.symm (ne_of_none (by assumption) (by assumption)))
local macro_rules | `(tactic| walk_at "hp") => `(tactic| first | assumption | with_reducible exact upd_same | (with_reducible refine Eq.trans (upd_ne ?_) ?_; rotate_left; walk_at "hp"; walk_at "ne"))
local macro_rules | `(tactic| walk_at "cnd") => `(tactic| first | omega | (show (0 : Int) < _; omega) | exact ⟨by omega, by omega⟩ | exact Or.inl ⟨by omega, by omega⟩ | exact Or.inr ⟨by omega, by omega⟩ | exact ⟨by omega, by omega, by decide⟩ | exact ⟨by omega, by omega, by omega⟩)
local macro_rules | `(tactic| walk_at "at") => `(tactic| first | exact atC 0 rfl rfl | exact atC 1 rfl rfl | exact atC 2 rfl rfl | exact atC 3 rfl rfl | exact atC 4 rfl rfl | exact atC 5 rfl rfl | exact atC 6 rfl rfl | exact atC 7 rfl rfl)
local macro_rules | `(tactic| walk_at "ix") => `(tactic| first | exact ixC 0 rfl (Nat.le_of_ble_eq_true rfl) | exact ixC 1 rfl (Nat.le_of_ble_eq_true rfl) | exact ixC 2 rfl (Nat.le_of_ble_eq_true rfl) | exact ixC 3 rfl (Nat.le_of_ble_eq_true rfl) | exact ixC 4 rfl (Nat.le_of_ble_eq_true rfl) | exact ixC 5 rfl (Nat.le_of_ble_eq_true rfl))
local macro_rules | `(tactic| walk_at "st") => `(tactic| first
  | refine ⟨_, rfl, ?_⟩
  | refine ⟨_, _, rfl, rfl, (by walk_at "cnd" : (_ : Prop)), ?_⟩
  | refine ⟨_, _, rfl, rfl, ?_⟩
  | refine ⟨rfl, ?_⟩
  | refine Or.inl ⟨_, rfl, ?_⟩
  | refine ⟨_, _, _, _, rfl, rfl, by exact SqL.of (by walk_at "hp"), by walk_at "at", ?_⟩
  | refine ⟨_, _, _, _, rfl, rfl, by exact SqT.of (by walk_at "hp"), by walk_at "at", ?_⟩
  | refine ⟨_, _, _, _, rfl, rfl, by walk_at "hp", by walk_at "ix", ?_⟩
  | refine ⟨_, _, rfl, Or.inl (by exact SqL.of (by walk_at "hp")), ?_⟩
  | refine ⟨_, _, rfl, Or.inr (by exact SqT.of (by walk_at "hp")), ?_⟩)
local macro_rules | `(tactic| walk_at "so") => `(tactic| first
  | refine ⟨_, _, _, _, _, rfl, by walk_at "hp", by assumption, by assumption, rfl, ?_⟩
  | refine ⟨_, _, _, _, rfl, by walk_at "hp", by assumption, by assumption, Nat.le_of_ble_eq_true rfl, ?_⟩
  | refine ⟨_, _, _, rfl, by walk_at "hp", rfl, ?_⟩
  | walk_at "st")
local macro_rules | `(tactic| walk_at "ro") => `(tactic| repeat walk_at "so")
local macro_rules | `(tactic| walk_at "run") => `(tactic| repeat walk_at "st")

section
variable {P : Program} {w : World} {K : PySem.W.Frag} {mg : Str → Option Value} {base : Heap} {C_Frames C_Pages C_NotValid : Addr}
abbrev s_law_narrow : Stmt := topS 27
abbrev ns_law_narrow : List Str := ["frames", "pages", "entries", "environment", "frame", "page"]
theorem sc_law_narrow : FnScope ns_law_narrow ["frames", "pages", "entries", "environment", "frame"] (defScope s_law_narrow) := ⟨rfl, rfl, rfl, by decide +kernel, rfl, by decide +kernel, by decide +kernel⟩

theorem ok_law_narrow {f : Addr} {fd : FuncData} (F : Fun K "_law_narrow" "_law_narrow" s_law_narrow f fd) (T : Txt K mg C_Frames C_Pages C_NotValid) (D_Frames_narrow : Mth P w K mg base CX0 6 C_Frames "narrow" ["self", "environment", "frame"] (spNarrow C_Frames)) (D_Pages_narrowed : Mth P w K mg base CX0 6 C_Pages "narrowed" ["self", "environment", "frame"] (spEnded C_Pages rwF)) : FnOk P w K mg base CX0 7 f fd ["frames", "pages", "entries", "environment", "frame"] (spDropL C_Frames C_Pages) := by
  have ho_Frames := T.o_Frames; have hn_Frames__words := T.n_Frames__words; have hn_Frames__shares := T.n_Frames__shares; have hn_Frames__rights := T.n_Frames__rights; have hn_Frames__offers := T.n_Frames__offers; have hn_Frames__asked := T.n_Frames__asked; have hn_Frames__ends_to_wait := T.n_Frames__ends_to_wait; have hn_Frames__taken := T.n_Frames__taken
  have ho_Pages := T.o_Pages; have hn_Pages__frames := T.n_Pages__frames; have hn_Pages__entries := T.n_Pages__entries
  refine F.ok sc_law_narrow (fun vs H Q E h => ?_) (fun cdv A outer s H vs Q E hr h => ?_)
  · obtain ⟨A, n, e, f, rfl, _⟩ := h
    rfl
  · obtain ⟨A, n, e, f, rfl, ⟨a, s', ds, en, wm, j, g⟩, e4, f10, nz, k⟩ := h
    refine ⟨_, (pss_cons (ps_if (pt_not (pt_val (pe_dmeth (pv 0) D_Frames_narrow (hr.mono (by decide)) pass0 (pa_cons (pv 3) (pa_cons (pv 4) pa_nil))))) (pss_one ps_retN) pss_nil)
  (pss_cons (ps_expr (pe_dmeth (pv 1) D_Pages_narrowed (hr.mono (by decide)) pass0 (pa_cons (pv 3) (pa_cons (pv 4) pa_nil))))
  (pss_one (ps_for PassesOwn.never (by rfl) (pi_range1 (by rfl) T.b_range (pa_cons pe_int pa_nil)) (pg_name (i := 5) sc_law_narrow.nd rfl (Or.inl rfl)) (pss_one (ps_if (pt_cmpR (kEqD K hr.units) (pe_dget1 (units1 hr) (pv 2) (pe_tup (pa_cons (pv 3) (pa_cons (pv 5) pa_nil))) ⟨rfl, rfl, rfl, rfl⟩) (pe_tup (pa_cons (pv 4) (pa_cons pe_str pa_nil))) (nomark _)) (pss_one (ps_expr (kBM K PySem.F.plainAttrs_dict PySem.F.slot_dict_pop PySem.F.type_dict_pop (mt_popT1 (units1 hr)) (pv 2) (pa_cons (pe_tup (pa_cons (pv 3) (pa_cons (pv 5) pa_nil))) pa_nil)))) pss_nil)))))), ?_⟩
    have h1 := j.fr.ins
    have fm : f < s'.m := by rw [g.sm]; exact f10
    walk_at "ro"
    refine ⟨_, A.x, a, s', e, f, rfl, j.fr, e4, fm, fun j0 hj0 => ?_, fun q => ?_, fun q H1 fr1 c1 => ?_⟩
    · have := g.good.len j0
      rw [List.getD_eq_getElem?_getD, List.getElem?_eq_getElem hj0] at this
      have : s'.rt[j0].length ≤ s'.m := this
      have := g.sm
      omega
    · walk_at "ro"
      exact k H ⟨a, s', ds, en, wm, j, g⟩
    have j1 := j.frames fr1 (fun z hz => .inl (fr1.mine z hz)) c1
    have g1 := g.narrow j.fr.ok e4 q
    have h1p := j1.pg.ins
    walk_at "ro"
    refine ⟨A.y, A.x, A.dx, A.L, ds, en, e, f, rfl, j1.pg, e4, fun ds' H2 p pi c2 => ?_⟩
    have j2 := j1.pages p pi c2
    clear h1p h1
    walk_at "ro"
    refine ⟨by decide, by decide, ?_⟩
    refine for_range (fun i σ Hx => Hide (∃ (v5 : Option V) (el : Nat → Nat → PE2), σ = [some (.ref A.x), some (.ref A.y), some (.ref A.E), some (.int (e : Int)), some (.int (f : Int)), v5] ∧ JP C_Frames C_Pages A Hx a (thinS s' e f) ds' (fallE en e (rwF f)) el wm n ∧ ∀ e' g', e' < 4 → el e' g' = if e' = e ∧ g' < i then fallE en e (rwF f) e' g' else en e' g')) ?_ ?_ ?_
    · exact hide ⟨none, en, rfl, j2, fun e' g' _ => by rw [if_neg (fun z => by omega)]⟩
    · rintro i σ Hx hi hh
      obtain ⟨v5, el, rfl, jx, eq⟩ := hh.out
      clear hh
      have hi : i < 32 := hi
      obtain ⟨kvs, k1, k2, k3⟩ := id jx.ld
      have old : el e i = en e i := by rw [eq e i e4, if_neg (fun z => by omega)]
      have step : ∀ el' : Nat → Nat → PE2, (∀ e' g', el' e' g' = if e' = e ∧ g' = i then fallE en e (rwF f) e i else el e' g') → ∀ e' g', e' < 4 → el' e' g' = if e' = e ∧ g' < i + 1 then fallE en e (rwF f) e' g' else en e' g' := fun el' h e' g' he => by
        rw [h]
        by_cases q : e' = e ∧ g' = i
        · rw [if_pos q, if_pos ⟨q.1, by omega⟩, q.1, q.2]
        · rw [if_neg q, eq e' g' he]
          by_cases y : e' = e ∧ g' < i
          · rw [if_pos y, if_pos ⟨y.1, by omega⟩]
          · rw [if_neg y, if_neg (fun z => y ⟨z.1, by
              have : g' ≠ i := fun h => q ⟨z.1, h⟩
              omega⟩)]
      walk_at "ro"
      refine ⟨.inr ⟨_, .inl k1⟩, ?_⟩
      walk_at "ro"
      refine ⟨szl rfl, fun q1 hq1 => ?_⟩
      have s1 := Same.new (o := .tup [.int (e : Int), .int (0 + (i : Int))]) hq1
      have a1 : (upd Hx q1 (.tup [.int (e : Int), .int (0 + (i : Int))])) q1 = some (.tup ((kk2 e i).map kV)) := by rw [upd_same, Int.zero_add]; rfl
      generalize upd Hx q1 (.tup [.int (e : Int), .int (0 + (i : Int))]) = H3 at s1 a1 ⊢
      refine ⟨_, DGet.t (k := kk2 e i) (s1 _ _ k1) a1, ?_⟩
      have j3 := jx.same s1
      walk_at "ro"
      refine ⟨szl rfl, fun q2 hq2 => ?_⟩
      have s2 := Same.new (o := .tup [.int (f : Int), .str "rw"]) hq2
      have a2 : (upd H3 q2 (.tup [.int (f : Int), .str "rw"])) q2 = some (.tup [vN f, rV true]) := upd_same
      have s12 := s1.trans s2
      generalize upd H3 q2 (.tup [.int (f : Int), .str "rw"]) = H4 at s2 s12 a2 ⊢
      have j4 := j3.same s2
      rcases k3 e i e4 with ⟨z1, z2⟩ | ⟨v, z1, z2, z3⟩
      · rw [z2]
        refine ⟨.none, pD (f, true), .non, dp_pair a2, rfl, (sh_pair _).ok, ?_⟩
        have e0 : PyData.eqv .none (pD (f, true)) = false := by unfold pD; rw [PyData.eqv]
        rw [e0]
        walk_at "ro"
        refine hide ⟨_, el, rfl, j4, step el fun e' g' => ?_⟩
        by_cases q : e' = e ∧ g' = i
        · rw [if_pos q, q.1, q.2, z1]
          unfold fallE fall1
          rw [if_pos rfl, ← old, z1]
        · rw [if_neg q]
      · rw [z1]
        obtain ⟨⟨f', b⟩, ef⟩ := Option.ne_none_iff_exists'.mp z2
        rw [ef] at z3
        obtain ⟨t, rfl, ht⟩ := z3
        have ht4 := s12 _ _ ht
        refine ⟨pD (f', b), pD (f, true), dp_pair ht4, dp_pair a2, (sh_pair _).ok, (sh_pair _).ok, ?_⟩
        rw [eqv_pair]
        by_cases q : (f', b) = (f, true)
        · rw [decide_eq_true q]
          cases q
          walk_at "ro"
          refine ⟨.inr (.inr (.inl ⟨rfl, .inr ⟨_, s12 _ _ k1⟩⟩)), ?_⟩
          walk_at "ro"
          refine ⟨szl rfl, fun q3 hq3 => ?_⟩
          have s3 := Same.new (o := .tup [.int (e : Int), .int (0 + (i : Int))]) hq3
          have a3 : (upd H4 q3 (.tup [.int (e : Int), .int (0 + (i : Int))])) q3 = some (.tup ((kk2 e i).map kV)) := by rw [upd_same, Int.zero_add]; rfl
          generalize upd H4 q3 (.tup [.int (e : Int), .int (0 + (i : Int))]) = H5 at s3 a3 ⊢
          have j5 := j4.same s3
          have k5 := s3 _ _ (s12 _ _ k1)
          refine ⟨A.E, kvs, kk2 e i, q3, _, rfl, rfl, k5, a3, z1, ?_⟩
          have d5 := j5.ld.drop (e := e) (g := i) k5
          refine hide ⟨_, enSet2 el e i none, rfl, j5.entries d5 (Nat.le_refl _) (ChgP.upd (fun _ _ _ h => h) rfl), step _ fun e' g' => ?_⟩
          unfold enSet2
          by_cases q : e' = e ∧ g' = i
          · rw [if_pos q, if_pos q]
            unfold fallE fall1
            rw [if_pos rfl, ← old, ef]
            exact (if_pos (by simp [rwF])).symm
          · rw [if_neg q, if_neg q]
        · rw [decide_eq_false q]
          walk_at "ro"
          refine hide ⟨_, el, rfl, j4, step el fun e' g' => ?_⟩
          by_cases q' : e' = e ∧ g' = i
          · rw [if_pos q', q'.1, q'.2]
            unfold fallE fall1
            rw [if_pos rfl, ← old, ef]
            exact (if_neg (fun m => q (List.mem_singleton.mp m))).symm
          · rw [if_neg q']
    · rintro σ Hx hh
      obtain ⟨v5, el, rfl, jx, eq⟩ := hh.out
      walk_at "ro"
      refine k Hx ⟨a, _, ds', _, wm, jx.eqL fun e' g' he => ?_, g1⟩
      rw [eq e' g' he]
      by_cases q : e' = e ∧ g' < Int.toNat 32
      · exact if_pos q
      · rw [if_neg q]
        unfold fallE fall1
        by_cases y : e' = e
        · have : 32 ≤ g' := Nat.le_of_not_lt fun z => q ⟨y, z⟩
          rw [if_pos y, j.pg.big he this]
        · rw [if_neg y]
end
end My

namespace My
open PySem L2
local macro_rules | `(tactic| walk_at "ne") => `(tactic| first | assumption | exact Ne.symm (by assumption) | exact ne_of_none (by assumption) (by assumption) | exact Ne.symm (ne_of_none (by assumption) (by assumption)))
local macro_rules | `(tactic| walk_at "hp") => `(tactic| first | assumption | with_reducible exact upd_same | (with_reducible refine Eq.trans (upd_ne ?_) ?_; rotate_left; walk_at "hp"; walk_at "ne"))
local macro_rules | `(tactic| walk_at "cnd") => `(tactic| first | omega | (show (0 : Int) < _; omega) | exact ⟨by omega, by omega⟩ | exact Or.inl ⟨by omega, by omega⟩ | exact Or.inr ⟨by omega, by omega⟩ | exact ⟨by omega, by omega, by decide⟩ | exact ⟨by omega, by omega, by omega⟩)
local macro_rules | `(tactic| walk_at "at") => `(tactic| first | exact atC 0 rfl rfl | exact atC 1 rfl rfl | exact atC 2 rfl rfl | exact atC 3 rfl rfl | exact atC 4 rfl rfl | exact atC 5 rfl rfl | exact atC 6 rfl rfl | exact atC 7 rfl rfl)
local macro_rules | `(tactic| walk_at "ix") => `(tactic| first | exact ixC 0 rfl (Nat.le_of_ble_eq_true rfl) | exact ixC 1 rfl (Nat.le_of_ble_eq_true rfl) | exact ixC 2 rfl (Nat.le_of_ble_eq_true rfl) | exact ixC 3 rfl (Nat.le_of_ble_eq_true rfl) | exact ixC 4 rfl (Nat.le_of_ble_eq_true rfl) | exact ixC 5 rfl (Nat.le_of_ble_eq_true rfl))
local macro_rules | `(tactic| walk_at "st") => `(tactic| first
  | refine ⟨_, rfl, ?_⟩
  | refine ⟨_, _, rfl, rfl, (by walk_at "cnd" : (_ : Prop)), ?_⟩
  | refine ⟨_, _, rfl, rfl, ?_⟩
  | refine ⟨rfl, ?_⟩
  | refine Or.inl ⟨_, rfl, ?_⟩
  | refine ⟨_, _, _, _, rfl, rfl, by exact SqL.of (by walk_at "hp"), by walk_at "at", ?_⟩
  | refine ⟨_, _, _, _, rfl, rfl, by exact SqT.of (by walk_at "hp"), by walk_at "at", ?_⟩
  | refine ⟨_, _, _, _, rfl, rfl, by walk_at "hp", by walk_at "ix", ?_⟩
  | refine ⟨_, _, rfl, Or.inl (by exact SqL.of (by walk_at "hp")), ?_⟩
  | refine ⟨_, _, rfl, Or.inr (by exact SqT.of (by walk_at "hp")), ?_⟩)
local macro_rules | `(tactic| walk_at "so") => `(tactic| first
  | refine ⟨_, _, _, _, _, rfl, by walk_at "hp", by assumption, by assumption, rfl, ?_⟩
  | refine ⟨_, _, _, _, rfl, by walk_at "hp", by assumption, by assumption, Nat.le_of_ble_eq_true rfl, ?_⟩
  | refine ⟨_, _, _, rfl, by walk_at "hp", rfl, ?_⟩
  | walk_at "st")
local macro_rules | `(tactic| walk_at "ro") => `(tactic| repeat walk_at "so")
local macro_rules | `(tactic| walk_at "run") => `(tactic| repeat walk_at "st")

theorem WD.put {H : Hp} {W q : Addr} {wm : WM} {n f : Nat} {l : List Nat} {kvs : List (Key × V)} (h : WD H W wm n) (k : H W = some (.dK kvs)) (hq : NsL H q l) (nq : ∀ f q', wm f = some q' → q ≠ q'.1) : WD (upd H W (.dK (putK kvs (.inl (f : Int)) (.ref q)))) W (wmPut wm f (q, l)) (n + 1) := by
  obtain ⟨kvs', h1, h2, h3, h4, h5⟩ := h
  rw [k] at h1
  cases h1
  refine ⟨_, upd_same, Nat.le_trans (length_putK kvs _ _) (by omega), fun f' => ?_, fun f' q' e => ?_, fun f1 f2 q1 q2 e1 e2 eq => ?_⟩
  · rw [valV_put]
    unfold wmPut
    by_cases z : f' = f
    · rw [if_pos z, if_pos (by rw [z])]; rfl
    · rw [if_neg z, if_neg (fun w => z (keyI.mp w))]
      exact h3 f'
  · have stay : ∀ z l, NsL H z l → NsL (upd H W (.dK (putK kvs (.inl (f : Int)) (.ref q)))) z l := fun z l r => by
      show upd H W _ z = _
      rw [upd_ne (ne_of (show H z = _ from r) k (by intro z; cases z))]; exact r
    unfold wmPut at e
    by_cases z : f' = f
    · rw [if_pos z] at e
      cases e
      exact stay _ _ hq
    · rw [if_neg z] at e
      exact stay _ _ (h4 f' q' e)
  · unfold wmPut at e1 e2
    by_cases z1 : f1 = f <;> by_cases z2 : f2 = f
    · rw [z1, z2]
    · rw [if_pos z1] at e1
      rw [if_neg z2] at e2
      cases e1
      exact absurd eq (nq f2 q2 e2)
    · rw [if_neg z1] at e1
      rw [if_pos z2] at e2
      cases e2
      exact absurd eq.symm (nq f1 q1 e1)
    · rw [if_neg z1] at e1
      rw [if_neg z2] at e2
      exact h5 f1 f2 q1 q2 e1 e2 eq
theorem incl_ne {h : Option Bool} {b : Bool} (q : inclO h (some b) = true) : h ≠ none := by
  intro z; rw [z] at q; cases q
theorem J.le {CF CP : Addr} {A : LA} {H : Hp} {n n' : Nat} (h : J CF CP A H n) (l : n ≤ n') : J CF CP A H n' := by
  obtain ⟨a, s, ds, en, wm, j, g⟩ := h
  exact ⟨a, s, ds, en, wm, j.le l, g.le l⟩
def spBookL (CF CP : Addr) : Sp := fun vs H Q _ => ∃ (A : LA) (n : Nat), vs = [.ref A.tp, .ref A.x, .ref A.y, .ref A.E, .ref A.W] ∧ J CF CP A H n ∧ n ≤ 900 ∧ ∀ H', J CF CP A H' (n + 1) → Q .non H'
section
variable {P : Program} {w : World} {K : PySem.W.Frag} {mg : Str → Option Value} {base : Heap} {C_Frames C_Pages C_NotValid : Addr}
abbrev s_law_book : Stmt := topS 28
abbrev ns_law_book : List Str := ["tape", "frames", "pages", "entries", "words", "environment", "frame", "kind", "taken"]
theorem sc_law_book : FnScope ns_law_book ["tape", "frames", "pages", "entries", "words"] (defScope s_law_book) := ⟨rfl, rfl, rfl, by decide +kernel, rfl, by decide +kernel, by decide +kernel⟩

theorem ok_law_book {f : Addr} {fd : FuncData} (F : Fun K "_law_book" "_law_book" s_law_book f fd) (T : Txt K mg C_Frames C_Pages C_NotValid) (D_law_next : Dfn P w K mg base CX0 1 "_law_next" ["tape", "many"] spNext) (D_Frames_take : Mth P w K mg base CX0 9 C_Frames "take" ["self", "environment"] (spTake C_Frames)) (D_Frames_offer : Mth P w K mg base CX0 6 C_Frames "offer" ["self", "environment", "frame", "other", "right"] (spOffer C_Frames)) (D_Frames_accept : Mth P w K mg base CX0 9 C_Frames "accept" ["self", "environment", "frame", "owner"] (spAccept C_Frames)) (D_law_narrow : Dfn P w K mg base CX0 7 "_law_narrow" ["frames", "pages", "entries", "environment", "frame"] (spDropL C_Frames C_Pages)) (D_law_drop : Dfn P w K mg base CX0 7 "_law_drop" ["frames", "pages", "entries", "environment", "frame"] (spDropL C_Frames C_Pages)) : FnOk P w K mg base CX0 10 f fd ["tape", "frames", "pages", "entries", "words"] (spBookL C_Frames C_Pages) := by
  have ho_Frames := T.o_Frames; have hn_Frames__words := T.n_Frames__words; have hn_Frames__shares := T.n_Frames__shares; have hn_Frames__rights := T.n_Frames__rights; have hn_Frames__offers := T.n_Frames__offers; have hn_Frames__asked := T.n_Frames__asked; have hn_Frames__ends_to_wait := T.n_Frames__ends_to_wait; have hn_Frames__taken := T.n_Frames__taken
  refine F.ok sc_law_book (fun vs H Q E h => ?_) (fun cdv A outer s H vs Q E hr h => ?_)
  · obtain ⟨A, n, rfl, _⟩ := h
    rfl
  · obtain ⟨A, n, rfl, ⟨a, s', ds, en, wm, j, g⟩, nz, k⟩ := h
    refine ⟨_, (pss_cons (ps_set (i := 5) sc_law_book.nd rfl (Or.inl rfl) (pe_dcall D_law_next (hr.mono (by decide)) (by rfl) pass0 (pa_cons (pv 0) (pa_cons pe_int pa_nil))))
  (pss_cons (ps_set (i := 6) sc_law_book.nd rfl (Or.inl rfl) (pe_dcall D_law_next (hr.mono (by decide)) (by rfl) pass0 (pa_cons (pv 0) (pa_cons pe_int pa_nil))))
  (pss_cons (ps_set (i := 7) sc_law_book.nd rfl (Or.inl rfl) (pe_dcall D_law_next (hr.mono (by decide)) (by rfl) pass0 (pa_cons (pv 0) (pa_cons pe_int pa_nil))))
  (pss_one (ps_if (pt_cmpR op_lt (pv 7) pe_int (nomark _)) (pss_cons (ps_set (i := 8) sc_law_book.nd rfl (Or.inl rfl) (pe_dmeth (pv 1) D_Frames_take (hr.mono (by decide)) pass0 (pa_cons (pv 5) pa_nil)))
  (pss_one (ps_if (pt_cmpR op_notN (pv 8) pe_non (nomark _)) (pss_one (ps_dput (units1 hr) (pv 4) (pv 8) (pe_op op_rep (pe_lst (pa_cons pe_int pa_nil)) pe_int) rfl)) pss_nil))) (pss_one (ps_if (pt_cmpR op_eq (pv 7) pe_int (nomark _)) (pss_one (ps_expr (pe_dmeth (pv 1) D_Frames_offer (hr.mono (by decide)) pass0 (pa_cons (pv 5) (pa_cons (pv 6) (pa_cons (pe_dcall D_law_next (hr.mono (by decide)) (by rfl) pass0 (pa_cons (pv 0) (pa_cons pe_int pa_nil))) (pa_cons (pe_ix (kIxL K) (pe_lst (pa_cons pe_str (pa_cons pe_str pa_nil))) (pe_dcall D_law_next (hr.mono (by decide)) (by rfl) pass0 (pa_cons (pv 0) (pa_cons pe_int pa_nil))) (fun _ _ => rfl)) pa_nil))))))) (pss_one (ps_if (pt_cmpR op_eq (pv 7) pe_int (nomark _)) (pss_one (ps_expr (pe_dmeth (pv 1) D_Frames_accept (hr.mono (by decide)) pass0 (pa_cons (pv 5) (pa_cons (pv 6) (pa_cons (pe_dcall D_law_next (hr.mono (by decide)) (by rfl) pass0 (pa_cons (pv 0) (pa_cons pe_int pa_nil))) pa_nil)))))) (pss_one (ps_if (pt_cmpR op_eq (pv 7) pe_int (nomark _)) (pss_one (ps_expr (pe_dcall D_law_narrow (hr.mono (by decide)) (by rfl) pass0 (pa_cons (pv 1) (pa_cons (pv 2) (pa_cons (pv 3) (pa_cons (pv 5) (pa_cons (pv 6) pa_nil)))))))) (pss_one (ps_expr (pe_dcall D_law_drop (hr.mono (by decide)) (by rfl) pass0 (pa_cons (pv 1) (pa_cons (pv 2) (pa_cons (pv 3) (pa_cons (pv 5) (pa_cons (pv 6) pa_nil))))))))))))))))))), ?_⟩
    walk_at "ro"
    refine ⟨A.tp, A.ts, 4, rfl, by decide, by decide, j.tape, fun e H1 e0 e4 t1 c1 => ?_⟩
    obtain ⟨e, rfl⟩ := Int.eq_ofNat_of_zero_le e0
    have j1 := j.draw t1 c1
    clear t1 c1 j
    walk_at "ro"
    refine ⟨A.tp, A.ts, 10, rfl, by decide, by decide, j1.tape, fun f H2 f0 f10 t1 c1 => ?_⟩
    obtain ⟨f, rfl⟩ := Int.eq_ofNat_of_zero_le f0
    have j2 := j1.draw t1 c1
    clear t1 c1 j1
    walk_at "ro"
    refine ⟨A.tp, A.ts, 6, rfl, by decide, by decide, j2.tape, fun kd H3 kd0 kd6 t1 c1 => ?_⟩
    obtain ⟨kd, rfl⟩ := Int.eq_ofNat_of_zero_le kd0
    have j3 := j2.draw t1 c1
    clear t1 c1 j2
    have e4' : e < 4 := by omega
    have f10' : f < 10 := by omega
    have fm : f < s'.m := by rw [g.sm]; exact f10'
    have ok := j3.fr.ok
    have ln := g.good.len e
    have sm := g.sm
    have h1 := j3.fr.ins
    walk_at "ro"
    refine iteD (fun q => ?_) (fun q => ?_)
    · walk_at "ro"
      refine ⟨_, A.x, a, s', e, rfl, j3.fr, e4', by omega, g.good.free ok.rt4 e4', fun em H4 s4 => ?_, fun em ft hf a' H4 fr' c4 => ?_⟩
      · walk_at "ro"
        exact k H4 (J.le ⟨a, s', ds, en, wm, j3.same s4, g⟩ (by omega))
      · obtain ⟨ftm, ftn⟩ := free_get (s := s') (n := s'.m) (f := ft) (List.mem_of_mem_head? hf)
        have j4 := j3.frames fr' fr'.mine c4
        obtain ⟨kvs, k1, k2, k3, k4, k5⟩ := id j4.wd
        walk_at "ro"
        refine ⟨szl rfl, fun q1 hq1 => ?_⟩
        walk_at "ro"
        refine ⟨_, _, _, rfl, rfl, upd_same, by decide, by decide, by decide, fun q2 hq2 => ?_⟩
        have s1 := Same.new (o := .lst [V.int 0]) hq1
        have s2 := Same.new (o := .lst (List.replicate (Int.toNat 8) [V.int 0]).flatten) hq2
        have s12 := s1.trans s2
        have hq20 : H4 q2 = none := none_same s1 hq2
        have n2 : NsL (upd (upd H4 q1 (.lst [V.int 0])) q2 (.lst (List.replicate (Int.toNat 8) [V.int 0]).flatten)) q2 (List.replicate 8 0) := upd_same
        generalize upd (upd H4 q1 (.lst [V.int 0])) q2 (.lst (List.replicate (Int.toNat 8) [V.int 0]).flatten) = H5 at s12 n2 ⊢
        have j5 := j4.same s12
        have k15 := s12 _ _ k1
        walk_at "ro"
        refine ⟨A.W, _, rfl, DPut.k (k := .inl (ft : Int)) k15 (szt (by omega)), ?_⟩
        walk_at "ro"
        have nq : ∀ f q', wm f = some q' → q2 ≠ q'.1 := fun f q' e z => by
          have := k4 f q' e
          rw [← z] at this
          rw [show H4 q2 = _ from this] at hq20; cases hq20
        have d5 := j5.wd.put (f := ft) k15 n2 nq
        have j6 := j5.wput d5 (by omega) (ChgP.upd (fun _ _ _ h => h) rfl) fun f' q' e => by
          unfold wmPut at e
          by_cases z : f' = ft
          · rw [if_pos z] at e
            cases e
            exact .inr fun kk r => j4.al _ _ r hq20
          · rw [if_neg z] at e
            exact .inl ⟨f', q', e, rfl⟩
        refine k _ ⟨a', takeS s' e ft, ds, en, _, j6, ?_⟩
        have wl : ft < s'.wd.length := by rw [ok.wdm]; exact ftm
        have gw : ∀ f', (takeS s' e ft).wd.getD f' [] = if f' = ft then List.replicate 8 0 else s'.wd.getD f' [] := fun f' => getD_set wl
        refine g.add (s' := takeS s' e ft) (b := true) ok e4' (ftn e) (g.good.add ok.rt4 e4' ftm (ftn e) em rfl rfl rfl rfl rfl) (g.ob.le (by omega)) rfl rfl (fun f' nf _ => ⟨?_, ?_⟩) ?_
        · rw [gw, if_neg nf]
        · unfold wmPut; rw [if_neg nf]
        · refine ⟨q2, ?_, ?_⟩
          · unfold wmPut; rw [if_pos rfl, gw, if_pos rfl]
          · rw [gw, if_pos rfl]; rfl
    · walk_at "ro"
      refine iteD (fun q2 => ?_) (fun q2 => ?_)
      · walk_at "ro"
        refine ⟨A.tp, A.ts, 4, rfl, by decide, by decide, j3.tape, fun o H4 o0 o4 t1 c1 => ?_⟩
        obtain ⟨o, rfl⟩ := Int.eq_ofNat_of_zero_le o0
        have j4 := j3.draw t1 c1
        clear t1 c1 j3 h1
        walk_at "ro"
        refine ⟨szl rfl, fun q1 hq1 => ?_⟩
        have s1 := Same.new (o := .lst [V.str "r", V.str "rw"]) hq1
        have a1 : (upd H4 q1 (.lst [V.str "r", V.str "rw"])) q1 = some (.lst [V.str "r", V.str "rw"]) := upd_same
        generalize upd H4 q1 (.lst [V.str "r", V.str "rw"]) = H5 at s1 a1 ⊢
        have j5 := j4.same s1
        have qtp : q1 ≠ A.tp := j4.tape.at hq1
        walk_at "ro"
        refine ⟨A.tp, A.ts, 2, rfl, by decide, by decide, j5.tape, fun r H6 r0 r2 t1 c1 => ?_⟩
        obtain ⟨r, rfl⟩ := Int.eq_ofNat_of_zero_le r0
        have j6 := j5.draw t1 c1
        have a6 := c1 _ _ qtp a1
        have h6 := j6.fr.ins
        clear t1 c1 j5 j4
        obtain ⟨b, hb⟩ : ∃ b, [V.str "r", V.str "rw"][r]? = some (rV b) := by
          have : r = 0 ∨ r = 1 := by omega
          rcases this with rfl | rfl
          · exact ⟨false, rfl⟩
          · exact ⟨true, rfl⟩
        walk_at "ro"
        refine ⟨_, _, _, _, rfl, rfl, SqL.of a6, atC r rfl hb, ?_⟩
        walk_at "ro"
        refine ⟨_, A.x, a, s', e, f, o, n, b, rfl, j6.fr, e4', fm, by omega, by omega, g.ob, fun z => ?_, fun z1 z2 a' of' H7 fr' ho ob' c7 => ?_⟩
        · walk_at "ro"
          exact k H6 (J.le ⟨a, s', ds, en, wm, j6, g⟩ (by omega))
        · walk_at "ro"
          exact k H7 ⟨a', _, ds, en, wm, (j6.frames fr' fr'.mine c7).le (by omega), g.offer ob'⟩
      · walk_at "ro"
        refine iteD (fun q3 => ?_) (fun q3 => ?_)
        · walk_at "ro"
          refine ⟨A.tp, A.ts, 4, rfl, by decide, by decide, j3.tape, fun o H4 o0 o4 t1 c1 => ?_⟩
          obtain ⟨o, rfl⟩ := Int.eq_ofNat_of_zero_le o0
          have j4 := j3.draw t1 c1
          have h4 := j4.fr.ins
          clear t1 c1 j3 h1
          walk_at "ro"
          refine ⟨_, A.x, a, s', e, f, o, rfl, j4.fr, e4', fm, by omega, by omega, fun z H5 s5 => ?_, fun b z1 z2 z3 z4 of' H5 fr' ho ob' c5 => ?_⟩
          · walk_at "ro"
            exact k H5 (J.le ⟨a, s', ds, en, wm, j4.same s5, g⟩ (by omega))
          · walk_at "ro"
            refine k H5 ⟨a, _, ds, en, wm, (j4.frames fr' (fun z hz => .inl (fr'.mine z hz)) c5).le (by omega), ?_⟩
            have o4' : o < 4 := by omega
            refine g.add (f := f) (b := b) ok e4' z3 (g.good.add ok.rt4 e4' fm z3 z4 rfl rfl rfl rfl rfl) ((ob' n g.ob).le (by omega)) rfl rfl (fun f' _ _ => ⟨rfl, rfl⟩) ?_
            exact g.held f (held_of ok.rt4 o4' (incl_ne z2))
        · walk_at "ro"
          refine iteD (fun q4 => ?_) (fun q4 => ?_)
          · walk_at "ro"
            refine ⟨A, n, e, f, rfl, ⟨a, s', ds, en, wm, j3, g⟩, e4', f10', nz, fun H4 j4 => ?_⟩
            walk_at "ro"
            exact k H4 (j4.le (by omega))
          · walk_at "ro"
            refine ⟨A, n, e, f, rfl, ⟨a, s', ds, en, wm, j3, g⟩, e4', f10', nz, fun H4 j4 => ?_⟩
            walk_at "ro"
            exact k H4 (j4.le (by omega))
end
end My

namespace My
open PySem L2
local macro_rules | `(tactic| walk_at "ne") => `(tactic| first | assumption | exact Ne.symm (by assumption) | exact ne_of_none (by assumption) (by assumption) | exact Ne.symm (ne_of_none (by assumption) (by assumption)))
local macro_rules | `(tactic| walk_at "hp") => `(tactic| first | assumption | with_reducible exact upd_same | (with_reducible refine Eq.trans (upd_ne ?_) ?_; rotate_left; walk_at "hp"; walk_at "ne"))
local macro_rules | `(tactic| walk_at "cnd") => `(tactic| first | omega | (show (0 : Int) < _; omega) | exact ⟨by omega, by omega⟩ | exact Or.inl ⟨by omega, by omega⟩ | exact Or.inr ⟨by omega, by omega⟩ | exact ⟨by omega, by omega, by decide⟩ | exact ⟨by omega, by omega, by omega⟩)
local macro_rules | `(tactic| walk_at "at") => `(tactic| first | exact atC 0 rfl rfl | exact atC 1 rfl rfl | exact atC 2 rfl rfl | exact atC 3 rfl rfl | exact atC 4 rfl rfl | exact atC 5 rfl rfl | exact atC 6 rfl rfl | exact atC 7 rfl rfl)
local macro_rules | `(tactic| walk_at "ix") => `(tactic| first | exact ixC 0 rfl (Nat.le_of_ble_eq_true rfl) | exact ixC 1 rfl (Nat.le_of_ble_eq_true rfl) | exact ixC 2 rfl (Nat.le_of_ble_eq_true rfl) | exact ixC 3 rfl (Nat.le_of_ble_eq_true rfl) | exact ixC 4 rfl (Nat.le_of_ble_eq_true rfl) | exact ixC 5 rfl (Nat.le_of_ble_eq_true rfl))
local macro_rules | `(tactic| walk_at "st") => `(tactic| first
  | refine ⟨_, rfl, ?_⟩
  | refine ⟨_, _, rfl, rfl, (by walk_at "cnd" : (_ : Prop)), ?_⟩
  | refine ⟨_, _, rfl, rfl, ?_⟩
  | refine ⟨rfl, ?_⟩
  | refine Or.inl ⟨_, rfl, ?_⟩
  | refine ⟨_, _, _, _, rfl, rfl, by exact SqL.of (by walk_at "hp"), by walk_at "at", ?_⟩
  | refine ⟨_, _, _, _, rfl, rfl, by exact SqT.of (by walk_at "hp"), by walk_at "at", ?_⟩
  | refine ⟨_, _, _, _, rfl, rfl, by walk_at "hp", by walk_at "ix", ?_⟩
  | refine ⟨_, _, rfl, Or.inl (by exact SqL.of (by walk_at "hp")), ?_⟩
  | refine ⟨_, _, rfl, Or.inr (by exact SqT.of (by walk_at "hp")), ?_⟩)
local macro_rules | `(tactic| walk_at "so") => `(tactic| first
  | refine ⟨_, _, _, _, _, rfl, by walk_at "hp", by assumption, by assumption, rfl, ?_⟩
  | refine ⟨_, _, _, _, rfl, by walk_at "hp", by assumption, by assumption, Nat.le_of_ble_eq_true rfl, ?_⟩
  | refine ⟨_, _, _, rfl, by walk_at "hp", rfl, ?_⟩
  | walk_at "st")
local macro_rules | `(tactic| walk_at "ro") => `(tactic| repeat walk_at "so")
local macro_rules | `(tactic| walk_at "run") => `(tactic| repeat walk_at "st")

def spMapL (CF CP : Addr) : Sp := fun vs H Q _ => ∃ (A : LA) (n : Nat), vs = [.ref A.tp, .ref A.x, .ref A.y, .ref A.E] ∧ J CF CP A H n ∧ n ≤ 900 ∧ ∀ H', J CF CP A H' (n + 1) → Q (.bl true) H'
section
variable {P : Program} {w : World} {K : PySem.W.Frag} {mg : Str → Option Value} {base : Heap} {C_Frames C_Pages C_NotValid : Addr}
abbrev s_law_map : Stmt := topS 29
abbrev ns_law_map : List Str := ["tape", "frames", "pages", "entries", "environment", "page", "frame", "right", "held", "due"]
theorem sc_law_map : FnScope ns_law_map ["tape", "frames", "pages", "entries"] (defScope s_law_map) := ⟨rfl, rfl, rfl, by decide +kernel, rfl, by decide +kernel, by decide +kernel⟩

theorem ok_law_map {f : Addr} {fd : FuncData} (F : Fun K "_law_map" "_law_map" s_law_map f fd) (T : Txt K mg C_Frames C_Pages C_NotValid) (D_law_next : Dfn P w K mg base CX0 1 "_law_next" ["tape", "many"] spNext) (D_Frames_right : Mth P w K mg base CX0 5 C_Frames "right" ["self", "environment", "frame"] (spRight C_Frames)) (D_Pages_map : Mth P w K mg base CX0 6 C_Pages "map" ["self", "environment", "page", "frame", "right"] (spMap C_Frames C_Pages)) : FnOk P w K mg base CX0 7 f fd ["tape", "frames", "pages", "entries"] (spMapL C_Frames C_Pages) := by
  have ho_Frames := T.o_Frames; have hn_Frames__words := T.n_Frames__words; have hn_Frames__shares := T.n_Frames__shares; have hn_Frames__rights := T.n_Frames__rights; have hn_Frames__offers := T.n_Frames__offers; have hn_Frames__asked := T.n_Frames__asked; have hn_Frames__ends_to_wait := T.n_Frames__ends_to_wait; have hn_Frames__taken := T.n_Frames__taken
  have ho_Pages := T.o_Pages; have hn_Pages__frames := T.n_Pages__frames; have hn_Pages__entries := T.n_Pages__entries
  refine F.ok sc_law_map (fun vs H Q E h => ?_) (fun cdv A outer s H vs Q E hr h => ?_)
  · obtain ⟨A, n, rfl, _⟩ := h
    rfl
  · obtain ⟨A, n, rfl, ⟨a, s', ds, en, wm, j, g⟩, nz, k⟩ := h
    refine ⟨_, (pss_cons (ps_set (i := 4) sc_law_map.nd rfl (Or.inl rfl) (pe_dcall D_law_next (hr.mono (by decide)) (by rfl) pass0 (pa_cons (pv 0) (pa_cons pe_int pa_nil))))
  (pss_cons (ps_set (i := 5) sc_law_map.nd rfl (Or.inl rfl) (pe_op op_sub (pe_dcall D_law_next (hr.mono (by decide)) (by rfl) pass0 (pa_cons (pv 0) (pa_cons pe_int pa_nil))) pe_int))
  (pss_cons (ps_set (i := 6) sc_law_map.nd rfl (Or.inl rfl) (pe_op op_sub (pe_dcall D_law_next (hr.mono (by decide)) (by rfl) pass0 (pa_cons (pv 0) (pa_cons pe_int pa_nil))) pe_int))
  (pss_cons (ps_set (i := 7) sc_law_map.nd rfl (Or.inl rfl) (pe_ix (kIxL K) (pe_lst (pa_cons pe_str (pa_cons pe_str (pa_cons pe_str pa_nil)))) (pe_dcall D_law_next (hr.mono (by decide)) (by rfl) pass0 (pa_cons (pv 0) (pa_cons pe_int pa_nil))) (fun _ _ => rfl)))
  (pss_cons (ps_set (i := 8) sc_law_map.nd rfl (Or.inl rfl) (pe_dmeth (pv 1) D_Frames_right (hr.mono (by decide)) pass0 (pa_cons (pv 4) (pa_cons (pv 6) pa_nil))))
  (C8.pss_cut (ps_set (i := 9) sc_law_map.nd rfl (Or.inl rfl) (pe_and (pe_chain op_le op_lt pe_int (pv 5) pe_int) (pe_one (pe_or (pe_and (pe_cmpR op_eq (pv 8) pe_str (nomark _)) (pe_one (pe_cmpR op_ne (pv 7) pe_str (nomark _)))) (pe_one (pe_and (pe_cmpR op_eq (pv 8) pe_str (nomark _)) (pe_one (pe_cmpR op_eq (pv 7) pe_str (nomark _)))))))))
  (C8.pss_cut (ps_if (pt_val (pv 9)) (pss_one (ps_dput (units1 hr) (pv 3) (pe_tup (pa_cons (pv 4) (pa_cons (pv 5) pa_nil))) (pe_tup (pa_cons (pv 6) (pa_cons (pv 7) pa_nil))) rfl)) pss_nil)
  (pss_one (ps_ret (pe_cmpR op_eq (pe_dmeth (pv 2) D_Pages_map (hr.mono (by decide)) pass0 (pa_cons (pv 4) (pa_cons (pv 5) (pa_cons (pv 6) (pa_cons (pv 7) pa_nil))))) (pv 9) (nomark _))))))))))), ?_⟩
    walk_at "ro"
    refine ⟨A.tp, A.ts, 4, rfl, by decide, by decide, j.tape, fun e H1 e0 e4 t1 c1 => ?_⟩
    obtain ⟨e, rfl⟩ := Int.eq_ofNat_of_zero_le e0
    have j1 := j.draw t1 c1
    clear t1 c1 j
    walk_at "ro"
    refine ⟨A.tp, A.ts, 34, rfl, by decide, by decide, j1.tape, fun pv H2 p0 p34 t1 c1 => ?_⟩
    have j2 := j1.draw t1 c1
    clear t1 c1 j1
    walk_at "ro"
    refine ⟨A.tp, A.ts, 12, rfl, by decide, by decide, j2.tape, fun fv H3 f0 f12 t1 c1 => ?_⟩
    have j3 := j2.draw t1 c1
    clear t1 c1 j2
    walk_at "ro"
    refine ⟨szl rfl, fun q1 hq1 => ?_⟩
    have s1 := Same.new (o := .lst [V.str "r", V.str "rw", V.str "w"]) hq1
    have a1 : (upd H3 q1 (.lst [V.str "r", V.str "rw", V.str "w"])) q1 = some (.lst [V.str "r", V.str "rw", V.str "w"]) := upd_same
    generalize upd H3 q1 (.lst [V.str "r", V.str "rw", V.str "w"]) = H4 at s1 a1 ⊢
    have qtp : q1 ≠ A.tp := j3.tape.at hq1
    have j4 := j3.same s1
    clear s1 j3
    walk_at "ro"
    refine ⟨A.tp, A.ts, 3, rfl, by decide, by decide, j4.tape, fun rv H5 r0 r3 t1 c1 => ?_⟩
    obtain ⟨rv, rfl⟩ := Int.eq_ofNat_of_zero_le r0
    have j5 := j4.draw t1 c1
    have a5 := c1 _ _ qtp a1
    clear t1 c1 j4 a1
    obtain ⟨r, hr3, rno⟩ : ∃ r : RW3, [V.str "r", V.str "rw", V.str "w"][rv]? = some (rv3 r) ∧ r ≠ .no := by
      have : rv = 0 ∨ rv = 1 ∨ rv = 2 := by omega
      rcases this with rfl | rfl | rfl
      · exact ⟨.r, rfl, by intro z; cases z⟩
      · exact ⟨.rw, rfl, by intro z; cases z⟩
      · exact ⟨.w, rfl, by intro z; cases z⟩
    have h5 := j5.fr.ins
    have h5p := j5.pg.ins
    walk_at "ro"
    refine ⟨_, _, _, _, rfl, rfl, SqL.of a5, atC rv rfl hr3, ?_⟩
    walk_at "ro"
    refine ⟨_, A.x, a, s', _, _, _, _, rfl, j5.fr, .int (e : Int), .int (fv - 1), ?_⟩
    generalize eh : rightOf s' (.int (e : Int)) (.int (fv - 1)) = hd
    have h5e := j5.ld
    walk_at "ro"
    refine ⟨fun σ Hx => Hide (σ = [some (.ref A.tp), some (.ref A.x), some (.ref A.y), some (.ref A.E), some (.int (e : Int)), some (.int (pv - 1)), some (.int (fv - 1)), some (rv3 r), some (optR hd), some (.bl (isI (.int (pv - 1)) 0 31 && incl3 hd r))] ∧ Hx = H5), ?_, ?_⟩
    · have d1 : isI (.int (pv - 1)) 0 31 = (decide (0 ≤ pv - 1) && decide (pv - 1 ≤ 31)) := rfl
      rw [d1]
      walk_at "ro"
      refine iteD (fun q => ?_) (fun q => ?_)
      · rw [decide_eq_true q, Bool.true_and]
        walk_at "ro"
        refine iteD (fun q2 => ?_) (fun q2 => ?_)
        · rw [decide_eq_true (show pv - 1 ≤ 31 by omega), Bool.true_and]
          rcases hd with _ | (_ | _) <;> cases r <;> first | exact absurd rfl rno | (walk_at "ro"; exact hide ⟨rfl, rfl⟩)
        · rw [decide_eq_false (show ¬ pv - 1 ≤ 31 by omega), Bool.false_and]
          walk_at "ro"
          exact hide ⟨rfl, rfl⟩
      · rw [decide_eq_false q, Bool.false_and, Bool.false_and]
        walk_at "ro"
        exact hide ⟨rfl, rfl⟩
    rintro σ Hx hh
    obtain ⟨rfl, rfl⟩ := hh.out
    clear hh
    cases ed : (isI (.int (pv - 1)) 0 31 && incl3 hd r) with
    | false =>
      refine ⟨fun σ Hy => Hide (σ = [some (.ref A.tp), some (.ref A.x), some (.ref A.y), some (.ref A.E), some (.int (e : Int)), some (.int (pv - 1)), some (.int (fv - 1)), some (rv3 r), some (optR hd), some (.bl false)] ∧ Hy = Hx), ?_, ?_⟩
      · walk_at "ro"
        exact hide ⟨rfl, rfl⟩
      rintro σ Hx hh
      obtain ⟨rfl, rfl⟩ := hh.out
      clear hh
      walk_at "ro"
      refine ⟨_, A.y, A.x, A.dx, A.L, ds, en, a, s', e, pv - 1, fv - 1, r, rfl, j5.fr, j5.pg, by omega, fun z => ?_, fun gg ff b z1 z2 z3 z4 z5 z6 => ?_⟩
      · walk_at "ro"
        exact k _ (J.le ⟨a, s', ds, en, wm, j5, g⟩ (by omega))
      · have y1 : isI (.int (pv - 1)) 0 31 = true := by rw [z1]; exact isI_in (by omega)
        have y2 : hd = getR (s'.rt.getD e []) ff := by rw [← eh, z3]; exact right_nat (by omega) z4
        rw [y1, y2, z6] at ed
        cases ed
    | true =>
      obtain ⟨y1, y2⟩ := (Bool.and_eq_true _ _).mp ed
      obtain ⟨gg, eg, g31⟩ := isI_nat y1
      injection eg with eg
      have ne : rightOf s' (.int (e : Int)) (.int (fv - 1)) ≠ none := by rw [eh]; intro z; rw [z] at y2; cases y2
      obtain ⟨ff, ef, fm2, er⟩ := rightOf_bad ne
      rw [eh] at er
      obtain ⟨b, eb⟩ : ∃ b, rv3 r = rV b := by
        rcases r with _ | _ | _ | _
        · exact absurd rfl rno
        · exact ⟨false, rfl⟩
        · exact ⟨true, rfl⟩
        · rcases hd with _ | (_ | _) <;> cases y2
      obtain ⟨c, ec, hbc⟩ : ∃ c, hd = some c ∧ (b = true → c = true) := by
        rcases hd with _ | c
        · cases y2
        · refine ⟨c, rfl, fun z => ?_⟩
          subst z
          cases c with
          | true => rfl
          | false =>
            cases r with
            | no => exact absurd rfl rno
            | r => exact absurd (show V.str "r" = V.str "rw" from eb) (by decide +kernel)
            | rw => cases y2
            | w => cases y2
      rw [ec] at er
      have g2 := g.map (e := e) (g := gg) (f := ff) (b := b) er.symm hbc
      refine ⟨fun σ Hx => Hide (σ = [some (.ref A.tp), some (.ref A.x), some (.ref A.y), some (.ref A.E), some (.int (e : Int)), some (.int (pv - 1)), some (.int (fv - 1)), some (rv3 r), some (optR hd), some (.bl true)] ∧ JP C_Frames C_Pages A Hx a s' ds en (enSet2 en e gg (some (ff, b))) wm (n + 1)), ?_, ?_⟩
      · obtain ⟨kvs, k1, k2, k3⟩ := id j5.ld
        walk_at "ro"
        refine ⟨szl rfl, fun q1 hq1 => ?_⟩
        have t1 := Same.new (o := .tup [V.int (fv - 1), rv3 r]) hq1
        have b1 : (upd Hx q1 (.tup [V.int (fv - 1), rv3 r])) q1 = some (.tup [vN ff, rV b]) := by rw [upd_same, ef, eb]; rfl
        generalize upd Hx q1 (.tup [V.int (fv - 1), rv3 r]) = H6 at t1 b1 ⊢
        walk_at "ro"
        refine ⟨szl rfl, fun q2 hq2 => ?_⟩
        have t2 := Same.new (o := .tup [V.int (e : Int), V.int (pv - 1)]) hq2
        have b2 : (upd H6 q2 (.tup [V.int (e : Int), V.int (pv - 1)])) q2 = some (.tup ((kk2 e gg).map kV)) := by rw [upd_same, eg]; rfl
        have b1 := t2 _ _ b1
        have t12 := t1.trans t2
        generalize upd H6 q2 (.tup [V.int (e : Int), V.int (pv - 1)]) = H7 at t12 b1 b2 ⊢
        have j7 := j5.same t12
        have k7 := t12 _ _ k1
        refine ⟨A.E, _, rfl, DPut.t (k := kk2 e gg) k7 b2 (szt (by omega)), ?_⟩
        exact hide ⟨rfl, j7.entries (j7.ld.put k7 b1) (by omega) (ChgP.upd (fun _ _ _ h => h) rfl)⟩
      rintro σ Hx hh
      obtain ⟨rfl, j6⟩ := hh.out
      clear hh
      have h6 := j6.fr.ins
      have h6p := j6.pg.ins
      walk_at "ro"
      refine ⟨_, A.y, A.x, A.dx, A.L, ds, en, a, s', e, pv - 1, fv - 1, r, rfl, j6.fr, j6.pg, by omega, fun z => ?_, fun gg' ff' b' z1 z2 z3 z4 z5 z6 tt H7 p7 c7 => ?_⟩
      · rw [eh] at z
        rcases z with z | z
        · rw [y1] at z; cases z
        · rw [y2] at z; cases z
      · walk_at "ro"
        have x1 : gg' = gg := by have := eg.symm.trans z1; omega
        have x2 : ff' = ff := by have := ef.symm.trans z3; omega
        have x3 : b' = b := by
          have := eb.symm.trans z5
          cases b <;> cases b' <;> first | rfl | exact absurd this (by decide +kernel)
        subst x1 x2 x3
        exact k _ ⟨a, s', ds, _, wm, j6.pages p7 (fun d h => .inl h) c7, g2.le (by omega)⟩
end
end My

namespace My
open PySem L2
local macro_rules | `(tactic| walk_at "ne") => `(tactic| first | assumption | exact Ne.symm (by assumption) | exact ne_of_none (by assumption) (by assumption) | exact Ne.symm (ne_of_none (by assumption) (by assumption)))
local macro_rules | `(tactic| walk_at "hp") => `(tactic| first | assumption | with_reducible exact upd_same | (with_reducible refine Eq.trans (upd_ne ?_) ?_; rotate_left; walk_at "hp"; walk_at "ne"))
local macro_rules | `(tactic| walk_at "cnd") => `(tactic| first | omega | (show (0 : Int) < _; omega) | exact ⟨by omega, by omega⟩ | exact Or.inl ⟨by omega, by omega⟩ | exact Or.inr ⟨by omega, by omega⟩ | exact ⟨by omega, by omega, by decide⟩ | exact ⟨by omega, by omega, by omega⟩)
local macro_rules | `(tactic| walk_at "at") => `(tactic| first | exact atC 0 rfl rfl | exact atC 1 rfl rfl | exact atC 2 rfl rfl | exact atC 3 rfl rfl | exact atC 4 rfl rfl | exact atC 5 rfl rfl | exact atC 6 rfl rfl | exact atC 7 rfl rfl)
local macro_rules | `(tactic| walk_at "ix") => `(tactic| first | exact ixC 0 rfl (Nat.le_of_ble_eq_true rfl) | exact ixC 1 rfl (Nat.le_of_ble_eq_true rfl) | exact ixC 2 rfl (Nat.le_of_ble_eq_true rfl) | exact ixC 3 rfl (Nat.le_of_ble_eq_true rfl) | exact ixC 4 rfl (Nat.le_of_ble_eq_true rfl) | exact ixC 5 rfl (Nat.le_of_ble_eq_true rfl))
local macro_rules | `(tactic| walk_at "st") => `(tactic| first
  | refine ⟨_, rfl, ?_⟩
  | refine ⟨_, _, rfl, rfl, (by walk_at "cnd" : (_ : Prop)), ?_⟩
  | refine ⟨_, _, rfl, rfl, ?_⟩
  | refine ⟨rfl, ?_⟩
  | refine Or.inl ⟨_, rfl, ?_⟩
  | refine ⟨_, _, _, _, rfl, rfl, by exact SqL.of (by walk_at "hp"), by walk_at "at", ?_⟩
  | refine ⟨_, _, _, _, rfl, rfl, by exact SqT.of (by walk_at "hp"), by walk_at "at", ?_⟩
  | refine ⟨_, _, _, _, rfl, rfl, by walk_at "hp", by walk_at "ix", ?_⟩
  | refine ⟨_, _, rfl, Or.inl (by exact SqL.of (by walk_at "hp")), ?_⟩
  | refine ⟨_, _, rfl, Or.inr (by exact SqT.of (by walk_at "hp")), ?_⟩)
local macro_rules | `(tactic| walk_at "so") => `(tactic| first
  | refine ⟨_, _, _, _, _, rfl, by walk_at "hp", by assumption, by assumption, rfl, ?_⟩
  | refine ⟨_, _, _, _, rfl, by walk_at "hp", by assumption, by assumption, Nat.le_of_ble_eq_true rfl, ?_⟩
  | refine ⟨_, _, _, rfl, by walk_at "hp", rfl, ?_⟩
  | walk_at "st")
local macro_rules | `(tactic| walk_at "ro") => `(tactic| repeat walk_at "so")
local macro_rules | `(tactic| walk_at "run") => `(tactic| repeat walk_at "st")

theorem WD.set {H : Hp} {W q : Addr} {wm : WM} {n f k v : Nat} {l : List Nat} (h : WD H W wm n) (hf : wm f = some (q, l)) : WD (upd H q (.lst ((l.set k v).map vN))) W (wmPut wm f (q, l.set k v)) n := by
  obtain ⟨kvs, h1, h2, h3, h4, h5⟩ := h
  have hq : H q = some (.lst (l.map vN)) := h4 f _ hf
  refine ⟨kvs, by rw [upd_ne (ne_of h1 hq (by intro z; cases z))]; exact h1, h2, fun f' => ?_, fun f' q' e => ?_, fun f1 f2 q1 q2 e1 e2 eq => ?_⟩
  · rw [h3]
    unfold wmPut
    by_cases z : f' = f
    · rw [if_pos z, z, hf]; rfl
    · rw [if_neg z]
  · unfold wmPut at e
    by_cases z : f' = f
    · rw [if_pos z] at e
      cases e
      exact upd_same
    · rw [if_neg z] at e
      have ne : q'.1 ≠ q := fun w => z (h5 f' f q' _ e hf w)
      show upd H q _ q'.1 = _
      rw [upd_ne ne]
      exact h4 f' q' e
  · have red : ∀ f' q', wmPut wm f (q, l.set k v) f' = some q' → ∃ q0, wm f' = some q0 ∧ q0.1 = q'.1 := fun f' q' e => by
      unfold wmPut at e
      by_cases z : f' = f
      · rw [if_pos z] at e
        cases e
        exact ⟨(q, l), by rw [z]; exact hf, rfl⟩
      · rw [if_neg z] at e
        exact ⟨q', e, rfl⟩
    obtain ⟨p1, x1, y1⟩ := red f1 q1 e1
    obtain ⟨p2, x2, y2⟩ := red f2 q2 e2
    exact h5 f1 f2 p1 p2 x1 x2 (by rw [y1, y2]; exact eq)
theorem entOf_nat (en : Nat → Nat → PE2) (e g : Nat) : entOf en e (g : Int) = en e g := by
  unfold entOf
  rw [if_pos (by omega), Int.toNat_natCast]
theorem LG.words {s : FS} {en : Nat → Nat → PE2} {wm : WM} {n : Nat} (g : LG s en wm n) (ok : FOk s) {e j f : Nat} {b : Bool} (he : e < 4) (h : en e j = some (f, b)) : f < s.m ∧ (s.wd.getD f []).length = 8 ∧ ∃ q, wm f = some (q, s.wd.getD f []) := by
  obtain ⟨c, c1, _⟩ := g.rel e j f b he h
  have hn : getR (s.rt.getD e []) f ≠ none := by rw [c1]; intro z; cases z
  obtain ⟨q, q1, q2⟩ := g.held f (held_of ok.rt4 he hn)
  exact ⟨g.good.lt e f (mem_get.mpr hn), q2, q, q1⟩
def spLoadL (CF CP : Addr) : Sp := fun vs H Q _ => ∃ (A : LA) (n : Nat), vs = [.ref A.tp, .ref A.y, .ref A.E, .ref A.W] ∧ J CF CP A H n ∧ n ≤ 900 ∧ ∀ H', J CF CP A H' (n + 1) → Q (.bl true) H'
section
variable {P : Program} {w : World} {K : PySem.W.Frag} {mg : Str → Option Value} {base : Heap} {C_Frames C_Pages C_NotValid : Addr}
abbrev s_law_load : Stmt := topS 31
abbrev ns_law_load : List Str := ["tape", "pages", "entries", "words", "environment", "page", "index", "entry", "due"]
theorem sc_law_load : FnScope ns_law_load ["tape", "pages", "entries", "words"] (defScope s_law_load) := ⟨rfl, rfl, rfl, by decide +kernel, rfl, by decide +kernel, by decide +kernel⟩

theorem ok_law_load {f : Addr} {fd : FuncData} (F : Fun K "_law_load" "_law_load" s_law_load f fd) (T : Txt K mg C_Frames C_Pages C_NotValid) (D_law_next : Dfn P w K mg base CX0 1 "_law_next" ["tape", "many"] spNext) (D_Pages_load : Mth P w K mg base (L2.CX P w) 7 C_Pages "load" ["self", "environment", "page", "index"] (spLoad C_Frames C_Pages)) : FnOk P w K mg base (L2.CX P w) 8 f fd ["tape", "pages", "entries", "words"] (spLoadL C_Frames C_Pages) := by
  have ho_Frames := T.o_Frames; have hn_Frames__words := T.n_Frames__words; have hn_Frames__shares := T.n_Frames__shares; have hn_Frames__rights := T.n_Frames__rights; have hn_Frames__offers := T.n_Frames__offers; have hn_Frames__asked := T.n_Frames__asked; have hn_Frames__ends_to_wait := T.n_Frames__ends_to_wait; have hn_Frames__taken := T.n_Frames__taken
  have ho_Pages := T.o_Pages; have hn_Pages__frames := T.n_Pages__frames; have hn_Pages__entries := T.n_Pages__entries
  refine F.okX sc_law_load (fun vs H Q E h => ?_) (fun cdv A outer s H vs Q E hr h => ?_)
  · obtain ⟨A, n, rfl, _⟩ := h
    rfl
  · obtain ⟨A, n, rfl, ⟨a, s', ds, en, wm, j, g⟩, nz, k⟩ := h
    refine ⟨_, (pss_cons (ps_set (i := 4) sc_law_load.nd rfl (Or.inl rfl) (pe_dcall D_law_next (hr.mono (by decide)) (by rfl) pass0 (pa_cons (pv 0) (pa_cons pe_int pa_nil))))
  (pss_cons (ps_set (i := 5) sc_law_load.nd rfl (Or.inl rfl) (pe_dcall D_law_next (hr.mono (by decide)) (by rfl) pass0 (pa_cons (pv 0) (pa_cons pe_int pa_nil))))
  (pss_cons (ps_set (i := 6) sc_law_load.nd rfl (Or.inl rfl) (pe_op op_sub (pe_dcall D_law_next (hr.mono (by decide)) (by rfl) pass0 (pa_cons (pv 0) (pa_cons pe_int pa_nil))) pe_int))
  (pss_cons (ps_set (i := 7) sc_law_load.nd rfl (Or.inl rfl) (pe_dget1 (units1 hr) (pv 2) (pe_tup (pa_cons (pv 4) (pa_cons (pv 5) pa_nil))) ⟨rfl, rfl, rfl, rfl⟩))
  (pss_cons (ps_set (i := 8) sc_law_load.nd rfl (Or.inl rfl) pe_non)
  (C8.pss_cut (ps_if (PW.pt (pw_and (pt_cmpR op_notN (pv 7) pe_non (nomark _)) (pw_and1 (pt_chain op_le op_lt pe_int (pv 6) pe_int)))) (pss_one (ps_set (i := 8) sc_law_load.nd rfl (Or.inl rfl) (pe_ix (kIxL K) (pe_dget (units1 hr) (pv 3) (pe_ix (kIxT K) (pv 7) pe_int (fun _ _ => rfl)) (fun _ _ => rfl)) (pv 6) (fun _ _ => rfl)))) pss_nil)
  (pss_one (ps_ret (pe_cmpR (kEqD K hr.units) (pe_dmeth (pv 1) D_Pages_load (hr.mono (by decide)) (passes_call (takes_of rfl rfl rfl rfl) fun _ _ _ _ h => h) (pa_cons (pv 4) (pa_cons (pv 5) (pa_cons (pv 6) pa_nil)))) (pv 8) (nomark _)))))))))), ?_⟩
    walk_at "ro"
    refine ⟨A.tp, A.ts, 4, rfl, by decide, by decide, j.tape, fun e H1 e0 e4 t1 c1 => ?_⟩
    obtain ⟨e, rfl⟩ := Int.eq_ofNat_of_zero_le e0
    have j1 := j.draw t1 c1
    clear t1 c1 j
    walk_at "ro"
    refine ⟨A.tp, A.ts, 33, rfl, by decide, by decide, j1.tape, fun pv H2 p0 p34 t1 c1 => ?_⟩
    obtain ⟨pv, rfl⟩ := Int.eq_ofNat_of_zero_le p0
    have j2 := j1.draw t1 c1
    clear t1 c1 j1
    walk_at "ro"
    refine ⟨A.tp, A.ts, 10, rfl, by decide, by decide, j2.tape, fun iv H3 i0 i10 t1 c1 => ?_⟩
    have j3 := j2.draw t1 c1
    clear t1 c1 j2
    have e4' : e < 4 := by omega
    obtain ⟨kvs, k1, k2, k3⟩ := id j3.ld
    walk_at "ro"
    refine ⟨.inr ⟨_, .inl k1⟩, ?_⟩
    walk_at "ro"
    refine ⟨szl rfl, fun q1 hq1 => ?_⟩
    have s1 := Same.new (o := .tup [.int (e : Int), .int (pv : Int)]) hq1
    have a1 : (upd H3 q1 (.tup [.int (e : Int), .int (pv : Int)])) q1 = some (.tup ((kk2 e pv).map kV)) := upd_same
    generalize upd H3 q1 (.tup [.int (e : Int), .int (pv : Int)]) = H4 at s1 a1 ⊢
    refine ⟨_, DGet.t (k := kk2 e pv) (s1 _ _ k1) a1, ?_⟩
    have j4 := j3.same s1
    have h4 := j4.fr.ins
    have h4p := j4.pg.ins
    have hw : ∀ f b, entOf en e (pv : Int) = some (f, b) → f < s'.m ∧ (s'.wd.getD f []).length = 8 := fun f b h => by
      rw [entOf_nat] at h
      obtain ⟨x1, x2, _⟩ := g.words j4.fr.ok e4' h
      exact ⟨x1, x2⟩
    rcases k3 e pv e4' with ⟨z1, z2⟩ | ⟨v, z1, z2, z3⟩
    · rw [z2]
      have eo : entOf en e (pv : Int) = none := by rw [entOf_nat]; exact z1
      walk_at "ro"
      refine ⟨fun σ Hy => Hide (σ = [some (.ref A.tp), some (.ref A.y), some (.ref A.E), some (.ref A.W), some (.int (e : Int)), some (.int (pv : Int)), some (.int (iv - 1)), some .non, some .non] ∧ Hy = H4), ?_, ?_⟩
      · walk_at "ro"
        exact hide ⟨rfl, rfl⟩
      rintro σ Hx hh
      obtain ⟨rfl, rfl⟩ := hh.out
      clear hh
      walk_at "ro"
      refine ⟨_, A.y, A.x, A.dx, A.L, ds, en, a, s', e, pv, iv - 1, rfl, j4.fr, j4.pg, e4', hw, fun _ => ?_, fun f b kk w y1 => ?_⟩
      · refine ⟨_, rfl, .none, .none, .non, .non, rfl, rfl, ?_⟩
        exact k _ (J.le ⟨a, s', ds, en, wm, j4, g⟩ (by omega))
      · rw [eo] at y1; cases y1
    · rw [z1]
      obtain ⟨⟨f, b⟩, ef⟩ := Option.ne_none_iff_exists'.mp z2
      rw [ef] at z3
      obtain ⟨t, rfl, ht⟩ := z3
      have ht4 := s1 _ _ ht
      have eo : entOf en e (pv : Int) = some (f, b) := by rw [entOf_nat]; exact ef
      obtain ⟨x1, x2, q, x3⟩ := g.words j4.fr.ok e4' ef
      obtain ⟨wvs, w1, w2, w3, w4, w5⟩ := id j4.wd
      have hqw : H4 q = some (.lst ((s'.wd.getD f []).map vN)) := w4 f _ x3
      have d1 : isI (.int (iv - 1)) 0 7 = (decide (0 ≤ iv - 1) && decide (iv - 1 ≤ 7)) := rfl
      walk_at "ro"
      refine ⟨fun σ Hy => Hide (∃ dv, σ = [some (.ref A.tp), some (.ref A.y), some (.ref A.E), some (.ref A.W), some (.int (e : Int)), some (.int (pv : Int)), some (.int (iv - 1)), some (.ref t), some dv] ∧ Hy = H4 ∧ ((isI (.int (iv - 1)) 0 7 = false ∧ dv = .non) ∨ ∃ kk w : Nat, isI (.int (iv - 1)) 0 7 = true ∧ iv - 1 = (kk : Int) ∧ (s'.wd.getD f [])[kk]? = some w ∧ dv = .int (w : Int))), ?_, ?_⟩
      · walk_at "ro"
        have dg : DGet H4 A.W (.int (f : Int)) (some (.ref q)) := by
          have := DGet.k (k := .inl (f : Int)) w1
          rw [w3, x3] at this
          exact this
        refine iteD (fun q1 => ?_) (fun q1 => ?_)
        · walk_at "ro"
          refine iteD (fun q2 => ?_) (fun q2 => ?_)
          · obtain ⟨kk, ek⟩ := Int.eq_ofNat_of_zero_le q1
            have k8 : kk < (s'.wd.getD f []).length := by omega
            walk_at "ro"
            refine ⟨_, _, rfl, dg, ?_⟩
            walk_at "ro"
            refine ⟨_, _, _, _, rfl, rfl, SqL.of hqw, atC kk ek (by rw [List.getElem?_map, List.getElem?_eq_getElem k8]; rfl), ?_⟩
            exact hide ⟨_, rfl, rfl, .inr ⟨kk, _, by rw [d1, decide_eq_true q1, decide_eq_true (show iv - 1 ≤ 7 by omega)]; rfl, ek, List.getElem?_eq_getElem k8, rfl⟩⟩
          · walk_at "ro"
            exact hide ⟨_, rfl, rfl, .inl ⟨by rw [d1, decide_eq_false (show ¬ iv - 1 ≤ 7 by omega), Bool.and_false], rfl⟩⟩
        · walk_at "ro"
          exact hide ⟨_, rfl, rfl, .inl ⟨by rw [d1, decide_eq_false q1]; rfl, rfl⟩⟩
      rintro σ Hx hh
      obtain ⟨dv, rfl, rfl, hdv⟩ := hh.out
      clear hh
      walk_at "ro"
      refine ⟨_, A.y, A.x, A.dx, A.L, ds, en, a, s', e, pv, iv - 1, rfl, j4.fr, j4.pg, e4', hw, fun y => ?_, fun f' b' kk w y1 y2 y3 y4 => ?_⟩
      · rcases hdv with ⟨_, rfl⟩ | ⟨kk, w, y1, _⟩
        · refine ⟨_, rfl, .none, .none, .non, .non, rfl, rfl, ?_⟩
          exact k _ (J.le ⟨a, s', ds, en, wm, j4, g⟩ (by omega))
        · rcases y with y | y
          · rw [eo] at y; cases y
          · rw [y1] at y; cases y
      · rw [eo] at y1
        cases y1
        rcases hdv with ⟨y5, _⟩ | ⟨k', w', y5, y6, y7, rfl⟩
        · rw [y2, isI_in (by omega)] at y5; cases y5
        · have : kk = k' := by have := y2.symm.trans y6; omega
          subst this
          rw [y4] at y7
          cases y7
          refine ⟨_, rfl, .int (w : Int), .int (w : Int), .int _, .int _, rfl, rfl, ?_⟩
          have ee : PyData.eqv (.int (w : Int)) (.int (w : Int)) = true := by rw [PyData.eqv]; exact beq_self_eq_true _
          rw [ee]
          exact k _ (J.le ⟨a, s', ds, en, wm, j4, g⟩ (by omega))
end
end My

namespace My
open PySem L2
local macro_rules | `(tactic| walk_at "ne") => `(tactic| first | assumption | exact Ne.symm (by assumption) | exact ne_of_none (by assumption) (by assumption) | exact Ne.symm (ne_of_none (by assumption) (by assumption)))
local macro_rules | `(tactic| walk_at "hp") => `(tactic| first | assumption | with_reducible exact upd_same | (with_reducible refine Eq.trans (upd_ne ?_) ?_; rotate_left; walk_at "hp"; walk_at "ne"))
local macro_rules | `(tactic| walk_at "cnd") => `(tactic| first | omega | (show (0 : Int) < _; omega) | exact ⟨by omega, by omega⟩ | exact Or.inl ⟨by omega, by omega⟩ | exact Or.inr ⟨by omega, by omega⟩ | exact ⟨by omega, by omega, by decide⟩ | exact ⟨by omega, by omega, by omega⟩)
local macro_rules | `(tactic| walk_at "at") => `(tactic| first | exact atC 0 rfl rfl | exact atC 1 rfl rfl | exact atC 2 rfl rfl | exact atC 3 rfl rfl | exact atC 4 rfl rfl | exact atC 5 rfl rfl | exact atC 6 rfl rfl | exact atC 7 rfl rfl)
local macro_rules | `(tactic| walk_at "ix") => `(tactic| first | exact ixC 0 rfl (Nat.le_of_ble_eq_true rfl) | exact ixC 1 rfl (Nat.le_of_ble_eq_true rfl) | exact ixC 2 rfl (Nat.le_of_ble_eq_true rfl) | exact ixC 3 rfl (Nat.le_of_ble_eq_true rfl) | exact ixC 4 rfl (Nat.le_of_ble_eq_true rfl) | exact ixC 5 rfl (Nat.le_of_ble_eq_true rfl))
local macro_rules | `(tactic| walk_at "st") => `(tactic| first
  | refine ⟨_, rfl, ?_⟩
  | refine ⟨_, _, rfl, rfl, (by walk_at "cnd" : (_ : Prop)), ?_⟩
  | refine ⟨_, _, rfl, rfl, ?_⟩
  | refine ⟨rfl, ?_⟩
  | refine Or.inl ⟨_, rfl, ?_⟩
  | refine ⟨_, _, _, _, rfl, rfl, by exact SqL.of (by walk_at "hp"), by walk_at "at", ?_⟩
  | refine ⟨_, _, _, _, rfl, rfl, by exact SqT.of (by walk_at "hp"), by walk_at "at", ?_⟩
  | refine ⟨_, _, _, _, rfl, rfl, by walk_at "hp", by walk_at "ix", ?_⟩
  | refine ⟨_, _, rfl, Or.inl (by exact SqL.of (by walk_at "hp")), ?_⟩
  | refine ⟨_, _, rfl, Or.inr (by exact SqT.of (by walk_at "hp")), ?_⟩)
local macro_rules | `(tactic| walk_at "so") => `(tactic| first
  | refine ⟨_, _, _, _, _, rfl, by walk_at "hp", by assumption, by assumption, rfl, ?_⟩
  | refine ⟨_, _, _, _, rfl, by walk_at "hp", by assumption, by assumption, Nat.le_of_ble_eq_true rfl, ?_⟩
  | refine ⟨_, _, _, rfl, by walk_at "hp", rfl, ?_⟩
  | walk_at "st")
local macro_rules | `(tactic| walk_at "ro") => `(tactic| repeat walk_at "so")
local macro_rules | `(tactic| walk_at "run") => `(tactic| repeat walk_at "st")

section
variable {P : Program} {w : World} {K : PySem.W.Frag} {mg : Str → Option Value} {base : Heap} {C_Frames C_Pages C_NotValid : Addr}
abbrev s_law_store : Stmt := topS 30
abbrev ns_law_store : List Str := ["tape", "pages", "entries", "words", "environment", "page", "index", "word", "entry", "due"]
theorem sc_law_store : FnScope ns_law_store ["tape", "pages", "entries", "words"] (defScope s_law_store) := ⟨rfl, rfl, rfl, by decide +kernel, rfl, by decide +kernel, by decide +kernel⟩

theorem ok_law_store {f : Addr} {fd : FuncData} (F : Fun K "_law_store" "_law_store" s_law_store f fd) (T : Txt K mg C_Frames C_Pages C_NotValid) (D_law_next : Dfn P w K mg base CX0 1 "_law_next" ["tape", "many"] spNext) (D_Pages_store : Mth P w K mg base (L2.CX P w) 7 C_Pages "store" ["self", "environment", "page", "index", "word"] (spStore C_Frames C_Pages)) : FnOk P w K mg base (L2.CX P w) 8 f fd ["tape", "pages", "entries", "words"] (spLoadL C_Frames C_Pages) := by
  have ho_Frames := T.o_Frames; have hn_Frames__words := T.n_Frames__words; have hn_Frames__shares := T.n_Frames__shares; have hn_Frames__rights := T.n_Frames__rights; have hn_Frames__offers := T.n_Frames__offers; have hn_Frames__asked := T.n_Frames__asked; have hn_Frames__ends_to_wait := T.n_Frames__ends_to_wait; have hn_Frames__taken := T.n_Frames__taken
  have ho_Pages := T.o_Pages; have hn_Pages__frames := T.n_Pages__frames; have hn_Pages__entries := T.n_Pages__entries
  refine F.okX sc_law_store (fun vs H Q E h => ?_) (fun cdv A outer s H vs Q E hr h => ?_)
  · obtain ⟨A, n, rfl, _⟩ := h
    rfl
  · obtain ⟨A, n, rfl, ⟨a, s', ds, en, wm, j, g⟩, nz, k⟩ := h
    refine ⟨_, (pss_cons (ps_set (i := 4) sc_law_store.nd rfl (Or.inl rfl) (pe_dcall D_law_next (hr.mono (by decide)) (by rfl) pass0 (pa_cons (pv 0) (pa_cons pe_int pa_nil))))
  (pss_cons (ps_set (i := 5) sc_law_store.nd rfl (Or.inl rfl) (pe_dcall D_law_next (hr.mono (by decide)) (by rfl) pass0 (pa_cons (pv 0) (pa_cons pe_int pa_nil))))
  (pss_cons (ps_set (i := 6) sc_law_store.nd rfl (Or.inl rfl) (pe_op op_sub (pe_dcall D_law_next (hr.mono (by decide)) (by rfl) pass0 (pa_cons (pv 0) (pa_cons pe_int pa_nil))) pe_int))
  (pss_cons (ps_set (i := 7) sc_law_store.nd rfl (Or.inl rfl) (pe_ix (kIxL K) (pe_lst (pa_cons (pe_dcall D_law_next (hr.mono (by decide)) (by rfl) pass0 (pa_cons (pv 0) (pa_cons pe_int pa_nil))) (pa_cons (pe_op op_sub (pe_op op_pow pe_int pe_int) pe_int) (pa_cons (pe_op op_pow pe_int pe_int) (pa_cons (pe_un un_neg pe_int) pa_nil))))) (pe_dcall D_law_next (hr.mono (by decide)) (by rfl) pass0 (pa_cons (pv 0) (pa_cons pe_int pa_nil))) (fun _ _ => rfl)))
  (pss_cons (ps_set (i := 8) sc_law_store.nd rfl (Or.inl rfl) (pe_dget1 (units1 hr) (pv 2) (pe_tup (pa_cons (pv 4) (pa_cons (pv 5) pa_nil))) ⟨rfl, rfl, rfl, rfl⟩))
  (C8.pss_cut (ps_set (i := 9) sc_law_store.nd rfl (Or.inl rfl) (pe_and (pe_cmpR op_notN (pv 8) pe_non (nomark _)) (pe_and (pe_cmpR op_eq (pe_ix (kIxT K) (pv 8) pe_int (fun _ _ => rfl)) pe_str (nomark _)) (pe_and (pe_chain op_le op_lt pe_int (pv 6) pe_int) (pe_one (pe_chain op_le op_lt pe_int (pv 7) (pe_op op_pow pe_int pe_int)))))))
  (C8.pss_cut (ps_if (pt_val (pv 9)) (pss_one (ps_asg (pv 7) (pg_sub (pe_dget (units1 hr) (pv 3) (pe_ix (kIxT K) (pv 8) pe_int (fun _ _ => rfl)) (fun _ _ => rfl)) (pv 6) set_list))) pss_nil)
  (pss_one (ps_ret (pe_cmpR op_eq (pe_dmeth (pv 1) D_Pages_store (hr.mono (by decide)) (passes_call (takes_of rfl rfl rfl rfl) fun _ _ _ _ h => h) (pa_cons (pv 4) (pa_cons (pv 5) (pa_cons (pv 6) (pa_cons (pv 7) pa_nil))))) (pv 9) (nomark _))))))))))), ?_⟩
    walk_at "ro"
    refine ⟨A.tp, A.ts, 4, rfl, by decide, by decide, j.tape, fun e H1 e0 e4 t1 c1 => ?_⟩
    obtain ⟨e, rfl⟩ := Int.eq_ofNat_of_zero_le e0
    have j1 := j.draw t1 c1
    clear t1 c1 j
    walk_at "ro"
    refine ⟨A.tp, A.ts, 33, rfl, by decide, by decide, j1.tape, fun pv H2 p0 p34 t1 c1 => ?_⟩
    obtain ⟨pv, rfl⟩ := Int.eq_ofNat_of_zero_le p0
    have j2 := j1.draw t1 c1
    clear t1 c1 j1
    walk_at "ro"
    refine ⟨A.tp, A.ts, 10, rfl, by decide, by decide, j2.tape, fun iv H3 i0 i10 t1 c1 => ?_⟩
    have j3 := j2.draw t1 c1
    clear t1 c1 j2
    walk_at "ro"
    refine ⟨A.tp, A.ts, 9, rfl, by decide, by decide, j3.tape, fun x9 H4 x0 x9' t1 c1 => ?_⟩
    have j4 := j3.draw t1 c1
    clear t1 c1 j3
    walk_at "ro"
    refine ⟨szl rfl, fun q0 hq0 => ?_⟩
    have s0 : Same H4 (upd H4 q0 (HO.lst [V.int x9, (fun i j : Int => V.int (i - j)) ((2 : Int) ^ Int.toNat 32) 1, (fun i j : Int => V.int (i ^ j.toNat)) 2 32, (fun i : Int => V.int (-i)) 1])) := Same.new hq0
    have a0 : (upd H4 q0 (HO.lst [V.int x9, (fun i j : Int => V.int (i - j)) ((2 : Int) ^ Int.toNat 32) 1, (fun i j : Int => V.int (i ^ j.toNat)) 2 32, (fun i : Int => V.int (-i)) 1])) q0 = some (.lst [V.int x9, V.int 4294967295, V.int 4294967296, V.int (-1)]) := upd_same
    have qtp : q0 ≠ A.tp := j4.tape.at hq0
    generalize upd H4 q0 (HO.lst [V.int x9, (fun i j : Int => V.int (i - j)) ((2 : Int) ^ Int.toNat 32) 1, (fun i j : Int => V.int (i ^ j.toNat)) 2 32, (fun i : Int => V.int (-i)) 1]) = H5 at s0 a0 ⊢
    have j5 := j4.same s0
    clear s0 j4
    walk_at "ro"
    refine ⟨A.tp, A.ts, 4, rfl, by decide, by decide, j5.tape, fun xi H6 y0 y4 t1 c1 => ?_⟩
    obtain ⟨xi, rfl⟩ := Int.eq_ofNat_of_zero_le y0
    have j6 := j5.draw t1 c1
    have a6 := c1 _ _ qtp a0
    clear t1 c1 j5 a0
    obtain ⟨wd, hwd⟩ : ∃ wd : Int, [V.int x9, V.int 4294967295, V.int 4294967296, V.int (-1)][xi]? = some (.int wd) := by
      have : xi = 0 ∨ xi = 1 ∨ xi = 2 ∨ xi = 3 := by omega
      rcases this with rfl | rfl | rfl | rfl
      · exact ⟨_, rfl⟩
      · exact ⟨_, rfl⟩
      · exact ⟨_, rfl⟩
      · exact ⟨_, rfl⟩
    walk_at "ro"
    refine ⟨_, _, _, _, rfl, rfl, SqL.of a6, atC xi rfl hwd, ?_⟩
    have e4' : e < 4 := by omega
    obtain ⟨kvs, k1, k2, k3⟩ := id j6.ld
    walk_at "ro"
    refine ⟨.inr ⟨_, .inl k1⟩, ?_⟩
    walk_at "ro"
    refine ⟨szl rfl, fun q1 hq1 => ?_⟩
    have s1 := Same.new (o := .tup [.int (e : Int), .int (pv : Int)]) hq1
    have a1 : (upd H6 q1 (.tup [.int (e : Int), .int (pv : Int)])) q1 = some (.tup ((kk2 e pv).map kV)) := upd_same
    generalize upd H6 q1 (.tup [.int (e : Int), .int (pv : Int)]) = H7 at s1 a1 ⊢
    refine ⟨_, DGet.t (k := kk2 e pv) (s1 _ _ k1) a1, ?_⟩
    have j7 := j6.same s1
    clear j6
    have h7 := j7.fr.ins
    have h7p := j7.pg.ins
    have hw : ∀ f b, entOf en e (pv : Int) = some (f, b) → f < s'.m ∧ (s'.wd.getD f []).length = 8 := fun f b h => by
      rw [entOf_nat] at h
      obtain ⟨x1, x2, _⟩ := g.words j7.fr.ok e4' h
      exact ⟨x1, x2⟩
    obtain ⟨v, hv, hev⟩ : ∃ v, (valV kvs (kk2 e pv)).getD .non = v ∧ EntV H7 v (en e pv) := by
      rcases k3 e pv e4' with ⟨z1, z2⟩ | ⟨v, z1, z2, z3⟩
      · exact ⟨_, rfl, by rw [z2, z1]; rfl⟩
      · exact ⟨_, rfl, by rw [z1]; exact z3.ts (TuS.same s1)⟩
    rw [hv]
    generalize edue : mayS en e (pv : Int) (iv - 1) wd = due
    have edue2 := edue
    unfold mayS at edue2
    rw [entOf_nat] at edue2
    have d1 : isI (.int (iv - 1)) 0 7 = (decide (0 ≤ iv - 1) && decide (iv - 1 ≤ 7)) := rfl
    have d2 : isI (.int wd) 0 4294967295 = (decide (0 ≤ wd) && decide (wd ≤ 4294967295)) := rfl
    rw [d1, d2] at edue2
    walk_at "ro"
    refine ⟨fun σ Hy => Hide (σ = [some (.ref A.tp), some (.ref A.y), some (.ref A.E), some (.ref A.W), some (.int (e : Int)), some (.int (pv : Int)), some (.int (iv - 1)), some (.int wd), some v, some (.bl due)] ∧ Hy = H7), ?_, ?_⟩
    · cases een : en e pv with
      | none =>
        rw [een] at hev edue2
        have : v = .non := hev
        subst this
        subst edue2
        walk_at "ro"
        exact hide ⟨rfl, rfl⟩
      | some fb =>
        obtain ⟨f, b⟩ := fb
        rw [een] at hev edue2
        obtain ⟨t, rfl, ht⟩ := hev
        cases b with
        | false =>
          subst edue2
          walk_at "ro"
          exact hide ⟨rfl, rfl⟩
        | true =>
          have edue3 : ((decide (0 ≤ iv - 1) && decide (iv - 1 ≤ 7)) && (decide (0 ≤ wd) && decide (wd ≤ 4294967295))) = due := by rw [← edue2, Bool.true_and]
          clear edue2
          walk_at "ro"
          refine iteD (fun q1 => ?_) (fun q1 => ?_)
          · rw [decide_eq_true q1, Bool.true_and] at edue3
            walk_at "ro"
            refine iteD (fun q2 => ?_) (fun q2 => ?_)
            · rw [decide_eq_true (show iv - 1 ≤ 7 by omega), Bool.true_and] at edue3
              walk_at "ro"
              refine iteD (fun q3 => ?_) (fun q3 => ?_)
              · rw [decide_eq_true q3, Bool.true_and] at edue3
                walk_at "ro"
                refine hide ⟨?_, rfl⟩
                have e32 : decide (wd ≤ 4294967295) = decide (wd < (2 : Int) ^ Int.toNat 32) := decide_eq_decide.mpr (by show wd ≤ 4294967295 ↔ wd < 4294967296; omega)
                rw [← edue3, e32]
                rfl
              · rw [decide_eq_false q3, Bool.false_and] at edue3
                subst edue3
                walk_at "ro"
                exact hide ⟨rfl, rfl⟩
            · rw [decide_eq_false (show ¬ iv - 1 ≤ 7 by omega), Bool.false_and] at edue3
              subst edue3
              walk_at "ro"
              exact hide ⟨rfl, rfl⟩
          · rw [decide_eq_false q1, Bool.false_and, Bool.false_and] at edue3
            subst edue3
            walk_at "ro"
            exact hide ⟨rfl, rfl⟩
    rintro σ Hx hh
    obtain ⟨rfl, rfl⟩ := hh.out
    clear hh edue2
    cases due with
    | false =>
      refine ⟨fun σ Hy => Hide (σ = [some (.ref A.tp), some (.ref A.y), some (.ref A.E), some (.ref A.W), some (.int (e : Int)), some (.int (pv : Int)), some (.int (iv - 1)), some (.int wd), some v, some (.bl false)] ∧ Hy = Hx), ?_, ?_⟩
      · walk_at "ro"
        exact hide ⟨rfl, rfl⟩
      rintro σ Hy hh
      obtain ⟨rfl, rfl⟩ := hh.out
      clear hh
      walk_at "ro"
      refine ⟨_, A.y, A.x, A.dx, A.L, ds, en, a, s', e, pv, iv - 1, wd, rfl, j7.fr, j7.pg, e4', hw, fun _ => ?_, fun f kk n' z1 z2 z3 z4 z5 => ?_⟩
      · walk_at "ro"
        exact k _ (J.le ⟨a, s', ds, en, wm, j7, g⟩ (by omega))
      · unfold mayS at edue
        rw [z1, z2, z4, isI_in (n := kk) (by omega), isI_in (n := n') (by omega)] at edue
        cases edue
    | true =>
      unfold mayS at edue
      rw [Bool.and_eq_true, Bool.and_eq_true, entOf_nat] at edue
      obtain ⟨u1, u2, u3⟩ := edue
      obtain ⟨f, een⟩ : ∃ f, en e pv = some (f, true) := by
        cases x : en e pv with
        | none => rw [x] at u1; cases u1
        | some fb =>
          obtain ⟨f, b⟩ := fb
          rw [x] at u1
          cases b with
          | true => exact ⟨f, rfl⟩
          | false => cases u1
      rw [een] at hev
      obtain ⟨t, rfl, ht⟩ := hev
      obtain ⟨kk, ek, k8⟩ := isI_nat u2
      injection ek with ek
      obtain ⟨nn, en', n32⟩ := isI_nat u3
      injection en' with en'
      obtain ⟨x1, x2, q, x3⟩ := g.words j7.fr.ok e4' een
      obtain ⟨wvs, w1, w2, w3, w4, w5⟩ := id j7.wd
      have hqw : Hx q = some (.lst ((s'.wd.getD f []).map vN)) := w4 f _ x3
      have dg : DGet Hx A.W (.int (f : Int)) (some (.ref q)) := by
        have := DGet.k (k := .inl (f : Int)) w1
        rw [w3, x3] at this
        exact this
      have fl : f < s'.wd.length := by rw [j7.fr.ok.wdm]; exact x1
      refine ⟨fun σ Hy => Hide (σ = [some (.ref A.tp), some (.ref A.y), some (.ref A.E), some (.ref A.W), some (.int (e : Int)), some (.int (pv : Int)), some (.int (iv - 1)), some (.int wd), some (.ref t), some (.bl true)] ∧ JP C_Frames C_Pages A Hy a s' ds en en (wmPut wm f (q, (s'.wd.getD f []).set kk nn)) n), ?_, ?_⟩
      · walk_at "ro"
        refine ⟨_, _, rfl, dg, ?_⟩
        walk_at "ro"
        refine ⟨_, _, _, kk, rfl, rfl, hqw, ixC kk ek (by rw [List.length_map]; omega), ?_⟩
        have els : ((s'.wd.getD f []).map vN).set kk (.int wd) = ((s'.wd.getD f []).set kk nn).map vN := by rw [List.map_set, en']; rfl
        rw [els]
        refine hide ⟨rfl, j7.wset (j7.wd.set x3) x3 (ChgP.upd (fun _ _ _ h => h) rfl) fun f' q' e' => ?_⟩
        unfold wmPut at e'
        by_cases z : f' = f
        · rw [if_pos z] at e'
          cases e'
          exact ⟨f, _, x3, rfl⟩
        · rw [if_neg z] at e'
          exact ⟨f', q', e', rfl⟩
      rintro σ Hy hh
      obtain ⟨rfl, j8⟩ := hh.out
      clear hh
      have h8 := j8.fr.ins
      have h8p := j8.pg.ins
      walk_at "ro"
      refine ⟨_, A.y, A.x, A.dx, A.L, ds, en, a, s', e, pv, iv - 1, wd, rfl, j8.fr, j8.pg, e4', hw, fun z => ?_, fun f' kk' n' z1 z2 z3 z4 z5 H9 fr9 c9 => ?_⟩
      · unfold mayS at z
        rw [entOf_nat, een, u2, u3] at z
        cases z
      · rw [entOf_nat, een] at z1
        cases z1
        have y1 : kk' = kk := by have := ek.symm.trans z2; omega
        have y2 : n' = nn := by have := en'.symm.trans z4; omega
        subst y1 y2
        walk_at "ro"
        exact k _ ⟨a, _, ds, en, _, (j8.frames fr9 (fun z hz => .inl (fr9.mine z hz)) c9).le (by omega), (g.store fl x3).le (by omega)⟩
end
end My

namespace My
open PySem L2
local macro_rules | `(tactic| walk_at "ne") => `(tactic| first | assumption | exact Ne.symm (by assumption) | exact ne_of_none (by assumption) (by assumption) | exact Ne.symm (ne_of_none (by assumption) (by assumption)))
local macro_rules | `(tactic| walk_at "hp") => `(tactic| first | assumption | with_reducible exact upd_same | (with_reducible refine Eq.trans (upd_ne ?_) ?_; rotate_left; walk_at "hp"; walk_at "ne"))
local macro_rules | `(tactic| walk_at "cnd") => `(tactic| first | omega | (show (0 : Int) < _; omega) | exact ⟨by omega, by omega⟩ | exact Or.inl ⟨by omega, by omega⟩ | exact Or.inr ⟨by omega, by omega⟩ | exact ⟨by omega, by omega, by decide⟩ | exact ⟨by omega, by omega, by omega⟩)
local macro_rules | `(tactic| walk_at "at") => `(tactic| first | exact atC 0 rfl rfl | exact atC 1 rfl rfl | exact atC 2 rfl rfl | exact atC 3 rfl rfl | exact atC 4 rfl rfl | exact atC 5 rfl rfl | exact atC 6 rfl rfl | exact atC 7 rfl rfl)
local macro_rules | `(tactic| walk_at "ix") => `(tactic| first | exact ixC 0 rfl (Nat.le_of_ble_eq_true rfl) | exact ixC 1 rfl (Nat.le_of_ble_eq_true rfl) | exact ixC 2 rfl (Nat.le_of_ble_eq_true rfl) | exact ixC 3 rfl (Nat.le_of_ble_eq_true rfl) | exact ixC 4 rfl (Nat.le_of_ble_eq_true rfl) | exact ixC 5 rfl (Nat.le_of_ble_eq_true rfl))
local macro_rules | `(tactic| walk_at "st") => `(tactic| first
  | refine ⟨_, rfl, ?_⟩
  | refine ⟨_, _, rfl, rfl, (by walk_at "cnd" : (_ : Prop)), ?_⟩
  | refine ⟨_, _, rfl, rfl, ?_⟩
  | refine ⟨rfl, ?_⟩
  | refine Or.inl ⟨_, rfl, ?_⟩
  | refine ⟨_, _, _, _, rfl, rfl, by exact SqL.of (by walk_at "hp"), by walk_at "at", ?_⟩
  | refine ⟨_, _, _, _, rfl, rfl, by exact SqT.of (by walk_at "hp"), by walk_at "at", ?_⟩
  | refine ⟨_, _, _, _, rfl, rfl, by walk_at "hp", by walk_at "ix", ?_⟩
  | refine ⟨_, _, rfl, Or.inl (by exact SqL.of (by walk_at "hp")), ?_⟩
  | refine ⟨_, _, rfl, Or.inr (by exact SqT.of (by walk_at "hp")), ?_⟩)
local macro_rules | `(tactic| walk_at "so") => `(tactic| first
  | refine ⟨_, _, _, _, _, rfl, by walk_at "hp", by assumption, by assumption, rfl, ?_⟩
  | refine ⟨_, _, _, _, rfl, by walk_at "hp", by assumption, by assumption, Nat.le_of_ble_eq_true rfl, ?_⟩
  | refine ⟨_, _, _, rfl, by walk_at "hp", rfl, ?_⟩
  | walk_at "st")
local macro_rules | `(tactic| walk_at "ro") => `(tactic| repeat walk_at "so")
local macro_rules | `(tactic| walk_at "run") => `(tactic| repeat walk_at "st")

def spShownP (CF CP : Addr) : Sp := fun vs H Q _ => ∃ (A : LA) (n : Nat), vs = [.ref A.x, .ref A.y, .ref A.E] ∧ J CF CP A H n ∧ ∀ H', J CF CP A H' n → Q (.bl true) H'
section
variable {P : Program} {w : World} {K : PySem.W.Frag} {mg : Str → Option Value} {base : Heap} {C_Frames C_Pages C_NotValid : Addr}
abbrev s_law_shown : Stmt := topS 32
abbrev ns_law_shown : List Str := ["frames", "pages", "entries", "environment", "page", "entry"]
theorem sc_law_shown : FnScope ns_law_shown ["frames", "pages", "entries"] (defScope s_law_shown) := ⟨rfl, rfl, rfl, by decide +kernel, rfl, by decide +kernel, by decide +kernel⟩

theorem ok_law_shown {f : Addr} {fd : FuncData} (F : Fun K "_law_shown" "_law_shown" s_law_shown f fd) (T : Txt K mg C_Frames C_Pages C_NotValid) (D_Pages_entry : Mth P w K mg base CX0 6 C_Pages "entry" ["self", "environment", "page"] (spEntry C_Pages)) (D_Frames_right : Mth P w K mg base CX0 5 C_Frames "right" ["self", "environment", "frame"] (spRight C_Frames)) : FnOk P w K mg base CX0 7 f fd ["frames", "pages", "entries"] (spShownP C_Frames C_Pages) := by
  have ho_Frames := T.o_Frames; have hn_Frames__words := T.n_Frames__words; have hn_Frames__shares := T.n_Frames__shares; have hn_Frames__rights := T.n_Frames__rights; have hn_Frames__offers := T.n_Frames__offers; have hn_Frames__asked := T.n_Frames__asked; have hn_Frames__ends_to_wait := T.n_Frames__ends_to_wait; have hn_Frames__taken := T.n_Frames__taken
  have ho_Pages := T.o_Pages; have hn_Pages__frames := T.n_Pages__frames; have hn_Pages__entries := T.n_Pages__entries
  refine F.ok sc_law_shown (fun vs H Q E h => ?_) (fun cdv A outer s H vs Q E hr h => ?_)
  · obtain ⟨A, n, rfl, _⟩ := h
    rfl
  · obtain ⟨A, n, rfl, ⟨a, s', ds, en, wm, j0, g⟩, k⟩ := h
    refine ⟨_, (pss_cons (ps_for PassesOwn.never (by rfl) (pi_range1 (by rfl) T.b_range (pa_cons pe_int pa_nil)) (pg_name (i := 3) sc_law_shown.nd rfl (Or.inl rfl)) (pss_one (ps_for PassesOwn.never (by rfl) (pi_range1 (by rfl) T.b_range (pa_cons pe_int pa_nil)) (pg_name (i := 4) sc_law_shown.nd rfl (Or.inl rfl)) (pss_cons (ps_set (i := 5) sc_law_shown.nd rfl (Or.inl rfl) (pe_dmeth (pv 1) D_Pages_entry (hr.mono (by decide)) pass0 (pa_cons (pv 3) (pa_cons (pv 4) pa_nil))))
  (pss_cons (ps_if (pt_cmpR (kNeD K hr.units) (pv 5) (pe_dget1 (units1 hr) (pv 2) (pe_tup (pa_cons (pv 3) (pa_cons (pv 4) pa_nil))) ⟨rfl, rfl, rfl, rfl⟩) (nomark _)) (pss_one (ps_ret pe_bl)) pss_nil)
  (pss_one (ps_if (PW.pt (pw_and (pt_cmpR op_notN (pv 5) pe_non (nomark _)) (pw_and1 (pt_cmpR (kNotIn K) (pe_dmeth (pv 0) D_Frames_right (hr.mono (by decide)) pass0 (pa_cons (pv 3) (pa_cons (pe_ix (kIxT K) (pv 5) pe_int (fun _ _ => rfl)) pa_nil))) (pe_tup (pa_cons (pe_ix (kIxT K) (pv 5) pe_int (fun _ _ => rfl)) (pa_cons pe_str pa_nil))) (by rfl))))) (pss_one (ps_ret pe_bl)) pss_nil)))))))
  (pss_one (ps_ret pe_bl))), ?_⟩
    walk_at "ro"
    refine ⟨by decide, by decide, ?_⟩
    refine for_range (fun i σ Hx => Hide (∃ v3 v4 v5 : Option V, σ = [some (.ref A.x), some (.ref A.y), some (.ref A.E), v3, v4, v5] ∧ JP C_Frames C_Pages A Hx a s' ds en en wm n)) ?_ ?_ ?_
    · exact hide ⟨_, _, _, rfl, j0⟩
    · rintro i σ Hx hi hh
      obtain ⟨v3, v4, v5, rfl, jx⟩ := hh.out
      clear hh
      have i4 : i < 4 := hi
      walk_at "ro"
      refine ⟨by decide, by decide, ?_⟩
      refine for_range (fun i2 σ Hy => Hide (∃ v4 v5 : Option V, σ = [some (.ref A.x), some (.ref A.y), some (.ref A.E), some (.int (0 + (i : Int))), v4, v5] ∧ JP C_Frames C_Pages A Hy a s' ds en en wm n)) ?_ ?_ ?_
      · exact hide ⟨_, _, rfl, jx⟩
      · rintro pj σ Hy hpj hh
        obtain ⟨v4, v5, rfl, jy⟩ := hh.out
        clear hh jx
        have h1 := jy.fr.ins
        have h1p := jy.pg.ins
        have ez : (0 : Int) + (i : Int) = (i : Int) := Int.zero_add _
        have ezp : (0 : Int) + (pj : Int) = (pj : Int) := Int.zero_add _
        rw [ez, ezp]
        walk_at "ro"
        refine ⟨A.y, A.x, A.dx, A.L, ds, en, i, (pj : Int), rfl, jy.pg, i4, fun v hv => ?_⟩
        rw [entOf_nat] at hv
        obtain ⟨kvs, k1, k2, k3⟩ := id jy.ld
        walk_at "ro"
        refine ⟨.inr ⟨_, .inl k1⟩, ?_⟩
        walk_at "ro"
        refine ⟨szl rfl, fun q1 hq1 => ?_⟩
        have s1 := Same.new (o := .tup [.int (i : Int), .int (pj : Int)]) hq1
        have a1 : (upd Hy q1 (.tup [.int (i : Int), .int (pj : Int)])) q1 = some (.tup ((kk2 i pj).map kV)) := upd_same
        generalize upd Hy q1 (.tup [.int (i : Int), .int (pj : Int)]) = H4 at s1 a1 ⊢
        refine ⟨_, DGet.t (k := kk2 i pj) (s1 _ _ k1) a1, ?_⟩
        have j4 := jy.same s1
        have h4 := j4.fr.ins
        obtain ⟨u, hu, heu⟩ : ∃ u, (valV kvs (kk2 i pj)).getD .non = u ∧ EntV H4 u (en i pj) := by
          rcases k3 i pj i4 with ⟨z1, z2⟩ | ⟨u, z1, z2, z3⟩
          · exact ⟨_, rfl, by rw [z2, z1]; rfl⟩
          · exact ⟨_, rfl, by rw [z1]; exact z3.ts (TuS.same s1)⟩
        rw [hu]
        have hv4 := hv.ts (TuS.same s1)
        cases een : en i pj with
        | none =>
          rw [een] at hv4 heu
          have e1 : v = .non := hv4
          have e2 : u = .non := heu
          subst e1
          subst e2
          refine ⟨.none, .none, .non, .non, rfl, rfl, ?_⟩
          have ee : PyData.eqv .none .none = true := by rw [PyData.eqv]
          rw [ee]
          walk_at "ro"
          exact hide ⟨_, _, rfl, j4⟩
        | some fb =>
          obtain ⟨f, b⟩ := fb
          rw [een] at hv4 heu
          obtain ⟨t, rfl, ht⟩ := hv4
          obtain ⟨t2, rfl, ht2⟩ := heu
          refine ⟨pD (f, b), pD (f, b), dp_pair ht, dp_pair ht2, (sh_pair _).ok, (sh_pair _).ok, ?_⟩
          rw [eqv_pair, decide_eq_true rfl]
          obtain ⟨c, c1, c2⟩ := g.rel i pj f b i4 een
          obtain ⟨x1, _, _⟩ := g.words j4.fr.ok i4 een
          walk_at "ro"
          refine ⟨_, A.x, a, s', _, _, _, _, rfl, j4.fr, .int (i : Int), .int (f : Int), ?_⟩
          rw [right_nat i4 x1, c1]
          walk_at "ro"
          refine ⟨szl rfl, fun q2 hq2 => ?_⟩
          have s2 := Same.new (o := .tup [rV b, .str "rw"]) hq2
          have a2 : (upd H4 q2 (.tup [rV b, .str "rw"])) q2 = some (.tup [rV b, .str "rw"]) := upd_same
          generalize upd H4 q2 (.tup [rV b, .str "rw"]) = H5 at s2 a2 ⊢
          have j5 := j4.same s2
          have fin : inV (rV c) [rV b, .str "rw"] = true := by
            cases b with
            | true => rw [c2 rfl]; decide +kernel
            | false => cases c <;> decide +kernel
          refine ⟨q2, _, rfl, .inr (SqT.of a2), by cases c <;> rfl, by cases b <;> rfl, ?_⟩
          have e2 : optR (some c) = rV c := rfl
          rw [e2, fin]
          walk_at "ro"
          exact hide ⟨_, _, rfl, j5⟩
      · rintro σ Hy hh
        obtain ⟨v4, v5, rfl, jy⟩ := hh.out
        walk_at "ro"
        exact hide ⟨_, _, _, rfl, jy⟩
    · rintro σ Hx hh
      obtain ⟨v3, v4, v5, rfl, jx⟩ := hh.out
      walk_at "ro"
      exact k Hx ⟨a, s', ds, en, wm, jx, g⟩
end
end My

namespace My
open PySem L2
local macro_rules | `(tactic| walk_at "ne") => `(tactic| first | assumption | exact Ne.symm (by assumption) | exact ne_of_none (by assumption) (by assumption) | exact Ne.symm (ne_of_none (by assumption) (by assumption)))
local macro_rules | `(tactic| walk_at "hp") => `(tactic| first | assumption | with_reducible exact upd_same | (with_reducible refine Eq.trans (upd_ne ?_) ?_; rotate_left; walk_at "hp"; walk_at "ne"))
local macro_rules | `(tactic| walk_at "cnd") => `(tactic| first | omega | (show (0 : Int) < _; omega) | exact ⟨by omega, by omega⟩ | exact Or.inl ⟨by omega, by omega⟩ | exact Or.inr ⟨by omega, by omega⟩ | exact ⟨by omega, by omega, by decide⟩ | exact ⟨by omega, by omega, by omega⟩)
local macro_rules | `(tactic| walk_at "at") => `(tactic| first | exact atC 0 rfl rfl | exact atC 1 rfl rfl | exact atC 2 rfl rfl | exact atC 3 rfl rfl | exact atC 4 rfl rfl | exact atC 5 rfl rfl | exact atC 6 rfl rfl | exact atC 7 rfl rfl)
local macro_rules | `(tactic| walk_at "ix") => `(tactic| first | exact ixC 0 rfl (Nat.le_of_ble_eq_true rfl) | exact ixC 1 rfl (Nat.le_of_ble_eq_true rfl) | exact ixC 2 rfl (Nat.le_of_ble_eq_true rfl) | exact ixC 3 rfl (Nat.le_of_ble_eq_true rfl) | exact ixC 4 rfl (Nat.le_of_ble_eq_true rfl) | exact ixC 5 rfl (Nat.le_of_ble_eq_true rfl))
local macro_rules | `(tactic| walk_at "st") => `(tactic| first
  | refine ⟨_, rfl, ?_⟩
  | refine ⟨_, _, rfl, rfl, (by walk_at "cnd" : (_ : Prop)), ?_⟩
  | refine ⟨_, _, rfl, rfl, ?_⟩
  | refine ⟨rfl, ?_⟩
  | refine Or.inl ⟨_, rfl, ?_⟩
  | refine ⟨_, _, _, _, rfl, rfl, by exact SqL.of (by walk_at "hp"), by walk_at "at", ?_⟩
  | refine ⟨_, _, _, _, rfl, rfl, by exact SqT.of (by walk_at "hp"), by walk_at "at", ?_⟩
  | refine ⟨_, _, _, _, rfl, rfl, by walk_at "hp", by walk_at "ix", ?_⟩
  | refine ⟨_, _, rfl, Or.inl (by exact SqL.of (by walk_at "hp")), ?_⟩
  | refine ⟨_, _, rfl, Or.inr (by exact SqT.of (by walk_at "hp")), ?_⟩)
local macro_rules | `(tactic| walk_at "so") => `(tactic| first
  | refine ⟨_, _, _, _, _, rfl, by walk_at "hp", by assumption, by assumption, rfl, ?_⟩
  | refine ⟨_, _, _, _, rfl, by walk_at "hp", by assumption, by assumption, Nat.le_of_ble_eq_true rfl, ?_⟩
  | refine ⟨_, _, _, rfl, by walk_at "hp", rfl, ?_⟩
  | walk_at "st")
local macro_rules | `(tactic| walk_at "ro") => `(tactic| repeat walk_at "so")
local macro_rules | `(tactic| walk_at "run") => `(tactic| repeat walk_at "st")

def spLaw (K : PySem.W.Frag) : Sp := fun vs H Q _ => ∃ (a : Addr) (ns : List Int), vs = [.ref a] ∧ SqL K H a (ns.map V.int) ∧ ∀ H', Q (.bl true) H'
theorem good_init : Good (initS 10 [2, 2, 1, 0]) := by
  have gd : ∀ e, (initS 10 [2, 2, 1, 0]).rt.getD e [] = [] := fun e => by
    show (List.replicate 4 ([] : RL)).getD e [] = []
    rw [List.getD_eq_getElem?_getD, List.getElem?_replicate]
    split <;> rfl
  have ga : ∀ e, (initS 10 [2, 2, 1, 0]).ask.getD e 0 = 0 := fun e => by
    show (List.replicate 4 0).getD e 0 = 0
    rw [List.getD_eq_getElem?_getD, List.getElem?_replicate]
    split <;> rfl
  refine ⟨fun e => by rw [gd]; exact List.nodup_nil, fun e f h => ?_, by decide +kernel, fun e _ h => ?_⟩
  · rw [gd] at h; cases h
  · rw [ga] at h; omega
theorem lg_init : LG (initS 10 [2, 2, 1, 0]) (fun _ _ => none) (fun _ => none) 0 := by
  refine ⟨good_init, fun l hl => ?_, rfl, fun e g f b _ h => (by cases h), fun f h => ?_⟩
  · have := List.eq_of_mem_replicate hl
    subst this
    exact ⟨Nat.le_refl _, fun p hp => (by cases hp)⟩
  · obtain ⟨e, he, hn⟩ := (held_iff (s := initS 10 [2, 2, 1, 0]) rfl).mp h
    refine absurd ?_ hn
    show getR ((List.replicate 4 ([] : RL)).getD e []) f = none
    rw [List.getD_eq_getElem?_getD, List.getElem?_replicate]
    split <;> rfl
section
variable {P : Program} {w : World} {K : PySem.W.Frag} {mg : Str → Option Value} {base : Heap} {C_Frames C_Pages C_NotValid : Addr}
abbrev s_law : Stmt := topS 33
abbrev ns_law : List Str := ["script", "tape", "frames", "pages", "entries", "words", "turn", "kind", "good", "environment", "page"]
theorem sc_law : FnScope ns_law ["script"] (defScope s_law) := ⟨rfl, rfl, rfl, by decide +kernel, rfl, by decide +kernel, by decide +kernel⟩

theorem ok_law {f : Addr} {fd : FuncData} (F : Fun K "law" "law" s_law f fd) (T : Txt K mg C_Frames C_Pages C_NotValid) (D_law_next : Dfn P w K mg base CX0 1 "_law_next" ["tape", "many"] spNext) (M_Frames : Mkr P w K mg base (L2.CX P w) 3 "Frames" C_Frames ["self", "many", "shares"] (spInitF C_Frames)) (M_Pages : Mkr P w K mg base CX0 1 "Pages" C_Pages ["self", "frames"] (spInitP C_Pages)) (D_law_book : Dfn P w K mg base CX0 10 "_law_book" ["tape", "frames", "pages", "entries", "words"] (spBookL C_Frames C_Pages)) (D_law_map : Dfn P w K mg base CX0 7 "_law_map" ["tape", "frames", "pages", "entries"] (spMapL C_Frames C_Pages)) (D_Pages_unmap : Mth P w K mg base CX0 7 C_Pages "unmap" ["self", "environment", "page"] (spUnmap C_Pages)) (D_law_store : Dfn P w K mg base (L2.CX P w) 8 "_law_store" ["tape", "pages", "entries", "words"] (spLoadL C_Frames C_Pages)) (D_law_load : Dfn P w K mg base (L2.CX P w) 8 "_law_load" ["tape", "pages", "entries", "words"] (spLoadL C_Frames C_Pages)) (D_law_shown : Dfn P w K mg base CX0 7 "_law_shown" ["frames", "pages", "entries"] (spShownP C_Frames C_Pages)) : FnOk P w K mg base CX0 11 f fd ["script"] (spLaw K) := by
  have ho_Pages := T.o_Pages; have hn_Pages__frames := T.n_Pages__frames; have hn_Pages__entries := T.n_Pages__entries
  refine F.ok sc_law (fun vs H Q E h => ?_) (fun cdv A outer s0 H vs Q E hr h => ?_)
  · obtain ⟨a, ns, rfl, _⟩ := h
    rfl
  · obtain ⟨a0, ns, rfl, hS, k⟩ := h
    refine ⟨_, (pss_cons (ps_set (i := 1) sc_law.nd rfl (Or.inl rfl) (pe_lst (pa_cons (pe_callTy (kListOf K) (by rfl) T.b_list (by decide +kernel) (pa_cons (pv 0) pa_nil)) (pa_cons pe_int (pa_cons pe_int (pa_cons pe_int pa_nil))))))
  (C8.pss_cut (ps_set (i := 2) sc_law.nd rfl (Or.inl rfl) (pe_dmake M_Frames (hr.mono (by decide)) (by rfl) passL (pa_cons pe_int (pa_cons (pe_lst (pa_cons pe_int (pa_cons pe_int (pa_cons pe_int (pa_cons pe_int pa_nil))))) pa_nil))))
  (C8.pss_cut (ps_set (i := 3) sc_law.nd rfl (Or.inl rfl) (pe_dmake M_Pages (hr.mono (by decide)) (by rfl) pass0 (pa_cons (pv 2) pa_nil)))
  (pss_cons (ps_set (i := 4) sc_law.nd rfl (Or.inl rfl) pe_dnewT)
  (pss_cons (ps_set (i := 5) sc_law.nd rfl (Or.inl rfl) pe_dnewK)
  (pss_cons (ps_for PassesOwn.never (by rfl) (pi_range1 (by rfl) T.b_range (pa_cons (pe_dcall D_law_next (hr.mono (by decide)) (by rfl) pass0 (pa_cons (pv 1) (pa_cons (pe_ix (kIxL K) (pe_lst (pa_cons pe_int (pa_cons pe_int (pa_cons pe_int pa_nil)))) (pe_dcall D_law_next (hr.mono (by decide)) (by rfl) pass0 (pa_cons (pv 1) (pa_cons pe_int pa_nil))) (fun _ _ => rfl)) pa_nil))) pa_nil)) (pg_name (i := 6) sc_law.nd rfl (Or.inl rfl)) (pss_cons (ps_set (i := 7) sc_law.nd rfl (Or.inl rfl) (pe_dcall D_law_next (hr.mono (by decide)) (by rfl) pass0 (pa_cons (pv 1) (pa_cons pe_int pa_nil))))
  (pss_cons (ps_set (i := 8) sc_law.nd rfl (Or.inl rfl) pe_bl)
  (C8.pss_cut (ps_if (pt_cmpR op_lt (pv 7) pe_int (nomark _)) (pss_one (ps_expr (pe_dcall D_law_book (hr.mono (by decide)) (by rfl) pass0 (pa_cons (pv 1) (pa_cons (pv 2) (pa_cons (pv 3) (pa_cons (pv 4) (pa_cons (pv 5) pa_nil)))))))) (pss_one (ps_if (pt_cmpR op_lt (pv 7) pe_int (nomark _)) (pss_one (ps_set (i := 8) sc_law.nd rfl (Or.inl rfl) (pe_dcall D_law_map (hr.mono (by decide)) (by rfl) pass0 (pa_cons (pv 1) (pa_cons (pv 2) (pa_cons (pv 3) (pa_cons (pv 4) pa_nil))))))) (pss_one (ps_if (pt_cmpR op_eq (pv 7) pe_int (nomark _)) (pss_cons (ps_set (i := 9) sc_law.nd rfl (Or.inl rfl) (pe_dcall D_law_next (hr.mono (by decide)) (by rfl) pass0 (pa_cons (pv 1) (pa_cons pe_int pa_nil))))
  (pss_cons (ps_set (i := 10) sc_law.nd rfl (Or.inl rfl) (pe_dcall D_law_next (hr.mono (by decide)) (by rfl) pass0 (pa_cons (pv 1) (pa_cons pe_int pa_nil))))
  (pss_one (ps_set (i := 8) sc_law.nd rfl (Or.inl rfl) (pe_cmpR op_eq (pe_dmeth (pv 3) D_Pages_unmap (hr.mono (by decide)) pass0 (pa_cons (pv 9) (pa_cons (pv 10) pa_nil))) (pe_cmpR op_notN (kBM K PySem.F.plainAttrs_dict PySem.F.slot_dict_pop PySem.F.type_dict_pop (L2.DX.mt_popT (units1 hr)) (pv 4) (pa_cons (pe_tup (pa_cons (pv 9) (pa_cons (pv 10) pa_nil))) (pa_cons pe_non pa_nil))) pe_non (nomark _)) (nomark _)))))) (pss_one (ps_if (pt_cmpR op_eq (pv 7) pe_int (nomark _)) (pss_one (ps_set (i := 8) sc_law.nd rfl (Or.inl rfl) (pe_dcall D_law_store (hr.mono (by decide)) (by rfl) passL (pa_cons (pv 1) (pa_cons (pv 3) (pa_cons (pv 4) (pa_cons (pv 5) pa_nil))))))) (pss_one (ps_set (i := 8) sc_law.nd rfl (Or.inl rfl) (pe_dcall D_law_load (hr.mono (by decide)) (by rfl) passL (pa_cons (pv 1) (pa_cons (pv 3) (pa_cons (pv 4) (pa_cons (pv 5) pa_nil))))))))))))))
  (pss_one (ps_if (PW.pt (pw_or (pt_not (pt_val (pv 8))) (pw_or1 (PW.pt (pw_and (pt_cmpR op_eq (pe_op op_mod (pv 6) pe_int) pe_int (nomark _)) (pw_and1 (pt_not (pt_val (pe_dcall D_law_shown (hr.mono (by decide)) (by rfl) pass0 (pa_cons (pv 2) (pa_cons (pv 3) (pa_cons (pv 4) pa_nil)))))))))))) (pss_one (ps_ret pe_bl)) pss_nil))))))
  (pss_one (ps_ret (pe_dcall D_law_shown (hr.mono (by decide)) (by rfl) pass0 (pa_cons (pv 2) (pa_cons (pv 3) (pa_cons (pv 4) pa_nil)))))))))))), ?_⟩
    refine ⟨_, rfl, _, _, rfl, .inl hS, fun ts hts => ⟨szl rfl, fun tp htp => ?_⟩⟩
    have T0 : Tape (upd (upd H ts (.lst (ns.map V.int))) tp (.lst [.ref ts, .int 0, .int 0, .int 17])) tp ts :=
      ⟨ns, 0, 0, 17, upd_same, Same.new htp _ _ upd_same, by decide, by decide, by decide, by decide⟩
    generalize upd (upd H ts (.lst (ns.map V.int))) tp (.lst [.ref ts, .int 0, .int 0, .int 17]) = G0 at T0 ⊢
    walk_at "run"
    refine ⟨fun σ Hx => Hide (∃ (x : Addr) (a : FA), σ = [some (.ref a0), some (.ref tp), some (.ref x), none, none, none, none, none, none, none, none] ∧ Tape Hx tp ts ∧ Fr C_Frames (fun z => z ∈ a.own x) Hx x a (initS 10 [2, 2, 1, 0]) ∧ ∀ z ∈ a.own x, z ≠ tp ∧ z ≠ ts), ?_, ?_⟩
    · walk_at "run"
      refine ⟨szl rfl, fun l2 hl2 => fun x dx hx hdx ne => ?_⟩
      have xn : G0 x = none := none_same (Same.new hl2) hx
      have s1 : Same G0 (upd (upd (upd G0 l2 (.lst [V.int 2, V.int 2, V.int 1, V.int 0])) dx (.own x)) x (.ins C_Frames dx [])) := (Same.new hl2).trans ((Same.new hdx).trans (Same.new (by rw [upd_ne ne.symm]; exact hx)))
      have l2x : l2 ≠ x := fun y => by rw [← y, upd_same] at hx; cases hx
      have l2d : l2 ≠ dx := fun y => by rw [← y, upd_same] at hdx; cases hdx
      have hl3 : NsL (upd (upd (upd G0 l2 (.lst [V.int 2, V.int 2, V.int 1, V.int 0])) dx (.own x)) x (.ins C_Frames dx [])) l2 [2, 2, 1, 0] := by
        show upd _ _ _ _ = _
        rw [upd_ne l2x, upd_ne l2d, upd_same]; rfl
      have hx3 : (upd (upd (upd G0 l2 (.lst [V.int 2, V.int 2, V.int 1, V.int 0])) dx (.own x)) x (.ins C_Frames dx [])) x = some (.ins C_Frames dx []) := upd_same
      generalize upd (upd (upd G0 l2 (.lst [V.int 2, V.int 2, V.int 1, V.int 0])) dx (.own x)) x (.ins C_Frames dx []) = G3 at s1 hl3 hx3 ⊢
      refine ⟨x, dx, l2, 10, [2, 2, 1, 0], rfl, hx3, hl3, rfl, by decide, by decide, by decide, fun a' H' fr c => ?_⟩
      obtain ⟨ns', i', r', z', hta, hts', _⟩ := id T0
      have tx : tp ≠ x := fun y => by rw [y, xn] at hta; cases hta
      have tsx : ts ≠ x := fun y => by rw [y, xn] at hts'; cases hts'
      refine ⟨rfl, hide ⟨x, a', rfl, T0.keep2 (fun o h => c _ _ tx (s1 _ _ h)) (fun o h => c _ _ tsx (s1 _ _ h)), fr.mono fun z h => h, fun z hz => ?_⟩⟩
      rcases fr.mine z hz with y | y
      · rw [y]; exact ⟨tx.symm, tsx.symm⟩
      · refine ⟨fun w => ?_, fun w => ?_⟩
        · rw [w, s1 _ _ hta] at y; cases y
        · rw [w, s1 _ _ hts'] at y; cases y
    rintro σ G1 hh
    obtain ⟨x, a, rfl, T1, fr1, sep1⟩ := hh.out
    clear hh T0 G0
    refine ⟨fun σ Hx => Hide (∃ (y dx L : Addr) (ds : List Addr), σ = [some (.ref a0), some (.ref tp), some (.ref x), some (.ref y), none, none, none, none, none, none, none] ∧ Tape Hx tp ts ∧ Fr C_Frames (fun z => z ∈ a.own x) Hx x a (initS 10 [2, 2, 1, 0]) ∧ Pg C_Pages Hx y x dx L ds (fun _ _ => none) ∧ ∀ z, pgS y L ds z → G1 z = none), ?_, ?_⟩
    · walk_at "run"
      refine fun y dx hy hdx ne => ?_
      have s1 : Same G1 (upd (upd G1 dx (.own y)) y (.ins C_Pages dx [])) := (Same.new hdx).trans (Same.new (by rw [upd_ne ne.symm]; exact hy))
      have hy3 : (upd (upd G1 dx (.own y)) y (.ins C_Pages dx [])) y = some (.ins C_Pages dx []) := upd_same
      generalize upd (upd G1 dx (.own y)) y (.ins C_Pages dx []) = G3 at s1 hy3 ⊢
      refine ⟨y, dx, x, rfl, hy3, fun L ds H' p hL hd c => ?_⟩
      obtain ⟨ns', i', r', z', hta, hts', _⟩ := id T1
      have tx : tp ≠ y := fun w => by rw [w, hy] at hta; cases hta
      have tsx : ts ≠ y := fun w => by rw [w, hy] at hts'; cases hts'
      refine ⟨rfl, hide ⟨y, dx, L, ds, rfl, T1.keep2 (fun o h => c _ _ tx (s1 _ _ h)) (fun o h => c _ _ tsx (s1 _ _ h)), (fr1.same s1).chg fun b hb o h => c b o (fun w => ?_) h, p, fun z hz => ?_⟩⟩
      · rw [w] at hb
        exact fr1.al y hb hy
      · rcases hz with w | w | w
        · rw [w]; exact hy
        · rw [w]; exact none_same s1 hL
        · exact none_same s1 (hd z w)
    rintro σ G2 hh
    obtain ⟨y, dx, L, ds, rfl, T2, fr2, pg2, sep2⟩ := hh.out
    clear hh
    walk_at "run"
    refine fun E hE => ?_
    have sE : Same G2 (upd G2 E (.dT [])) := Same.new hE
    have dE : (upd G2 E (.dT [])) E = some (.dT []) := upd_same
    generalize upd G2 E (.dT []) = G3 at sE dE ⊢
    walk_at "run"
    refine fun W hW => ?_
    have sW : Same G3 (upd G3 W (.dK [])) := Same.new hW
    have dW : (upd G3 W (.dK [])) W = some (.dK []) := upd_same
    have dE4 := sW _ _ dE
    generalize upd G3 W (.dK []) = G4 at sW dW dE4 ⊢
    let A : LA := ⟨tp, ts, x, y, dx, L, E, W⟩
    have hG1T : G1 tp ≠ none ∧ G1 ts ≠ none := by
      obtain ⟨ns, i, r, z, ha, hs, _⟩ := T1
      exact ⟨(by rw [ha]; intro z; cases z), (by rw [hs]; intro z; cases z)⟩
    have hG2T : G2 tp ≠ none ∧ G2 ts ≠ none := by
      obtain ⟨ns, i, r, z, ha, hs, _⟩ := T2
      exact ⟨(by rw [ha]; intro z; cases z), (by rw [hs]; intro z; cases z)⟩
    have un1 : ∀ z k k', ((k = 1 ∧ z ∈ a.own x) ∨ (k = 3 ∧ (z = tp ∨ z = ts))) → ((k' = 1 ∧ z ∈ a.own x) ∨ (k' = 3 ∧ (z = tp ∨ z = ts))) → k = k' := by
      intro z k k' h h'
      rcases h with ⟨e, h⟩ | ⟨e, h⟩ <;> rcases h' with ⟨e', h'⟩ | ⟨e', h'⟩
      · rw [e, e']
      · rcases h' with h' | h'
        · exact absurd h' (sep1 z h).1
        · exact absurd h' (sep1 z h).2
      · rcases h with h | h
        · exact absurd h (sep1 z h').1
        · exact absurd h (sep1 z h').2
      · rw [e, e']
    have un2 : ∀ z k k', (((k = 1 ∧ z ∈ a.own x) ∨ (k = 3 ∧ (z = tp ∨ z = ts))) ∨ (k = 2 ∧ pgS y L ds z)) → (((k' = 1 ∧ z ∈ a.own x) ∨ (k' = 3 ∧ (z = tp ∨ z = ts))) ∨ (k' = 2 ∧ pgS y L ds z)) → k = k' :=
      un_step (r := fun z k => (k = 1 ∧ z ∈ a.own x) ∨ (k = 3 ∧ (z = tp ∨ z = ts))) (r' := fun z k => ((k = 1 ∧ z ∈ a.own x) ∨ (k = 3 ∧ (z = tp ∨ z = ts))) ∨ (k = 2 ∧ pgS y L ds z)) (H := G1) (k0 := 2) un1 (fun z k h => by
        rcases h with ⟨_, h⟩ | ⟨_, h | h⟩
        · exact fr1.al z h
        · rw [h]; exact hG1T.1
        · rw [h]; exact hG1T.2) fun z k h => h.elim .inl fun ⟨e, h⟩ => .inr ⟨sep2 z h, e⟩
    have al2 : ∀ z k, (((k = 1 ∧ z ∈ a.own x) ∨ (k = 3 ∧ (z = tp ∨ z = ts))) ∨ (k = 2 ∧ pgS y L ds z)) → G2 z ≠ none := fun z k h => by
      rcases h with (⟨_, h⟩ | ⟨_, h | h⟩) | ⟨_, h⟩
      · exact fr2.al z h
      · rw [h]; exact hG2T.1
      · rw [h]; exact hG2T.2
      · exact pg2.al z h
    have un3 : ∀ z k k', ((((k = 1 ∧ z ∈ a.own x) ∨ (k = 3 ∧ (z = tp ∨ z = ts))) ∨ (k = 2 ∧ pgS y L ds z)) ∨ (k = 4 ∧ z = E)) → ((((k' = 1 ∧ z ∈ a.own x) ∨ (k' = 3 ∧ (z = tp ∨ z = ts))) ∨ (k' = 2 ∧ pgS y L ds z)) ∨ (k' = 4 ∧ z = E)) → k = k' :=
      un_step (r := fun z k => ((k = 1 ∧ z ∈ a.own x) ∨ (k = 3 ∧ (z = tp ∨ z = ts))) ∨ (k = 2 ∧ pgS y L ds z)) (r' := fun z k => (((k = 1 ∧ z ∈ a.own x) ∨ (k = 3 ∧ (z = tp ∨ z = ts))) ∨ (k = 2 ∧ pgS y L ds z)) ∨ (k = 4 ∧ z = E)) (H := G2) (k0 := 4) un2 al2 fun z k h => h.elim .inl fun ⟨e, h⟩ => .inr ⟨by rw [h]; exact hE, e⟩
    have un4 : ∀ z k k', role A a ds (fun _ => none) z k → role A a ds (fun _ => none) z k' → k = k' :=
      un_step (r := fun z k => (((k = 1 ∧ z ∈ a.own x) ∨ (k = 3 ∧ (z = tp ∨ z = ts))) ∨ (k = 2 ∧ pgS y L ds z)) ∨ (k = 4 ∧ z = E)) (r' := role A a ds (fun _ => none)) (H := G3) (k0 := 5) un3 (fun z k h => by
        rcases h with h | ⟨_, h⟩
        · have := al2 z k h
          cases q : G2 z with
          | none => exact absurd q this
          | some o => rw [sE z o q]; intro z; cases z
        · rw [h, dE]; intro z; cases z) fun z k h => by
        rcases h with h | h | h | h | ⟨e, h⟩ | ⟨_, f, q, h, _⟩
        · exact .inl (.inl (.inl (.inl h)))
        · exact .inl (.inl (.inr h))
        · exact .inl (.inl (.inl (.inr h)))
        · exact .inl (.inr h)
        · exact .inr ⟨by rw [h]; exact hW, e⟩
        · cases h
    have s4 := sE.trans sW
    have j0 : J C_Frames C_Pages A G4 0 := ⟨a, _, ds, _, _, ⟨T2.same s4, fr2.same s4, pg2.same s4, ⟨[], dE4, Nat.le_refl _, fun e g _ => .inl ⟨rfl, rfl⟩⟩, ⟨[], dW, Nat.le_refl _, fun f => rfl, fun f q h => (by cases h), fun f f' q q' h => (by cases h)⟩, un4⟩, lg_init⟩
    clear un1 un2 un3 un4 al2 sE dE sW dW dE4 T1 T2 fr1 fr2 pg2 sep1 sep2 hG1T hG2T s4 hE hW
    obtain ⟨a1, s1, ds1, en1, wm1, j1, g1⟩ := j0
    walk_at "run"
    refine ⟨szl rfl, fun q1 hq1 => ?_⟩
    have sq := Same.new (o := .lst [V.int 40, V.int 40, V.int 101]) hq1
    have dq : (upd G4 q1 (.lst [V.int 40, V.int 40, V.int 101])) q1 = some (.lst [V.int 40, V.int 40, V.int 101]) := upd_same
    have qtp : q1 ≠ tp := j1.tape.at hq1
    generalize upd G4 q1 (.lst [V.int 40, V.int 40, V.int 101]) = G5 at sq dq ⊢
    have j2 := j1.same sq
    walk_at "run"
    refine ⟨tp, ts, 3, rfl, by decide, by decide, j2.tape, fun ci G6 c0 c3 t6 c6 => ?_⟩
    obtain ⟨ci, rfl⟩ := Int.eq_ofNat_of_zero_le c0
    have j3 := j2.draw t6 c6
    have dq6 := c6 _ _ qtp dq
    obtain ⟨c, hc, hc0, hc1⟩ : ∃ c : Int, [V.int 40, V.int 40, V.int 101][ci]? = some (.int c) ∧ 0 < c ∧ c ≤ 101 := by
      have : ci = 0 ∨ ci = 1 ∨ ci = 2 := by omega
      rcases this with rfl | rfl | rfl
      · exact ⟨_, rfl, by decide, by decide⟩
      · exact ⟨_, rfl, by decide, by decide⟩
      · exact ⟨_, rfl, by decide, by decide⟩
    walk_at "run"
    refine ⟨_, _, _, _, rfl, rfl, SqL.of dq6, atC ci rfl hc, ?_⟩
    walk_at "run"
    refine ⟨tp, ts, c, rfl, hc0, by omega, j3.tape, fun n G7 n0 n1 t7 c7 => ?_⟩
    have j4 := j3.draw t7 c7
    obtain ⟨n, rfl⟩ := Int.eq_ofNat_of_zero_le n0
    have j5 : J C_Frames C_Pages A G7 0 := ⟨a1, s1, ds1, en1, wm1, j4, g1⟩
    clear t7 c7 t6 c6 j1 j2 j3 j4 dq dq6 sq g1 hc
    walk_at "run"
    refine ⟨by omega, by omega, ?_⟩
    refine for_range (fun i σ Hx => Hide (∃ (o6 o7 o8 o9 o10 : Option V), σ = [some (.ref a0), some (.ref tp), some (.ref x), some (.ref y), some (.ref E), some (.ref W), o6, o7, o8, o9, o10] ∧ J C_Frames C_Pages A Hx i)) ?_ ?_ ?_
    · exact hide ⟨_, _, _, _, _, rfl, j5⟩
    · rintro i σ G hi hh
      obtain ⟨o6, o7, o8, o9, o10, rfl, ja⟩ := hh.out
      clear hh j5
      have i101 : i < 101 := by omega
      obtain ⟨a, s', ds, en, wm, j, g⟩ := ja
      walk_at "run"
      refine ⟨tp, ts, 7, rfl, by decide, by decide, j.tape, fun kd H1 k0 k7 t1 c1 => ?_⟩
      obtain ⟨kd, rfl⟩ := Int.eq_ofNat_of_zero_le k0
      have jd := j.draw t1 c1
      have jj : J C_Frames C_Pages A H1 i := ⟨a, s', ds, en, wm, jd, g⟩
      have h1p := jd.pg.ins
      walk_at "run"
      refine ⟨fun σ Hx => Hide (∃ (o9 o10 : Option V), σ = [some (.ref a0), some (.ref tp), some (.ref x), some (.ref y), some (.ref E), some (.ref W), some (.int (0 + (i : Int))), some (.int (kd : Int)), some (.bl true), o9, o10] ∧ J C_Frames C_Pages A Hx (i + 1)), ?_, ?_⟩
      · walk_at "run"
        refine iteD (fun q => ?_) (fun q => ?_)
        · walk_at "run"
          refine ⟨A, i, rfl, jj, by omega, fun H2 j2 => ?_⟩
          exact hide ⟨_, _, rfl, j2⟩
        · walk_at "run"
          refine iteD (fun q => ?_) (fun q => ?_)
          · walk_at "run"
            refine ⟨A, i, rfl, jj, by omega, fun H2 j2 => ?_⟩
            exact hide ⟨_, _, rfl, j2⟩
          · walk_at "run"
            refine iteD (fun q => ?_) (fun q => ?_)
            · walk_at "run"
              refine ⟨tp, ts, 4, rfl, by decide, by decide, jd.tape, fun e H2 e0 e4 t2 c2 => ?_⟩
              obtain ⟨e, rfl⟩ := Int.eq_ofNat_of_zero_le e0
              have j2 := jd.draw t2 c2
              walk_at "run"
              refine ⟨tp, ts, 33, rfl, by decide, by decide, j2.tape, fun pv H3 p0 p33 t3 c3 => ?_⟩
              obtain ⟨pv, rfl⟩ := Int.eq_ofNat_of_zero_le p0
              have j3 := j2.draw t3 c3
              have h3p : H3 y = some (.ins C_Pages dx [("_frames", .ref x), ("_entries", .ref L)]) := j3.pg.ins
              have e4' : e < 4 := by omega
              clear t2 c2 t3 c3 j2 jd jj h1p j
              obtain ⟨kvs, k1, k2, k3⟩ := id j3.ld
              have k1 : H3 E = some (.dT kvs) := k1
              walk_at "ro"
              refine ⟨y, x, dx, L, ds, en, e, (pv : Int), rfl, j3.pg, e4', fun z => ?_, fun gg z1 z2 H4 p4 c4 => ?_⟩
              · rw [entOf_nat] at z
                walk_at "run"
                refine ⟨.inr (.inr (.inl ⟨rfl, .inr ⟨_, k1⟩⟩)), ?_⟩
                walk_at "run"
                refine ⟨szl rfl, fun q2 hq2 => ?_⟩
                have s2 := Same.new (o := .tup [.int (e : Int), .int (pv : Int)]) hq2
                have a2 : (upd H3 q2 (.tup [.int (e : Int), .int (pv : Int)])) q2 = some (.tup ((kk2 e pv).map kV)) := upd_same
                generalize upd H3 q2 (.tup [.int (e : Int), .int (pv : Int)]) = H5 at s2 a2 ⊢
                have j5 := j3.same s2
                have k5 : H5 E = some (.dT kvs) := s2 _ _ k1
                refine ⟨E, kvs, kk2 e pv, q2, .non, rfl, rfl, k5, a2, fun v hv => ?_, fun hv => ?_⟩
                · rcases k3 e pv e4' with ⟨_, w2⟩ | ⟨_, _, w2, _⟩
                  · rw [w2] at hv; cases hv
                  · exact absurd z w2
                · walk_at "run"
                  exact hide ⟨_, _, rfl, J.le ⟨a, s', ds, en, wm, j5, g⟩ (by omega)⟩
              · have z1 : pv = gg := Int.ofNat.inj z1
                subst z1
                have j4 := j3.pages p4 (fun d h => .inl h) c4
                obtain ⟨kvs, k1, k2, k3⟩ := id j4.ld
                have k1 : H4 E = some (.dT kvs) := k1
                walk_at "run"
                refine ⟨.inr (.inr (.inl ⟨rfl, .inr ⟨_, k1⟩⟩)), ?_⟩
                walk_at "run"
                refine ⟨szl rfl, fun q2 hq2 => ?_⟩
                have s2 := Same.new (o := .tup [.int (e : Int), .int (pv : Int)]) hq2
                have a2 : (upd H4 q2 (.tup [.int (e : Int), .int (pv : Int)])) q2 = some (.tup ((kk2 e pv).map kV)) := upd_same
                generalize upd H4 q2 (.tup [.int (e : Int), .int (pv : Int)]) = H5 at s2 a2 ⊢
                have j5 := j4.same s2
                have k5 : H5 E = some (.dT kvs) := s2 _ _ k1
                refine ⟨E, kvs, kk2 e pv, q2, .non, rfl, rfl, k5, a2, fun v hv => ?_, fun hv => ?_⟩
                · have hv2 : ∃ t, v = .ref t := by
                    rcases k3 e pv e4' with ⟨w1, _⟩ | ⟨v', w1, w2, w3⟩
                    · exact absurd w1 z2
                    · rw [hv] at w1
                      cases w1
                      obtain ⟨⟨f', b'⟩, ef⟩ := Option.ne_none_iff_exists'.mp w2
                      rw [ef] at w3
                      obtain ⟨t, et, _⟩ := w3
                      exact ⟨t, et⟩
                  obtain ⟨t, rfl⟩ := hv2
                  have j6 := j5.entries (j5.ld.drop (e := e) (g := pv) k5) (Nat.le_refl _) (ChgP.upd (fun _ _ _ h => h) rfl)
                  walk_at "run"
                  exact hide ⟨_, _, rfl, J.le ⟨a, s', ds, _, wm, j6, g.unmap⟩ (by omega)⟩
                · rcases k3 e pv e4' with ⟨w1, _⟩ | ⟨v', w1, w2, w3⟩
                  · exact absurd w1 z2
                  · rw [hv] at w1; cases w1
            · walk_at "run"
              refine iteD (fun q => ?_) (fun q => ?_)
              · walk_at "run"
                refine ⟨A, i, rfl, jj, by omega, fun H2 j2 => ?_⟩
                exact hide ⟨_, _, rfl, j2⟩
              · walk_at "run"
                refine ⟨A, i, rfl, jj, by omega, fun H2 j2 => ?_⟩
                exact hide ⟨_, _, rfl, j2⟩
      · rintro σ Hx hh
        obtain ⟨o9', o10', rfl, jx⟩ := hh.out
        clear hh
        walk_at "run"
        refine iteD (fun q => ?_) (fun q => ?_)
        · walk_at "run"
          refine ⟨A, i + 1, rfl, jx, fun H2 j2 => ?_⟩
          walk_at "run"
          exact hide ⟨_, _, _, _, _, rfl, j2⟩
        · walk_at "run"
          exact hide ⟨_, _, _, _, _, rfl, jx⟩
    · rintro σ G hh
      obtain ⟨o6, o7, o8, o9, o10, rfl, ja⟩ := hh.out
      walk_at "run"
      exact ⟨A, _, rfl, ja, fun H' _ => k H'⟩
end
end My

namespace My
open PySem L2
/-! ### what the top has written, and the end -/
/-- an error of the class at S is what an except of S names -/
theorem exm_self {K : PySem.W.Frag} {S : Addr} (h1 : PySem.W.subIn K (.ref S) (.type "BaseException") = some true) (h2 : PySem.W.isClsIn K S = true) (h3 : PySem.W.typeIn K (.ref S) = some (.type "type")) (h4 : PySem.W.subIn K (.ref S) (.ref S) = some true) : PySem.W.exmOne K (.ref S) (.ref S) = some true := by
  have e1 : (PySem.W.subIn K (.ref S) (.type "BaseException") == some true) = true := by rw [h1] <;> rfl
  have e2 : ((PySem.W.clsIn K S).isSome && PySem.W.typeIn K (.ref S) == some (.type "type")) = true := by
    have h2' : (PySem.W.clsIn K S).isSome = true := h2
    rw [h2', h3] <;> rfl
  unfold PySem.W.exmOne PySem.W.kitCls
  refine (if_pos e1).trans ((if_pos e2).trans ?_)
  exact h4
theorem all_mk {l : PySem.W.OpenLaw} {w : World} {K : PySem.W.Frag} {h : Heap} {mg : Str → Option Value} {fa : Addr} (X : K.In h) (G : h.Ns mainGlobals mg) (hfa : mg "law" = some (.ref fa))
    {C_Frames C_Pages C_NotValid : Addr}
    {f_law_next : Addr} {od_law_next an_law_next : Option Addr} {sl_law_next : Array (Option Value)} {oc_law_next kV_law_next dc_law_next pm_law_next cd_law_next ct_law_next : Value}
    {f_is_at_least : Addr} {od_is_at_least an_is_at_least : Option Addr} {sl_is_at_least : Array (Option Value)} {oc_is_at_least kV_is_at_least dc_is_at_least pm_is_at_least cd_is_at_least ct_is_at_least : Value}
    {f_is_between : Addr} {od_is_between an_is_between : Option Addr} {sl_is_between : Array (Option Value)} {oc_is_between kV_is_between dc_is_between pm_is_between cd_is_between ct_is_between : Value}
    {f_is_index : Addr} {od_is_index an_is_index : Option Addr} {sl_is_index : Array (Option Value)} {oc_is_index kV_is_index dc_is_index pm_is_index cd_is_index ct_is_index : Value}
    {f_is_environment : Addr} {od_is_environment an_is_environment : Option Addr} {sl_is_environment : Array (Option Value)} {oc_is_environment kV_is_environment dc_is_environment pm_is_environment cd_is_environment ct_is_environment : Value}
    {f_Frames_is_frame : Addr} {od_Frames_is_frame an_Frames_is_frame : Option Addr} {sl_Frames_is_frame : Array (Option Value)} {oc_Frames_is_frame kV_Frames_is_frame dc_Frames_is_frame pm_Frames_is_frame cd_Frames_is_frame ct_Frames_is_frame : Value}
    {f_Frames_right : Addr} {od_Frames_right an_Frames_right : Option Addr} {sl_Frames_right : Array (Option Value)} {oc_Frames_right kV_Frames_right dc_Frames_right pm_Frames_right cd_Frames_right ct_Frames_right : Value}
    {f_Frames_holdings : Addr} {od_Frames_holdings an_Frames_holdings : Option Addr} {sl_Frames_holdings : Array (Option Value)} {oc_Frames_holdings kV_Frames_holdings dc_Frames_holdings pm_Frames_holdings cd_Frames_holdings ct_Frames_holdings : Value}
    {f_Frames_share : Addr} {od_Frames_share an_Frames_share : Option Addr} {sl_Frames_share : Array (Option Value)} {oc_Frames_share kV_Frames_share dc_Frames_share pm_Frames_share cd_Frames_share ct_Frames_share : Value}
    {f_Frames_asked : Addr} {od_Frames_asked an_Frames_asked : Option Addr} {sl_Frames_asked : Array (Option Value)} {oc_Frames_asked kV_Frames_asked dc_Frames_asked pm_Frames_asked cd_Frames_asked ct_Frames_asked : Value}
    {f_Frames_charge : Addr} {od_Frames_charge an_Frames_charge : Option Addr} {sl_Frames_charge : Array (Option Value)} {oc_Frames_charge kV_Frames_charge dc_Frames_charge pm_Frames_charge cd_Frames_charge ct_Frames_charge : Value}
    {f_Frames_taken : Addr} {od_Frames_taken an_Frames_taken : Option Addr} {sl_Frames_taken : Array (Option Value)} {oc_Frames_taken kV_Frames_taken dc_Frames_taken pm_Frames_taken cd_Frames_taken ct_Frames_taken : Value}
    {f_Frames_left : Addr} {od_Frames_left an_Frames_left : Option Addr} {sl_Frames_left : Array (Option Value)} {oc_Frames_left kV_Frames_left dc_Frames_left pm_Frames_left cd_Frames_left ct_Frames_left : Value}
    {f_Frames_is_held : Addr} {od_Frames_is_held an_Frames_is_held : Option Addr} {sl_Frames_is_held : Array (Option Value)} {oc_Frames_is_held kV_Frames_is_held dc_Frames_is_held pm_Frames_is_held cd_Frames_is_held ct_Frames_is_held : Value}
    {f_Frames_free : Addr} {od_Frames_free an_Frames_free : Option Addr} {sl_Frames_free : Array (Option Value)} {oc_Frames_free kV_Frames_free dc_Frames_free pm_Frames_free cd_Frames_free ct_Frames_free : Value}
    {f_Frames_uncharged : Addr} {od_Frames_uncharged an_Frames_uncharged : Option Addr} {sl_Frames_uncharged : Array (Option Value)} {oc_Frames_uncharged kV_Frames_uncharged dc_Frames_uncharged pm_Frames_uncharged cd_Frames_uncharged ct_Frames_uncharged : Value}
    {f_Frames_may_hold_more : Addr} {od_Frames_may_hold_more an_Frames_may_hold_more : Option Addr} {sl_Frames_may_hold_more : Array (Option Value)} {oc_Frames_may_hold_more kV_Frames_may_hold_more dc_Frames_may_hold_more pm_Frames_may_hold_more cd_Frames_may_hold_more ct_Frames_may_hold_more : Value}
    {f_Frames_offered : Addr} {od_Frames_offered an_Frames_offered : Option Addr} {sl_Frames_offered : Array (Option Value)} {oc_Frames_offered kV_Frames_offered dc_Frames_offered pm_Frames_offered cd_Frames_offered ct_Frames_offered : Value}
    {f_Frames_end : Addr} {od_Frames_end an_Frames_end : Option Addr} {sl_Frames_end : Array (Option Value)} {oc_Frames_end kV_Frames_end dc_Frames_end pm_Frames_end cd_Frames_end ct_Frames_end : Value}
    {f_Frames_drop : Addr} {od_Frames_drop an_Frames_drop : Option Addr} {sl_Frames_drop : Array (Option Value)} {oc_Frames_drop kV_Frames_drop dc_Frames_drop pm_Frames_drop cd_Frames_drop ct_Frames_drop : Value}
    {f_Frames_narrow : Addr} {od_Frames_narrow an_Frames_narrow : Option Addr} {sl_Frames_narrow : Array (Option Value)} {oc_Frames_narrow kV_Frames_narrow dc_Frames_narrow pm_Frames_narrow cd_Frames_narrow ct_Frames_narrow : Value}
    {f_is_word : Addr} {od_is_word an_is_word : Option Addr} {sl_is_word : Array (Option Value)} {oc_is_word kV_is_word dc_is_word pm_is_word cd_is_word ct_is_word : Value}
    {f_Frames_read : Addr} {od_Frames_read an_Frames_read : Option Addr} {sl_Frames_read : Array (Option Value)} {oc_Frames_read kV_Frames_read dc_Frames_read pm_Frames_read cd_Frames_read ct_Frames_read : Value}
    {f_Frames_write : Addr} {od_Frames_write an_Frames_write : Option Addr} {sl_Frames_write : Array (Option Value)} {oc_Frames_write kV_Frames_write dc_Frames_write pm_Frames_write cd_Frames_write ct_Frames_write : Value}
    {f_Frames_take : Addr} {od_Frames_take an_Frames_take : Option Addr} {sl_Frames_take : Array (Option Value)} {oc_Frames_take kV_Frames_take dc_Frames_take pm_Frames_take cd_Frames_take ct_Frames_take : Value}
    {f_includes : Addr} {od_includes an_includes : Option Addr} {sl_includes : Array (Option Value)} {oc_includes kV_includes dc_includes pm_includes cd_includes ct_includes : Value}
    {f_Frames_offer : Addr} {od_Frames_offer an_Frames_offer : Option Addr} {sl_Frames_offer : Array (Option Value)} {oc_Frames_offer kV_Frames_offer dc_Frames_offer pm_Frames_offer cd_Frames_offer ct_Frames_offer : Value}
    {f_Frames_accept : Addr} {od_Frames_accept an_Frames_accept : Option Addr} {sl_Frames_accept : Array (Option Value)} {oc_Frames_accept kV_Frames_accept dc_Frames_accept pm_Frames_accept cd_Frames_accept ct_Frames_accept : Value}
    {f_are_shares : Addr} {od_are_shares an_are_shares : Option Addr} {sl_are_shares : Array (Option Value)} {oc_are_shares kV_are_shares dc_are_shares pm_are_shares cd_are_shares ct_are_shares : Value}
    {f_Frames_init : Addr} {od_Frames_init an_Frames_init : Option Addr} {sl_Frames_init : Array (Option Value)} {oc_Frames_init kV_Frames_init dc_Frames_init pm_Frames_init cd_Frames_init ct_Frames_init : Value}
    {f_is_page : Addr} {od_is_page an_is_page : Option Addr} {sl_is_page : Array (Option Value)} {oc_is_page kV_is_page dc_is_page pm_is_page cd_is_page ct_is_page : Value}
    {f_Pages_entry : Addr} {od_Pages_entry an_Pages_entry : Option Addr} {sl_Pages_entry : Array (Option Value)} {oc_Pages_entry kV_Pages_entry dc_Pages_entry pm_Pages_entry cd_Pages_entry ct_Pages_entry : Value}
    {f_Pages_map : Addr} {od_Pages_map an_Pages_map : Option Addr} {sl_Pages_map : Array (Option Value)} {oc_Pages_map kV_Pages_map dc_Pages_map pm_Pages_map cd_Pages_map ct_Pages_map : Value}
    {f_Pages_unmap : Addr} {od_Pages_unmap an_Pages_unmap : Option Addr} {sl_Pages_unmap : Array (Option Value)} {oc_Pages_unmap kV_Pages_unmap dc_Pages_unmap pm_Pages_unmap cd_Pages_unmap ct_Pages_unmap : Value}
    {f_Pages_load : Addr} {od_Pages_load an_Pages_load : Option Addr} {sl_Pages_load : Array (Option Value)} {oc_Pages_load kV_Pages_load dc_Pages_load pm_Pages_load cd_Pages_load ct_Pages_load : Value}
    {f_Pages_store : Addr} {od_Pages_store an_Pages_store : Option Addr} {sl_Pages_store : Array (Option Value)} {oc_Pages_store kV_Pages_store dc_Pages_store pm_Pages_store cd_Pages_store ct_Pages_store : Value}
    {f_Pages_let_fall : Addr} {od_Pages_let_fall an_Pages_let_fall : Option Addr} {sl_Pages_let_fall : Array (Option Value)} {oc_Pages_let_fall kV_Pages_let_fall dc_Pages_let_fall pm_Pages_let_fall cd_Pages_let_fall ct_Pages_let_fall : Value}
    {f_Pages_ended : Addr} {od_Pages_ended an_Pages_ended : Option Addr} {sl_Pages_ended : Array (Option Value)} {oc_Pages_ended kV_Pages_ended dc_Pages_ended pm_Pages_ended cd_Pages_ended ct_Pages_ended : Value}
    {f_Pages_narrowed : Addr} {od_Pages_narrowed an_Pages_narrowed : Option Addr} {sl_Pages_narrowed : Array (Option Value)} {oc_Pages_narrowed kV_Pages_narrowed dc_Pages_narrowed pm_Pages_narrowed cd_Pages_narrowed ct_Pages_narrowed : Value}
    {f_Pages_init : Addr} {od_Pages_init an_Pages_init : Option Addr} {sl_Pages_init : Array (Option Value)} {oc_Pages_init kV_Pages_init dc_Pages_init pm_Pages_init cd_Pages_init ct_Pages_init : Value}
    {f_law_drop : Addr} {od_law_drop an_law_drop : Option Addr} {sl_law_drop : Array (Option Value)} {oc_law_drop kV_law_drop dc_law_drop pm_law_drop cd_law_drop ct_law_drop : Value}
    {f_law_narrow : Addr} {od_law_narrow an_law_narrow : Option Addr} {sl_law_narrow : Array (Option Value)} {oc_law_narrow kV_law_narrow dc_law_narrow pm_law_narrow cd_law_narrow ct_law_narrow : Value}
    {f_law_book : Addr} {od_law_book an_law_book : Option Addr} {sl_law_book : Array (Option Value)} {oc_law_book kV_law_book dc_law_book pm_law_book cd_law_book ct_law_book : Value}
    {f_law_map : Addr} {od_law_map an_law_map : Option Addr} {sl_law_map : Array (Option Value)} {oc_law_map kV_law_map dc_law_map pm_law_map cd_law_map ct_law_map : Value}
    {f_law_load : Addr} {od_law_load an_law_load : Option Addr} {sl_law_load : Array (Option Value)} {oc_law_load kV_law_load dc_law_load pm_law_load cd_law_load ct_law_load : Value}
    {f_law_store : Addr} {od_law_store an_law_store : Option Addr} {sl_law_store : Array (Option Value)} {oc_law_store kV_law_store dc_law_store pm_law_store cd_law_store ct_law_store : Value}
    {f_law_shown : Addr} {od_law_shown an_law_shown : Option Addr} {sl_law_shown : Array (Option Value)} {oc_law_shown kV_law_shown dc_law_shown pm_law_shown cd_law_shown ct_law_shown : Value}
    {f_law : Addr} {od_law an_law : Option Addr} {sl_law : Array (Option Value)} {oc_law kV_law dc_law pm_law cd_law ct_law : Value}
    {t_ENVIRONMENTS : Tok}
    {t_PAGES : Tok}
    {t_TOP : Tok}
    {t_WORDS : Tok}
    {t__LEAST_FRAMES : Tok}
    {t__MOST_FRAMES : Tok}
    (a_Frames : PySem.W.nsIn K mainGlobals "Frames" = some (some (.ref C_Frames)))
    (g1_Frames : PySem.W.plainGet K C_Frames Str.empty = true)
    (g2_Frames : PySem.W.hasDictIn K C_Frames = true)
    (g3_Frames : PySem.W.plainOver K C_Frames = true)
    (g4_Frames : PySem.W.findIn K (.ref C_Frames) "__setattr__" = some (some (.builtin "object.__setattr__")))
    (m_Frames : PySem.W.makesIn K C_Frames = true)
    (k_Frames : PySem.W.keepIn K (.ref C_Frames) = true)
    (n_Frames__words : PySem.W.findIn K (.ref C_Frames) "_words" = some none)
    (n_Frames__shares : PySem.W.findIn K (.ref C_Frames) "_shares" = some none)
    (n_Frames__rights : PySem.W.findIn K (.ref C_Frames) "_rights" = some none)
    (n_Frames__offers : PySem.W.findIn K (.ref C_Frames) "_offers" = some none)
    (n_Frames__asked : PySem.W.findIn K (.ref C_Frames) "_asked" = some none)
    (n_Frames__ends_to_wait : PySem.W.findIn K (.ref C_Frames) "_ends_to_wait" = some none)
    (n_Frames__taken : PySem.W.findIn K (.ref C_Frames) "_taken" = some none)
    (a_Pages : PySem.W.nsIn K mainGlobals "Pages" = some (some (.ref C_Pages)))
    (g1_Pages : PySem.W.plainGet K C_Pages Str.empty = true)
    (g2_Pages : PySem.W.hasDictIn K C_Pages = true)
    (g3_Pages : PySem.W.plainOver K C_Pages = true)
    (g4_Pages : PySem.W.findIn K (.ref C_Pages) "__setattr__" = some (some (.builtin "object.__setattr__")))
    (m_Pages : PySem.W.makesIn K C_Pages = true)
    (k_Pages : PySem.W.keepIn K (.ref C_Pages) = true)
    (n_Pages__frames : PySem.W.findIn K (.ref C_Pages) "_frames" = some none)
    (n_Pages__entries : PySem.W.findIn K (.ref C_Pages) "_entries" = some none)
    (a_NotValid : PySem.W.nsIn K mainGlobals "NotValid" = some (some (.ref C_NotValid)))
    (k_NotValid : PySem.W.keepIn K (.ref C_NotValid) = true)
    (x_NotValid : PySem.W.excIn K C_NotValid [.type "ValueError", .type "Exception", .type "BaseException", .type "object"] "ValueError.__new__" = true)
    (e1_NotValid : PySem.W.subIn K (.ref C_NotValid) (.type "BaseException") = some true)
    (e2_NotValid : PySem.W.isClsIn K C_NotValid = true)
    (e3_NotValid : PySem.W.typeIn K (.ref C_NotValid) = some (.type "type"))
    (e4_NotValid : PySem.W.subIn K (.ref C_NotValid) (.ref C_NotValid) = some true)
    (a_law_next : PySem.W.nsIn K mainGlobals "_law_next" = some (some (.ref f_law_next)))
    (l_law_next : K.lookup f_law_next = some ⟨oc_law_next, od_law_next, .func (PySem.W.fnOf "_law_next" "_law_next" (defArgs s_law_next) (defBody s_law_next) (defScope s_law_next) .none kV_law_next dc_law_next pm_law_next an_law_next cd_law_next ct_law_next), sl_law_next⟩)
    (q_law_next : PySem.W.codeIn K cd_law_next "_law_next" = true)
    (k_law_next : PySem.W.keepIn K (.ref f_law_next) = true)
    (a_is_at_least : PySem.W.nsIn K mainGlobals "is_at_least" = some (some (.ref f_is_at_least)))
    (l_is_at_least : K.lookup f_is_at_least = some ⟨oc_is_at_least, od_is_at_least, .func (PySem.W.fnOf "is_at_least" "is_at_least" (defArgs s_is_at_least) (defBody s_is_at_least) (defScope s_is_at_least) .none kV_is_at_least dc_is_at_least pm_is_at_least an_is_at_least cd_is_at_least ct_is_at_least), sl_is_at_least⟩)
    (q_is_at_least : PySem.W.codeIn K cd_is_at_least "is_at_least" = true)
    (k_is_at_least : PySem.W.keepIn K (.ref f_is_at_least) = true)
    (a_is_between : PySem.W.nsIn K mainGlobals "is_between" = some (some (.ref f_is_between)))
    (l_is_between : K.lookup f_is_between = some ⟨oc_is_between, od_is_between, .func (PySem.W.fnOf "is_between" "is_between" (defArgs s_is_between) (defBody s_is_between) (defScope s_is_between) .none kV_is_between dc_is_between pm_is_between an_is_between cd_is_between ct_is_between), sl_is_between⟩)
    (q_is_between : PySem.W.codeIn K cd_is_between "is_between" = true)
    (k_is_between : PySem.W.keepIn K (.ref f_is_between) = true)
    (a_is_index : PySem.W.nsIn K mainGlobals "is_index" = some (some (.ref f_is_index)))
    (l_is_index : K.lookup f_is_index = some ⟨oc_is_index, od_is_index, .func (PySem.W.fnOf "is_index" "is_index" (defArgs s_is_index) (defBody s_is_index) (defScope s_is_index) .none kV_is_index dc_is_index pm_is_index an_is_index cd_is_index ct_is_index), sl_is_index⟩)
    (q_is_index : PySem.W.codeIn K cd_is_index "is_index" = true)
    (k_is_index : PySem.W.keepIn K (.ref f_is_index) = true)
    (a_is_environment : PySem.W.nsIn K mainGlobals "is_environment" = some (some (.ref f_is_environment)))
    (l_is_environment : K.lookup f_is_environment = some ⟨oc_is_environment, od_is_environment, .func (PySem.W.fnOf "is_environment" "is_environment" (defArgs s_is_environment) (defBody s_is_environment) (defScope s_is_environment) .none kV_is_environment dc_is_environment pm_is_environment an_is_environment cd_is_environment ct_is_environment), sl_is_environment⟩)
    (q_is_environment : PySem.W.codeIn K cd_is_environment "is_environment" = true)
    (k_is_environment : PySem.W.keepIn K (.ref f_is_environment) = true)
    (a_Frames_is_frame : PySem.W.findIn K (.ref C_Frames) "_is_frame" = some (some (.ref f_Frames_is_frame)))
    (i_Frames_is_frame : PySem.W.isFn K (.ref f_Frames_is_frame) = true)
    (l_Frames_is_frame : K.lookup f_Frames_is_frame = some ⟨oc_Frames_is_frame, od_Frames_is_frame, .func (PySem.W.fnOf "_is_frame" "Frames._is_frame" (defArgs s_Frames_is_frame) (defBody s_Frames_is_frame) (defScope s_Frames_is_frame) .none kV_Frames_is_frame dc_Frames_is_frame pm_Frames_is_frame an_Frames_is_frame cd_Frames_is_frame ct_Frames_is_frame), sl_Frames_is_frame⟩)
    (q_Frames_is_frame : PySem.W.codeIn K cd_Frames_is_frame "Frames._is_frame" = true)
    (k_Frames_is_frame : PySem.W.keepIn K (.ref f_Frames_is_frame) = true)
    (a_Frames_right : PySem.W.findIn K (.ref C_Frames) "right" = some (some (.ref f_Frames_right)))
    (i_Frames_right : PySem.W.isFn K (.ref f_Frames_right) = true)
    (l_Frames_right : K.lookup f_Frames_right = some ⟨oc_Frames_right, od_Frames_right, .func (PySem.W.fnOf "right" "Frames.right" (defArgs s_Frames_right) (defBody s_Frames_right) (defScope s_Frames_right) .none kV_Frames_right dc_Frames_right pm_Frames_right an_Frames_right cd_Frames_right ct_Frames_right), sl_Frames_right⟩)
    (q_Frames_right : PySem.W.codeIn K cd_Frames_right "Frames.right" = true)
    (k_Frames_right : PySem.W.keepIn K (.ref f_Frames_right) = true)
    (a_Frames_holdings : PySem.W.findIn K (.ref C_Frames) "holdings" = some (some (.ref f_Frames_holdings)))
    (i_Frames_holdings : PySem.W.isFn K (.ref f_Frames_holdings) = true)
    (l_Frames_holdings : K.lookup f_Frames_holdings = some ⟨oc_Frames_holdings, od_Frames_holdings, .func (PySem.W.fnOf "holdings" "Frames.holdings" (defArgs s_Frames_holdings) (defBody s_Frames_holdings) (defScope s_Frames_holdings) .none kV_Frames_holdings dc_Frames_holdings pm_Frames_holdings an_Frames_holdings cd_Frames_holdings ct_Frames_holdings), sl_Frames_holdings⟩)
    (q_Frames_holdings : PySem.W.codeIn K cd_Frames_holdings "Frames.holdings" = true)
    (k_Frames_holdings : PySem.W.keepIn K (.ref f_Frames_holdings) = true)
    (a_Frames_share : PySem.W.findIn K (.ref C_Frames) "share" = some (some (.ref f_Frames_share)))
    (i_Frames_share : PySem.W.isFn K (.ref f_Frames_share) = true)
    (l_Frames_share : K.lookup f_Frames_share = some ⟨oc_Frames_share, od_Frames_share, .func (PySem.W.fnOf "share" "Frames.share" (defArgs s_Frames_share) (defBody s_Frames_share) (defScope s_Frames_share) .none kV_Frames_share dc_Frames_share pm_Frames_share an_Frames_share cd_Frames_share ct_Frames_share), sl_Frames_share⟩)
    (q_Frames_share : PySem.W.codeIn K cd_Frames_share "Frames.share" = true)
    (k_Frames_share : PySem.W.keepIn K (.ref f_Frames_share) = true)
    (a_Frames_asked : PySem.W.findIn K (.ref C_Frames) "asked" = some (some (.ref f_Frames_asked)))
    (i_Frames_asked : PySem.W.isFn K (.ref f_Frames_asked) = true)
    (l_Frames_asked : K.lookup f_Frames_asked = some ⟨oc_Frames_asked, od_Frames_asked, .func (PySem.W.fnOf "asked" "Frames.asked" (defArgs s_Frames_asked) (defBody s_Frames_asked) (defScope s_Frames_asked) .none kV_Frames_asked dc_Frames_asked pm_Frames_asked an_Frames_asked cd_Frames_asked ct_Frames_asked), sl_Frames_asked⟩)
    (q_Frames_asked : PySem.W.codeIn K cd_Frames_asked "Frames.asked" = true)
    (k_Frames_asked : PySem.W.keepIn K (.ref f_Frames_asked) = true)
    (a_Frames_charge : PySem.W.findIn K (.ref C_Frames) "charge" = some (some (.ref f_Frames_charge)))
    (i_Frames_charge : PySem.W.isFn K (.ref f_Frames_charge) = true)
    (l_Frames_charge : K.lookup f_Frames_charge = some ⟨oc_Frames_charge, od_Frames_charge, .func (PySem.W.fnOf "charge" "Frames.charge" (defArgs s_Frames_charge) (defBody s_Frames_charge) (defScope s_Frames_charge) .none kV_Frames_charge dc_Frames_charge pm_Frames_charge an_Frames_charge cd_Frames_charge ct_Frames_charge), sl_Frames_charge⟩)
    (q_Frames_charge : PySem.W.codeIn K cd_Frames_charge "Frames.charge" = true)
    (k_Frames_charge : PySem.W.keepIn K (.ref f_Frames_charge) = true)
    (a_Frames_taken : PySem.W.findIn K (.ref C_Frames) "taken" = some (some (.ref f_Frames_taken)))
    (i_Frames_taken : PySem.W.isFn K (.ref f_Frames_taken) = true)
    (l_Frames_taken : K.lookup f_Frames_taken = some ⟨oc_Frames_taken, od_Frames_taken, .func (PySem.W.fnOf "taken" "Frames.taken" (defArgs s_Frames_taken) (defBody s_Frames_taken) (defScope s_Frames_taken) .none kV_Frames_taken dc_Frames_taken pm_Frames_taken an_Frames_taken cd_Frames_taken ct_Frames_taken), sl_Frames_taken⟩)
    (q_Frames_taken : PySem.W.codeIn K cd_Frames_taken "Frames.taken" = true)
    (k_Frames_taken : PySem.W.keepIn K (.ref f_Frames_taken) = true)
    (a_Frames_left : PySem.W.findIn K (.ref C_Frames) "left" = some (some (.ref f_Frames_left)))
    (i_Frames_left : PySem.W.isFn K (.ref f_Frames_left) = true)
    (l_Frames_left : K.lookup f_Frames_left = some ⟨oc_Frames_left, od_Frames_left, .func (PySem.W.fnOf "left" "Frames.left" (defArgs s_Frames_left) (defBody s_Frames_left) (defScope s_Frames_left) .none kV_Frames_left dc_Frames_left pm_Frames_left an_Frames_left cd_Frames_left ct_Frames_left), sl_Frames_left⟩)
    (q_Frames_left : PySem.W.codeIn K cd_Frames_left "Frames.left" = true)
    (k_Frames_left : PySem.W.keepIn K (.ref f_Frames_left) = true)
    (a_Frames_is_held : PySem.W.findIn K (.ref C_Frames) "_is_held" = some (some (.ref f_Frames_is_held)))
    (i_Frames_is_held : PySem.W.isFn K (.ref f_Frames_is_held) = true)
    (l_Frames_is_held : K.lookup f_Frames_is_held = some ⟨oc_Frames_is_held, od_Frames_is_held, .func (PySem.W.fnOf "_is_held" "Frames._is_held" (defArgs s_Frames_is_held) (defBody s_Frames_is_held) (defScope s_Frames_is_held) .none kV_Frames_is_held dc_Frames_is_held pm_Frames_is_held an_Frames_is_held cd_Frames_is_held ct_Frames_is_held), sl_Frames_is_held⟩)
    (q_Frames_is_held : PySem.W.codeIn K cd_Frames_is_held "Frames._is_held" = true)
    (k_Frames_is_held : PySem.W.keepIn K (.ref f_Frames_is_held) = true)
    (a_Frames_free : PySem.W.findIn K (.ref C_Frames) "free" = some (some (.ref f_Frames_free)))
    (i_Frames_free : PySem.W.isFn K (.ref f_Frames_free) = true)
    (l_Frames_free : K.lookup f_Frames_free = some ⟨oc_Frames_free, od_Frames_free, .func (PySem.W.fnOf "free" "Frames.free" (defArgs s_Frames_free) (defBody s_Frames_free) (defScope s_Frames_free) .none kV_Frames_free dc_Frames_free pm_Frames_free an_Frames_free cd_Frames_free ct_Frames_free), sl_Frames_free⟩)
    (q_Frames_free : PySem.W.codeIn K cd_Frames_free "Frames.free" = true)
    (k_Frames_free : PySem.W.keepIn K (.ref f_Frames_free) = true)
    (a_Frames_uncharged : PySem.W.findIn K (.ref C_Frames) "_uncharged" = some (some (.ref f_Frames_uncharged)))
    (i_Frames_uncharged : PySem.W.isFn K (.ref f_Frames_uncharged) = true)
    (l_Frames_uncharged : K.lookup f_Frames_uncharged = some ⟨oc_Frames_uncharged, od_Frames_uncharged, .func (PySem.W.fnOf "_uncharged" "Frames._uncharged" (defArgs s_Frames_uncharged) (defBody s_Frames_uncharged) (defScope s_Frames_uncharged) .none kV_Frames_uncharged dc_Frames_uncharged pm_Frames_uncharged an_Frames_uncharged cd_Frames_uncharged ct_Frames_uncharged), sl_Frames_uncharged⟩)
    (q_Frames_uncharged : PySem.W.codeIn K cd_Frames_uncharged "Frames._uncharged" = true)
    (k_Frames_uncharged : PySem.W.keepIn K (.ref f_Frames_uncharged) = true)
    (a_Frames_may_hold_more : PySem.W.findIn K (.ref C_Frames) "_may_hold_more" = some (some (.ref f_Frames_may_hold_more)))
    (i_Frames_may_hold_more : PySem.W.isFn K (.ref f_Frames_may_hold_more) = true)
    (l_Frames_may_hold_more : K.lookup f_Frames_may_hold_more = some ⟨oc_Frames_may_hold_more, od_Frames_may_hold_more, .func (PySem.W.fnOf "_may_hold_more" "Frames._may_hold_more" (defArgs s_Frames_may_hold_more) (defBody s_Frames_may_hold_more) (defScope s_Frames_may_hold_more) .none kV_Frames_may_hold_more dc_Frames_may_hold_more pm_Frames_may_hold_more an_Frames_may_hold_more cd_Frames_may_hold_more ct_Frames_may_hold_more), sl_Frames_may_hold_more⟩)
    (q_Frames_may_hold_more : PySem.W.codeIn K cd_Frames_may_hold_more "Frames._may_hold_more" = true)
    (k_Frames_may_hold_more : PySem.W.keepIn K (.ref f_Frames_may_hold_more) = true)
    (a_Frames_offered : PySem.W.findIn K (.ref C_Frames) "_offered" = some (some (.ref f_Frames_offered)))
    (i_Frames_offered : PySem.W.isFn K (.ref f_Frames_offered) = true)
    (l_Frames_offered : K.lookup f_Frames_offered = some ⟨oc_Frames_offered, od_Frames_offered, .func (PySem.W.fnOf "_offered" "Frames._offered" (defArgs s_Frames_offered) (defBody s_Frames_offered) (defScope s_Frames_offered) .none kV_Frames_offered dc_Frames_offered pm_Frames_offered an_Frames_offered cd_Frames_offered ct_Frames_offered), sl_Frames_offered⟩)
    (q_Frames_offered : PySem.W.codeIn K cd_Frames_offered "Frames._offered" = true)
    (k_Frames_offered : PySem.W.keepIn K (.ref f_Frames_offered) = true)
    (a_Frames_end : PySem.W.findIn K (.ref C_Frames) "_end" = some (some (.ref f_Frames_end)))
    (i_Frames_end : PySem.W.isFn K (.ref f_Frames_end) = true)
    (l_Frames_end : K.lookup f_Frames_end = some ⟨oc_Frames_end, od_Frames_end, .func (PySem.W.fnOf "_end" "Frames._end" (defArgs s_Frames_end) (defBody s_Frames_end) (defScope s_Frames_end) .none kV_Frames_end dc_Frames_end pm_Frames_end an_Frames_end cd_Frames_end ct_Frames_end), sl_Frames_end⟩)
    (q_Frames_end : PySem.W.codeIn K cd_Frames_end "Frames._end" = true)
    (k_Frames_end : PySem.W.keepIn K (.ref f_Frames_end) = true)
    (a_Frames_drop : PySem.W.findIn K (.ref C_Frames) "drop" = some (some (.ref f_Frames_drop)))
    (i_Frames_drop : PySem.W.isFn K (.ref f_Frames_drop) = true)
    (l_Frames_drop : K.lookup f_Frames_drop = some ⟨oc_Frames_drop, od_Frames_drop, .func (PySem.W.fnOf "drop" "Frames.drop" (defArgs s_Frames_drop) (defBody s_Frames_drop) (defScope s_Frames_drop) .none kV_Frames_drop dc_Frames_drop pm_Frames_drop an_Frames_drop cd_Frames_drop ct_Frames_drop), sl_Frames_drop⟩)
    (q_Frames_drop : PySem.W.codeIn K cd_Frames_drop "Frames.drop" = true)
    (k_Frames_drop : PySem.W.keepIn K (.ref f_Frames_drop) = true)
    (a_Frames_narrow : PySem.W.findIn K (.ref C_Frames) "narrow" = some (some (.ref f_Frames_narrow)))
    (i_Frames_narrow : PySem.W.isFn K (.ref f_Frames_narrow) = true)
    (l_Frames_narrow : K.lookup f_Frames_narrow = some ⟨oc_Frames_narrow, od_Frames_narrow, .func (PySem.W.fnOf "narrow" "Frames.narrow" (defArgs s_Frames_narrow) (defBody s_Frames_narrow) (defScope s_Frames_narrow) .none kV_Frames_narrow dc_Frames_narrow pm_Frames_narrow an_Frames_narrow cd_Frames_narrow ct_Frames_narrow), sl_Frames_narrow⟩)
    (q_Frames_narrow : PySem.W.codeIn K cd_Frames_narrow "Frames.narrow" = true)
    (k_Frames_narrow : PySem.W.keepIn K (.ref f_Frames_narrow) = true)
    (a_is_word : PySem.W.nsIn K mainGlobals "is_word" = some (some (.ref f_is_word)))
    (l_is_word : K.lookup f_is_word = some ⟨oc_is_word, od_is_word, .func (PySem.W.fnOf "is_word" "is_word" (defArgs s_is_word) (defBody s_is_word) (defScope s_is_word) .none kV_is_word dc_is_word pm_is_word an_is_word cd_is_word ct_is_word), sl_is_word⟩)
    (q_is_word : PySem.W.codeIn K cd_is_word "is_word" = true)
    (k_is_word : PySem.W.keepIn K (.ref f_is_word) = true)
    (a_Frames_read : PySem.W.findIn K (.ref C_Frames) "read" = some (some (.ref f_Frames_read)))
    (i_Frames_read : PySem.W.isFn K (.ref f_Frames_read) = true)
    (l_Frames_read : K.lookup f_Frames_read = some ⟨oc_Frames_read, od_Frames_read, .func (PySem.W.fnOf "read" "Frames.read" (defArgs s_Frames_read) (defBody s_Frames_read) (defScope s_Frames_read) .none kV_Frames_read dc_Frames_read pm_Frames_read an_Frames_read cd_Frames_read ct_Frames_read), sl_Frames_read⟩)
    (q_Frames_read : PySem.W.codeIn K cd_Frames_read "Frames.read" = true)
    (k_Frames_read : PySem.W.keepIn K (.ref f_Frames_read) = true)
    (a_Frames_write : PySem.W.findIn K (.ref C_Frames) "write" = some (some (.ref f_Frames_write)))
    (i_Frames_write : PySem.W.isFn K (.ref f_Frames_write) = true)
    (l_Frames_write : K.lookup f_Frames_write = some ⟨oc_Frames_write, od_Frames_write, .func (PySem.W.fnOf "write" "Frames.write" (defArgs s_Frames_write) (defBody s_Frames_write) (defScope s_Frames_write) .none kV_Frames_write dc_Frames_write pm_Frames_write an_Frames_write cd_Frames_write ct_Frames_write), sl_Frames_write⟩)
    (q_Frames_write : PySem.W.codeIn K cd_Frames_write "Frames.write" = true)
    (k_Frames_write : PySem.W.keepIn K (.ref f_Frames_write) = true)
    (a_Frames_take : PySem.W.findIn K (.ref C_Frames) "take" = some (some (.ref f_Frames_take)))
    (i_Frames_take : PySem.W.isFn K (.ref f_Frames_take) = true)
    (l_Frames_take : K.lookup f_Frames_take = some ⟨oc_Frames_take, od_Frames_take, .func (PySem.W.fnOf "take" "Frames.take" (defArgs s_Frames_take) (defBody s_Frames_take) (defScope s_Frames_take) .none kV_Frames_take dc_Frames_take pm_Frames_take an_Frames_take cd_Frames_take ct_Frames_take), sl_Frames_take⟩)
    (q_Frames_take : PySem.W.codeIn K cd_Frames_take "Frames.take" = true)
    (k_Frames_take : PySem.W.keepIn K (.ref f_Frames_take) = true)
    (a_includes : PySem.W.nsIn K mainGlobals "includes" = some (some (.ref f_includes)))
    (l_includes : K.lookup f_includes = some ⟨oc_includes, od_includes, .func (PySem.W.fnOf "includes" "includes" (defArgs s_includes) (defBody s_includes) (defScope s_includes) .none kV_includes dc_includes pm_includes an_includes cd_includes ct_includes), sl_includes⟩)
    (q_includes : PySem.W.codeIn K cd_includes "includes" = true)
    (k_includes : PySem.W.keepIn K (.ref f_includes) = true)
    (a_Frames_offer : PySem.W.findIn K (.ref C_Frames) "offer" = some (some (.ref f_Frames_offer)))
    (i_Frames_offer : PySem.W.isFn K (.ref f_Frames_offer) = true)
    (l_Frames_offer : K.lookup f_Frames_offer = some ⟨oc_Frames_offer, od_Frames_offer, .func (PySem.W.fnOf "offer" "Frames.offer" (defArgs s_Frames_offer) (defBody s_Frames_offer) (defScope s_Frames_offer) .none kV_Frames_offer dc_Frames_offer pm_Frames_offer an_Frames_offer cd_Frames_offer ct_Frames_offer), sl_Frames_offer⟩)
    (q_Frames_offer : PySem.W.codeIn K cd_Frames_offer "Frames.offer" = true)
    (k_Frames_offer : PySem.W.keepIn K (.ref f_Frames_offer) = true)
    (a_Frames_accept : PySem.W.findIn K (.ref C_Frames) "accept" = some (some (.ref f_Frames_accept)))
    (i_Frames_accept : PySem.W.isFn K (.ref f_Frames_accept) = true)
    (l_Frames_accept : K.lookup f_Frames_accept = some ⟨oc_Frames_accept, od_Frames_accept, .func (PySem.W.fnOf "accept" "Frames.accept" (defArgs s_Frames_accept) (defBody s_Frames_accept) (defScope s_Frames_accept) .none kV_Frames_accept dc_Frames_accept pm_Frames_accept an_Frames_accept cd_Frames_accept ct_Frames_accept), sl_Frames_accept⟩)
    (q_Frames_accept : PySem.W.codeIn K cd_Frames_accept "Frames.accept" = true)
    (k_Frames_accept : PySem.W.keepIn K (.ref f_Frames_accept) = true)
    (a_are_shares : PySem.W.nsIn K mainGlobals "are_shares" = some (some (.ref f_are_shares)))
    (l_are_shares : K.lookup f_are_shares = some ⟨oc_are_shares, od_are_shares, .func (PySem.W.fnOf "are_shares" "are_shares" (defArgs s_are_shares) (defBody s_are_shares) (defScope s_are_shares) .none kV_are_shares dc_are_shares pm_are_shares an_are_shares cd_are_shares ct_are_shares), sl_are_shares⟩)
    (q_are_shares : PySem.W.codeIn K cd_are_shares "are_shares" = true)
    (k_are_shares : PySem.W.keepIn K (.ref f_are_shares) = true)
    (a_Frames_init : PySem.W.findIn K (.ref C_Frames) "__init__" = some (some (.ref f_Frames_init)))
    (i_Frames_init : PySem.W.isFn K (.ref f_Frames_init) = true)
    (l_Frames_init : K.lookup f_Frames_init = some ⟨oc_Frames_init, od_Frames_init, .func (PySem.W.fnOf "__init__" "Frames.__init__" (defArgs s_Frames_init) (defBody s_Frames_init) (defScope s_Frames_init) .none kV_Frames_init dc_Frames_init pm_Frames_init an_Frames_init cd_Frames_init ct_Frames_init), sl_Frames_init⟩)
    (q_Frames_init : PySem.W.codeIn K cd_Frames_init "Frames.__init__" = true)
    (k_Frames_init : PySem.W.keepIn K (.ref f_Frames_init) = true)
    (a_is_page : PySem.W.nsIn K mainGlobals "_is_page" = some (some (.ref f_is_page)))
    (l_is_page : K.lookup f_is_page = some ⟨oc_is_page, od_is_page, .func (PySem.W.fnOf "_is_page" "_is_page" (defArgs s_is_page) (defBody s_is_page) (defScope s_is_page) .none kV_is_page dc_is_page pm_is_page an_is_page cd_is_page ct_is_page), sl_is_page⟩)
    (q_is_page : PySem.W.codeIn K cd_is_page "_is_page" = true)
    (k_is_page : PySem.W.keepIn K (.ref f_is_page) = true)
    (a_Pages_entry : PySem.W.findIn K (.ref C_Pages) "entry" = some (some (.ref f_Pages_entry)))
    (i_Pages_entry : PySem.W.isFn K (.ref f_Pages_entry) = true)
    (l_Pages_entry : K.lookup f_Pages_entry = some ⟨oc_Pages_entry, od_Pages_entry, .func (PySem.W.fnOf "entry" "Pages.entry" (defArgs s_Pages_entry) (defBody s_Pages_entry) (defScope s_Pages_entry) .none kV_Pages_entry dc_Pages_entry pm_Pages_entry an_Pages_entry cd_Pages_entry ct_Pages_entry), sl_Pages_entry⟩)
    (q_Pages_entry : PySem.W.codeIn K cd_Pages_entry "Pages.entry" = true)
    (k_Pages_entry : PySem.W.keepIn K (.ref f_Pages_entry) = true)
    (a_Pages_map : PySem.W.findIn K (.ref C_Pages) "map" = some (some (.ref f_Pages_map)))
    (i_Pages_map : PySem.W.isFn K (.ref f_Pages_map) = true)
    (l_Pages_map : K.lookup f_Pages_map = some ⟨oc_Pages_map, od_Pages_map, .func (PySem.W.fnOf "map" "Pages.map" (defArgs s_Pages_map) (defBody s_Pages_map) (defScope s_Pages_map) .none kV_Pages_map dc_Pages_map pm_Pages_map an_Pages_map cd_Pages_map ct_Pages_map), sl_Pages_map⟩)
    (q_Pages_map : PySem.W.codeIn K cd_Pages_map "Pages.map" = true)
    (k_Pages_map : PySem.W.keepIn K (.ref f_Pages_map) = true)
    (a_Pages_unmap : PySem.W.findIn K (.ref C_Pages) "unmap" = some (some (.ref f_Pages_unmap)))
    (i_Pages_unmap : PySem.W.isFn K (.ref f_Pages_unmap) = true)
    (l_Pages_unmap : K.lookup f_Pages_unmap = some ⟨oc_Pages_unmap, od_Pages_unmap, .func (PySem.W.fnOf "unmap" "Pages.unmap" (defArgs s_Pages_unmap) (defBody s_Pages_unmap) (defScope s_Pages_unmap) .none kV_Pages_unmap dc_Pages_unmap pm_Pages_unmap an_Pages_unmap cd_Pages_unmap ct_Pages_unmap), sl_Pages_unmap⟩)
    (q_Pages_unmap : PySem.W.codeIn K cd_Pages_unmap "Pages.unmap" = true)
    (k_Pages_unmap : PySem.W.keepIn K (.ref f_Pages_unmap) = true)
    (a_Pages_load : PySem.W.findIn K (.ref C_Pages) "load" = some (some (.ref f_Pages_load)))
    (i_Pages_load : PySem.W.isFn K (.ref f_Pages_load) = true)
    (l_Pages_load : K.lookup f_Pages_load = some ⟨oc_Pages_load, od_Pages_load, .func (PySem.W.fnOf "load" "Pages.load" (defArgs s_Pages_load) (defBody s_Pages_load) (defScope s_Pages_load) .none kV_Pages_load dc_Pages_load pm_Pages_load an_Pages_load cd_Pages_load ct_Pages_load), sl_Pages_load⟩)
    (q_Pages_load : PySem.W.codeIn K cd_Pages_load "Pages.load" = true)
    (k_Pages_load : PySem.W.keepIn K (.ref f_Pages_load) = true)
    (a_Pages_store : PySem.W.findIn K (.ref C_Pages) "store" = some (some (.ref f_Pages_store)))
    (i_Pages_store : PySem.W.isFn K (.ref f_Pages_store) = true)
    (l_Pages_store : K.lookup f_Pages_store = some ⟨oc_Pages_store, od_Pages_store, .func (PySem.W.fnOf "store" "Pages.store" (defArgs s_Pages_store) (defBody s_Pages_store) (defScope s_Pages_store) .none kV_Pages_store dc_Pages_store pm_Pages_store an_Pages_store cd_Pages_store ct_Pages_store), sl_Pages_store⟩)
    (q_Pages_store : PySem.W.codeIn K cd_Pages_store "Pages.store" = true)
    (k_Pages_store : PySem.W.keepIn K (.ref f_Pages_store) = true)
    (a_Pages_let_fall : PySem.W.findIn K (.ref C_Pages) "_let_fall" = some (some (.ref f_Pages_let_fall)))
    (i_Pages_let_fall : PySem.W.isFn K (.ref f_Pages_let_fall) = true)
    (l_Pages_let_fall : K.lookup f_Pages_let_fall = some ⟨oc_Pages_let_fall, od_Pages_let_fall, .func (PySem.W.fnOf "_let_fall" "Pages._let_fall" (defArgs s_Pages_let_fall) (defBody s_Pages_let_fall) (defScope s_Pages_let_fall) .none kV_Pages_let_fall dc_Pages_let_fall pm_Pages_let_fall an_Pages_let_fall cd_Pages_let_fall ct_Pages_let_fall), sl_Pages_let_fall⟩)
    (q_Pages_let_fall : PySem.W.codeIn K cd_Pages_let_fall "Pages._let_fall" = true)
    (k_Pages_let_fall : PySem.W.keepIn K (.ref f_Pages_let_fall) = true)
    (a_Pages_ended : PySem.W.findIn K (.ref C_Pages) "ended" = some (some (.ref f_Pages_ended)))
    (i_Pages_ended : PySem.W.isFn K (.ref f_Pages_ended) = true)
    (l_Pages_ended : K.lookup f_Pages_ended = some ⟨oc_Pages_ended, od_Pages_ended, .func (PySem.W.fnOf "ended" "Pages.ended" (defArgs s_Pages_ended) (defBody s_Pages_ended) (defScope s_Pages_ended) .none kV_Pages_ended dc_Pages_ended pm_Pages_ended an_Pages_ended cd_Pages_ended ct_Pages_ended), sl_Pages_ended⟩)
    (q_Pages_ended : PySem.W.codeIn K cd_Pages_ended "Pages.ended" = true)
    (k_Pages_ended : PySem.W.keepIn K (.ref f_Pages_ended) = true)
    (a_Pages_narrowed : PySem.W.findIn K (.ref C_Pages) "narrowed" = some (some (.ref f_Pages_narrowed)))
    (i_Pages_narrowed : PySem.W.isFn K (.ref f_Pages_narrowed) = true)
    (l_Pages_narrowed : K.lookup f_Pages_narrowed = some ⟨oc_Pages_narrowed, od_Pages_narrowed, .func (PySem.W.fnOf "narrowed" "Pages.narrowed" (defArgs s_Pages_narrowed) (defBody s_Pages_narrowed) (defScope s_Pages_narrowed) .none kV_Pages_narrowed dc_Pages_narrowed pm_Pages_narrowed an_Pages_narrowed cd_Pages_narrowed ct_Pages_narrowed), sl_Pages_narrowed⟩)
    (q_Pages_narrowed : PySem.W.codeIn K cd_Pages_narrowed "Pages.narrowed" = true)
    (k_Pages_narrowed : PySem.W.keepIn K (.ref f_Pages_narrowed) = true)
    (a_Pages_init : PySem.W.findIn K (.ref C_Pages) "__init__" = some (some (.ref f_Pages_init)))
    (i_Pages_init : PySem.W.isFn K (.ref f_Pages_init) = true)
    (l_Pages_init : K.lookup f_Pages_init = some ⟨oc_Pages_init, od_Pages_init, .func (PySem.W.fnOf "__init__" "Pages.__init__" (defArgs s_Pages_init) (defBody s_Pages_init) (defScope s_Pages_init) .none kV_Pages_init dc_Pages_init pm_Pages_init an_Pages_init cd_Pages_init ct_Pages_init), sl_Pages_init⟩)
    (q_Pages_init : PySem.W.codeIn K cd_Pages_init "Pages.__init__" = true)
    (k_Pages_init : PySem.W.keepIn K (.ref f_Pages_init) = true)
    (a_law_drop : PySem.W.nsIn K mainGlobals "_law_drop" = some (some (.ref f_law_drop)))
    (l_law_drop : K.lookup f_law_drop = some ⟨oc_law_drop, od_law_drop, .func (PySem.W.fnOf "_law_drop" "_law_drop" (defArgs s_law_drop) (defBody s_law_drop) (defScope s_law_drop) .none kV_law_drop dc_law_drop pm_law_drop an_law_drop cd_law_drop ct_law_drop), sl_law_drop⟩)
    (q_law_drop : PySem.W.codeIn K cd_law_drop "_law_drop" = true)
    (k_law_drop : PySem.W.keepIn K (.ref f_law_drop) = true)
    (a_law_narrow : PySem.W.nsIn K mainGlobals "_law_narrow" = some (some (.ref f_law_narrow)))
    (l_law_narrow : K.lookup f_law_narrow = some ⟨oc_law_narrow, od_law_narrow, .func (PySem.W.fnOf "_law_narrow" "_law_narrow" (defArgs s_law_narrow) (defBody s_law_narrow) (defScope s_law_narrow) .none kV_law_narrow dc_law_narrow pm_law_narrow an_law_narrow cd_law_narrow ct_law_narrow), sl_law_narrow⟩)
    (q_law_narrow : PySem.W.codeIn K cd_law_narrow "_law_narrow" = true)
    (k_law_narrow : PySem.W.keepIn K (.ref f_law_narrow) = true)
    (a_law_book : PySem.W.nsIn K mainGlobals "_law_book" = some (some (.ref f_law_book)))
    (l_law_book : K.lookup f_law_book = some ⟨oc_law_book, od_law_book, .func (PySem.W.fnOf "_law_book" "_law_book" (defArgs s_law_book) (defBody s_law_book) (defScope s_law_book) .none kV_law_book dc_law_book pm_law_book an_law_book cd_law_book ct_law_book), sl_law_book⟩)
    (q_law_book : PySem.W.codeIn K cd_law_book "_law_book" = true)
    (k_law_book : PySem.W.keepIn K (.ref f_law_book) = true)
    (a_law_map : PySem.W.nsIn K mainGlobals "_law_map" = some (some (.ref f_law_map)))
    (l_law_map : K.lookup f_law_map = some ⟨oc_law_map, od_law_map, .func (PySem.W.fnOf "_law_map" "_law_map" (defArgs s_law_map) (defBody s_law_map) (defScope s_law_map) .none kV_law_map dc_law_map pm_law_map an_law_map cd_law_map ct_law_map), sl_law_map⟩)
    (q_law_map : PySem.W.codeIn K cd_law_map "_law_map" = true)
    (k_law_map : PySem.W.keepIn K (.ref f_law_map) = true)
    (a_law_load : PySem.W.nsIn K mainGlobals "_law_load" = some (some (.ref f_law_load)))
    (l_law_load : K.lookup f_law_load = some ⟨oc_law_load, od_law_load, .func (PySem.W.fnOf "_law_load" "_law_load" (defArgs s_law_load) (defBody s_law_load) (defScope s_law_load) .none kV_law_load dc_law_load pm_law_load an_law_load cd_law_load ct_law_load), sl_law_load⟩)
    (q_law_load : PySem.W.codeIn K cd_law_load "_law_load" = true)
    (k_law_load : PySem.W.keepIn K (.ref f_law_load) = true)
    (a_law_store : PySem.W.nsIn K mainGlobals "_law_store" = some (some (.ref f_law_store)))
    (l_law_store : K.lookup f_law_store = some ⟨oc_law_store, od_law_store, .func (PySem.W.fnOf "_law_store" "_law_store" (defArgs s_law_store) (defBody s_law_store) (defScope s_law_store) .none kV_law_store dc_law_store pm_law_store an_law_store cd_law_store ct_law_store), sl_law_store⟩)
    (q_law_store : PySem.W.codeIn K cd_law_store "_law_store" = true)
    (k_law_store : PySem.W.keepIn K (.ref f_law_store) = true)
    (a_law_shown : PySem.W.nsIn K mainGlobals "_law_shown" = some (some (.ref f_law_shown)))
    (l_law_shown : K.lookup f_law_shown = some ⟨oc_law_shown, od_law_shown, .func (PySem.W.fnOf "_law_shown" "_law_shown" (defArgs s_law_shown) (defBody s_law_shown) (defScope s_law_shown) .none kV_law_shown dc_law_shown pm_law_shown an_law_shown cd_law_shown ct_law_shown), sl_law_shown⟩)
    (q_law_shown : PySem.W.codeIn K cd_law_shown "_law_shown" = true)
    (k_law_shown : PySem.W.keepIn K (.ref f_law_shown) = true)
    (a_law : PySem.W.nsIn K mainGlobals "law" = some (some (.ref f_law)))
    (l_law : K.lookup f_law = some ⟨oc_law, od_law, .func (PySem.W.fnOf "law" "law" (defArgs s_law) (defBody s_law) (defScope s_law) .none kV_law dc_law pm_law an_law cd_law ct_law), sl_law⟩)
    (q_law : PySem.W.codeIn K cd_law "law" = true)
    (k_law : PySem.W.keepIn K (.ref f_law) = true)
    (z_abs : PySem.W.nsIn K mainGlobals "abs" = some none)
    (z_all : PySem.W.nsIn K mainGlobals "all" = some none)
    (z_any : PySem.W.nsIn K mainGlobals "any" = some none)
    (z_bool : PySem.W.nsIn K mainGlobals "bool" = some none)
    (z_int : PySem.W.nsIn K mainGlobals "int" = some none)
    (z_isinstance : PySem.W.nsIn K mainGlobals "isinstance" = some none)
    (z_len : PySem.W.nsIn K mainGlobals "len" = some none)
    (z_list : PySem.W.nsIn K mainGlobals "list" = some none)
    (z_max : PySem.W.nsIn K mainGlobals "max" = some none)
    (z_range : PySem.W.nsIn K mainGlobals "range" = some none)
    (z_sum : PySem.W.nsIn K mainGlobals "sum" = some none)
    (y_ENVIRONMENTS : PySem.W.nsIn K mainGlobals "ENVIRONMENTS" = some (some (.int 4 t_ENVIRONMENTS)))
    (y_PAGES : PySem.W.nsIn K mainGlobals "PAGES" = some (some (.int 32 t_PAGES)))
    (y_TOP : PySem.W.nsIn K mainGlobals "TOP" = some (some (.int 4294967295 t_TOP)))
    (y_WORDS : PySem.W.nsIn K mainGlobals "WORDS" = some (some (.int 8 t_WORDS)))
    (y__LEAST_FRAMES : PySem.W.nsIn K mainGlobals "_LEAST_FRAMES" = some (some (.int 8 t__LEAST_FRAMES)))
    (y__MOST_FRAMES : PySem.W.nsIn K mainGlobals "_MOST_FRAMES" = some (some (.int 64 t__MOST_FRAMES))) :
    ∃ fd : FuncData, (∀ (s : Shared) (v : Value), BindsTo s fd ⟨[v], []⟩ [("script", v)]) ∧ ∀ base : Heap, K.In base → base.Ns mainGlobals mg → FnOk l.prog w K mg base CX0 11 fa fd ["script"] (spLaw K) := by
  have e := hfa.symm.trans (PySem.W.mg_of X G a_law)
  cases e
  have T : Txt K mg C_Frames C_Pages C_NotValid := ⟨PySem.W.mg_none_of X G z_abs, PySem.W.mg_none_of X G z_all, PySem.W.mg_none_of X G z_any, PySem.W.mg_none_of X G z_bool, PySem.W.mg_none_of X G z_int, PySem.W.mg_none_of X G z_isinstance, PySem.W.mg_none_of X G z_len, PySem.W.mg_none_of X G z_list, PySem.W.mg_none_of X G z_max, PySem.W.mg_none_of X G z_range, PySem.W.mg_none_of X G z_sum, ⟨_, PySem.W.mg_of X G y_ENVIRONMENTS⟩, ⟨_, PySem.W.mg_of X G y_PAGES⟩, ⟨_, PySem.W.mg_of X G y_TOP⟩, ⟨_, PySem.W.mg_of X G y_WORDS⟩, ⟨_, PySem.W.mg_of X G y__LEAST_FRAMES⟩, ⟨_, PySem.W.mg_of X G y__MOST_FRAMES⟩, ⟨PySem.W.mg_of X G a_NotValid, k_NotValid, x_NotValid, e1_NotValid, e3_NotValid, exm_self e1_NotValid e2_NotValid e3_NotValid e4_NotValid⟩, ⟨g1_Frames, g2_Frames, g3_Frames, g4_Frames⟩, n_Frames__words, n_Frames__shares, n_Frames__rights, n_Frames__offers, n_Frames__asked, n_Frames__ends_to_wait, n_Frames__taken, ⟨g1_Pages, g2_Pages, g3_Pages, g4_Pages⟩, n_Pages__frames, n_Pages__entries⟩
  have F_law_next := fun_mk (st := s_law_next) l_law_next q_law_next k_law_next
  have B_law_next := F_law_next.binds (ps := ["tape", "many"]) fun _ _ _ _ _ _ us hl => match us, hl with | [_, _], _ => rfl
  have F_is_at_least := fun_mk (st := s_is_at_least) l_is_at_least q_is_at_least k_is_at_least
  have B_is_at_least := F_is_at_least.binds (ps := ["value", "least"]) fun _ _ _ _ _ _ us hl => match us, hl with | [_, _], _ => rfl
  have F_is_between := fun_mk (st := s_is_between) l_is_between q_is_between k_is_between
  have B_is_between := F_is_between.binds (ps := ["value", "least", "most"]) fun _ _ _ _ _ _ us hl => match us, hl with | [_, _, _], _ => rfl
  have F_is_index := fun_mk (st := s_is_index) l_is_index q_is_index k_is_index
  have B_is_index := F_is_index.binds (ps := ["value", "many"]) fun _ _ _ _ _ _ us hl => match us, hl with | [_, _], _ => rfl
  have F_is_environment := fun_mk (st := s_is_environment) l_is_environment q_is_environment k_is_environment
  have B_is_environment := F_is_environment.binds (ps := ["value"]) fun _ _ _ _ _ _ us hl => match us, hl with | [_], _ => rfl
  have F_Frames_is_frame := fun_mk (st := s_Frames_is_frame) l_Frames_is_frame q_Frames_is_frame k_Frames_is_frame
  have B_Frames_is_frame := F_Frames_is_frame.binds (ps := ["self", "value"]) fun _ _ _ _ _ _ us hl => match us, hl with | [_, _], _ => rfl
  have F_Frames_right := fun_mk (st := s_Frames_right) l_Frames_right q_Frames_right k_Frames_right
  have B_Frames_right := F_Frames_right.binds (ps := ["self", "environment", "frame"]) fun _ _ _ _ _ _ us hl => match us, hl with | [_, _, _], _ => rfl
  have F_Frames_holdings := fun_mk (st := s_Frames_holdings) l_Frames_holdings q_Frames_holdings k_Frames_holdings
  have B_Frames_holdings := F_Frames_holdings.binds (ps := ["self", "environment"]) fun _ _ _ _ _ _ us hl => match us, hl with | [_, _], _ => rfl
  have F_Frames_share := fun_mk (st := s_Frames_share) l_Frames_share q_Frames_share k_Frames_share
  have B_Frames_share := F_Frames_share.binds (ps := ["self", "environment"]) fun _ _ _ _ _ _ us hl => match us, hl with | [_, _], _ => rfl
  have F_Frames_asked := fun_mk (st := s_Frames_asked) l_Frames_asked q_Frames_asked k_Frames_asked
  have B_Frames_asked := F_Frames_asked.binds (ps := ["self", "environment"]) fun _ _ _ _ _ _ us hl => match us, hl with | [_, _], _ => rfl
  have F_Frames_charge := fun_mk (st := s_Frames_charge) l_Frames_charge q_Frames_charge k_Frames_charge
  have B_Frames_charge := F_Frames_charge.binds (ps := ["self", "environment"]) fun _ _ _ _ _ _ us hl => match us, hl with | [_, _], _ => rfl
  have F_Frames_taken := fun_mk (st := s_Frames_taken) l_Frames_taken q_Frames_taken k_Frames_taken
  have B_Frames_taken := F_Frames_taken.binds (ps := ["self", "environment"]) fun _ _ _ _ _ _ us hl => match us, hl with | [_, _], _ => rfl
  have F_Frames_left := fun_mk (st := s_Frames_left) l_Frames_left q_Frames_left k_Frames_left
  have B_Frames_left := F_Frames_left.binds (ps := ["self"]) fun _ _ _ _ _ _ us hl => match us, hl with | [_], _ => rfl
  have F_Frames_is_held := fun_mk (st := s_Frames_is_held) l_Frames_is_held q_Frames_is_held k_Frames_is_held
  have B_Frames_is_held := F_Frames_is_held.binds (ps := ["self", "frame"]) fun _ _ _ _ _ _ us hl => match us, hl with | [_, _], _ => rfl
  have F_Frames_free := fun_mk (st := s_Frames_free) l_Frames_free q_Frames_free k_Frames_free
  have B_Frames_free := F_Frames_free.binds (ps := ["self"]) fun _ _ _ _ _ _ us hl => match us, hl with | [_], _ => rfl
  have F_Frames_uncharged := fun_mk (st := s_Frames_uncharged) l_Frames_uncharged q_Frames_uncharged k_Frames_uncharged
  have B_Frames_uncharged := F_Frames_uncharged.binds (ps := ["self", "environment"]) fun _ _ _ _ _ _ us hl => match us, hl with | [_, _], _ => rfl
  have F_Frames_may_hold_more := fun_mk (st := s_Frames_may_hold_more) l_Frames_may_hold_more q_Frames_may_hold_more k_Frames_may_hold_more
  have B_Frames_may_hold_more := F_Frames_may_hold_more.binds (ps := ["self", "environment"]) fun _ _ _ _ _ _ us hl => match us, hl with | [_, _], _ => rfl
  have F_Frames_offered := fun_mk (st := s_Frames_offered) l_Frames_offered q_Frames_offered k_Frames_offered
  have B_Frames_offered := F_Frames_offered.binds (ps := ["self", "owner", "frame", "other"]) fun _ _ _ _ _ _ us hl => match us, hl with | [_, _, _, _], _ => rfl
  have F_Frames_end := fun_mk (st := s_Frames_end) l_Frames_end q_Frames_end k_Frames_end
  have B_Frames_end := F_Frames_end.binds (ps := ["self", "environment", "frame"]) fun _ _ _ _ _ _ us hl => match us, hl with | [_, _, _], _ => rfl
  have F_Frames_drop := fun_mk (st := s_Frames_drop) l_Frames_drop q_Frames_drop k_Frames_drop
  have B_Frames_drop := F_Frames_drop.binds (ps := ["self", "environment", "frame"]) fun _ _ _ _ _ _ us hl => match us, hl with | [_, _, _], _ => rfl
  have F_Frames_narrow := fun_mk (st := s_Frames_narrow) l_Frames_narrow q_Frames_narrow k_Frames_narrow
  have B_Frames_narrow := F_Frames_narrow.binds (ps := ["self", "environment", "frame"]) fun _ _ _ _ _ _ us hl => match us, hl with | [_, _, _], _ => rfl
  have F_is_word := fun_mk (st := s_is_word) l_is_word q_is_word k_is_word
  have B_is_word := F_is_word.binds (ps := ["value"]) fun _ _ _ _ _ _ us hl => match us, hl with | [_], _ => rfl
  have F_Frames_read := fun_mk (st := s_Frames_read) l_Frames_read q_Frames_read k_Frames_read
  have B_Frames_read := F_Frames_read.binds (ps := ["self", "frame", "index"]) fun _ _ _ _ _ _ us hl => match us, hl with | [_, _, _], _ => rfl
  have F_Frames_write := fun_mk (st := s_Frames_write) l_Frames_write q_Frames_write k_Frames_write
  have B_Frames_write := F_Frames_write.binds (ps := ["self", "frame", "index", "word"]) fun _ _ _ _ _ _ us hl => match us, hl with | [_, _, _, _], _ => rfl
  have F_Frames_take := fun_mk (st := s_Frames_take) l_Frames_take q_Frames_take k_Frames_take
  have B_Frames_take := F_Frames_take.binds (ps := ["self", "environment"]) fun _ _ _ _ _ _ us hl => match us, hl with | [_, _], _ => rfl
  have F_includes := fun_mk (st := s_includes) l_includes q_includes k_includes
  have B_includes := F_includes.binds (ps := ["held", "right"]) fun _ _ _ _ _ _ us hl => match us, hl with | [_, _], _ => rfl
  have F_Frames_offer := fun_mk (st := s_Frames_offer) l_Frames_offer q_Frames_offer k_Frames_offer
  have B_Frames_offer := F_Frames_offer.binds (ps := ["self", "environment", "frame", "other", "right"]) fun _ _ _ _ _ _ us hl => match us, hl with | [_, _, _, _, _], _ => rfl
  have F_Frames_accept := fun_mk (st := s_Frames_accept) l_Frames_accept q_Frames_accept k_Frames_accept
  have B_Frames_accept := F_Frames_accept.binds (ps := ["self", "environment", "frame", "owner"]) fun _ _ _ _ _ _ us hl => match us, hl with | [_, _, _, _], _ => rfl
  have F_are_shares := fun_mk (st := s_are_shares) l_are_shares q_are_shares k_are_shares
  have B_are_shares := F_are_shares.binds (ps := ["value"]) fun _ _ _ _ _ _ us hl => match us, hl with | [_], _ => rfl
  have F_Frames_init := fun_mk (st := s_Frames_init) l_Frames_init q_Frames_init k_Frames_init
  have B_Frames_init := F_Frames_init.binds (ps := ["self", "many", "shares"]) fun _ _ _ _ _ _ us hl => match us, hl with | [_, _, _], _ => rfl
  have F_is_page := fun_mk (st := s_is_page) l_is_page q_is_page k_is_page
  have B_is_page := F_is_page.binds (ps := ["environment", "page"]) fun _ _ _ _ _ _ us hl => match us, hl with | [_, _], _ => rfl
  have F_Pages_entry := fun_mk (st := s_Pages_entry) l_Pages_entry q_Pages_entry k_Pages_entry
  have B_Pages_entry := F_Pages_entry.binds (ps := ["self", "environment", "page"]) fun _ _ _ _ _ _ us hl => match us, hl with | [_, _, _], _ => rfl
  have F_Pages_map := fun_mk (st := s_Pages_map) l_Pages_map q_Pages_map k_Pages_map
  have B_Pages_map := F_Pages_map.binds (ps := ["self", "environment", "page", "frame", "right"]) fun _ _ _ _ _ _ us hl => match us, hl with | [_, _, _, _, _], _ => rfl
  have F_Pages_unmap := fun_mk (st := s_Pages_unmap) l_Pages_unmap q_Pages_unmap k_Pages_unmap
  have B_Pages_unmap := F_Pages_unmap.binds (ps := ["self", "environment", "page"]) fun _ _ _ _ _ _ us hl => match us, hl with | [_, _, _], _ => rfl
  have F_Pages_load := fun_mk (st := s_Pages_load) l_Pages_load q_Pages_load k_Pages_load
  have B_Pages_load := F_Pages_load.binds (ps := ["self", "environment", "page", "index"]) fun _ _ _ _ _ _ us hl => match us, hl with | [_, _, _, _], _ => rfl
  have F_Pages_store := fun_mk (st := s_Pages_store) l_Pages_store q_Pages_store k_Pages_store
  have B_Pages_store := F_Pages_store.binds (ps := ["self", "environment", "page", "index", "word"]) fun _ _ _ _ _ _ us hl => match us, hl with | [_, _, _, _, _], _ => rfl
  have F_Pages_let_fall := fun_mk (st := s_Pages_let_fall) l_Pages_let_fall q_Pages_let_fall k_Pages_let_fall
  have B_Pages_let_fall := F_Pages_let_fall.binds (ps := ["self", "environment", "fallen"]) fun _ _ _ _ _ _ us hl => match us, hl with | [_, _, _], _ => rfl
  have F_Pages_ended := fun_mk (st := s_Pages_ended) l_Pages_ended q_Pages_ended k_Pages_ended
  have B_Pages_ended := F_Pages_ended.binds (ps := ["self", "environment", "frame"]) fun _ _ _ _ _ _ us hl => match us, hl with | [_, _, _], _ => rfl
  have F_Pages_narrowed := fun_mk (st := s_Pages_narrowed) l_Pages_narrowed q_Pages_narrowed k_Pages_narrowed
  have B_Pages_narrowed := F_Pages_narrowed.binds (ps := ["self", "environment", "frame"]) fun _ _ _ _ _ _ us hl => match us, hl with | [_, _, _], _ => rfl
  have F_Pages_init := fun_mk (st := s_Pages_init) l_Pages_init q_Pages_init k_Pages_init
  have B_Pages_init := F_Pages_init.binds (ps := ["self", "frames"]) fun _ _ _ _ _ _ us hl => match us, hl with | [_, _], _ => rfl
  have F_law_drop := fun_mk (st := s_law_drop) l_law_drop q_law_drop k_law_drop
  have B_law_drop := F_law_drop.binds (ps := ["frames", "pages", "entries", "environment", "frame"]) fun _ _ _ _ _ _ us hl => match us, hl with | [_, _, _, _, _], _ => rfl
  have F_law_narrow := fun_mk (st := s_law_narrow) l_law_narrow q_law_narrow k_law_narrow
  have B_law_narrow := F_law_narrow.binds (ps := ["frames", "pages", "entries", "environment", "frame"]) fun _ _ _ _ _ _ us hl => match us, hl with | [_, _, _, _, _], _ => rfl
  have F_law_book := fun_mk (st := s_law_book) l_law_book q_law_book k_law_book
  have B_law_book := F_law_book.binds (ps := ["tape", "frames", "pages", "entries", "words"]) fun _ _ _ _ _ _ us hl => match us, hl with | [_, _, _, _, _], _ => rfl
  have F_law_map := fun_mk (st := s_law_map) l_law_map q_law_map k_law_map
  have B_law_map := F_law_map.binds (ps := ["tape", "frames", "pages", "entries"]) fun _ _ _ _ _ _ us hl => match us, hl with | [_, _, _, _], _ => rfl
  have F_law_load := fun_mk (st := s_law_load) l_law_load q_law_load k_law_load
  have B_law_load := F_law_load.binds (ps := ["tape", "pages", "entries", "words"]) fun _ _ _ _ _ _ us hl => match us, hl with | [_, _, _, _], _ => rfl
  have F_law_store := fun_mk (st := s_law_store) l_law_store q_law_store k_law_store
  have B_law_store := F_law_store.binds (ps := ["tape", "pages", "entries", "words"]) fun _ _ _ _ _ _ us hl => match us, hl with | [_, _, _, _], _ => rfl
  have F_law_shown := fun_mk (st := s_law_shown) l_law_shown q_law_shown k_law_shown
  have B_law_shown := F_law_shown.binds (ps := ["frames", "pages", "entries"]) fun _ _ _ _ _ _ us hl => match us, hl with | [_, _, _], _ => rfl
  have F_law := fun_mk (st := s_law) l_law q_law k_law
  refine ⟨PySem.W.fnOf "law" "law" (defArgs s_law) (defBody s_law) (defScope s_law) .none kV_law dc_law pm_law an_law cd_law ct_law, fun s v => .of_eq rfl, fun base _ _ => ?_⟩
  have D_law_next : Dfn l.prog w K mg base CX0 1 "_law_next" ["tape", "many"] spNext := ⟨f_law_next, _, ok_law_next F_law_next T , PySem.W.mg_of X G a_law_next, k_law_next, B_law_next⟩
  have D_is_at_least : Dfn l.prog w K mg base CX0 1 "is_at_least" ["value", "least"] spGe := ⟨f_is_at_least, _, ok_is_at_least F_is_at_least T , PySem.W.mg_of X G a_is_at_least, k_is_at_least, B_is_at_least⟩
  have D_is_between : Dfn l.prog w K mg base CX0 2 "is_between" ["value", "least", "most"] spBtw := ⟨f_is_between, _, ok_is_between F_is_between T D_is_at_least, PySem.W.mg_of X G a_is_between, k_is_between, B_is_between⟩
  have D_is_index : Dfn l.prog w K mg base CX0 3 "is_index" ["value", "many"] spIdx := ⟨f_is_index, _, ok_is_index F_is_index T D_is_between, PySem.W.mg_of X G a_is_index, k_is_index, B_is_index⟩
  have D_is_environment : Dfn l.prog w K mg base CX0 4 "is_environment" ["value"] spEnv := ⟨f_is_environment, _, ok_is_environment F_is_environment T D_is_index, PySem.W.mg_of X G a_is_environment, k_is_environment, B_is_environment⟩
  have D_Frames_is_frame : Mth l.prog w K mg base CX0 4 C_Frames "_is_frame" ["self", "value"] (spIsF C_Frames) := ⟨f_Frames_is_frame, _, ok_Frames_is_frame F_Frames_is_frame T D_is_index, ⟨a_Frames_is_frame, i_Frames_is_frame, k_Frames_is_frame⟩, B_Frames_is_frame, T.o_Frames⟩
  have D_Frames_right : Mth l.prog w K mg base CX0 5 C_Frames "right" ["self", "environment", "frame"] (spRight C_Frames) := ⟨f_Frames_right, _, ok_Frames_right F_Frames_right T D_is_environment D_Frames_is_frame, ⟨a_Frames_right, i_Frames_right, k_Frames_right⟩, B_Frames_right, T.o_Frames⟩
  have D_Frames_holdings : Mth l.prog w K mg base CX0 5 C_Frames "holdings" ["self", "environment"] (spHold C_Frames) := ⟨f_Frames_holdings, _, ok_Frames_holdings F_Frames_holdings T D_is_environment, ⟨a_Frames_holdings, i_Frames_holdings, k_Frames_holdings⟩, B_Frames_holdings, T.o_Frames⟩
  have D_Frames_share : Mth l.prog w K mg base CX0 5 C_Frames "share" ["self", "environment"] (spNat1 C_Frames shareOf) := ⟨f_Frames_share, _, ok_Frames_share F_Frames_share T D_is_environment, ⟨a_Frames_share, i_Frames_share, k_Frames_share⟩, B_Frames_share, T.o_Frames⟩
  have D_Frames_asked : Mth l.prog w K mg base CX0 5 C_Frames "asked" ["self", "environment"] (spNat1 C_Frames askOf) := ⟨f_Frames_asked, _, ok_Frames_asked F_Frames_asked T D_is_environment, ⟨a_Frames_asked, i_Frames_asked, k_Frames_asked⟩, B_Frames_asked, T.o_Frames⟩
  have D_Frames_charge : Mth l.prog w K mg base CX0 6 C_Frames "charge" ["self", "environment"] (spNat1 C_Frames chargeOf) := ⟨f_Frames_charge, _, ok_Frames_charge F_Frames_charge T D_Frames_holdings, ⟨a_Frames_charge, i_Frames_charge, k_Frames_charge⟩, B_Frames_charge, T.o_Frames⟩
  have D_Frames_taken : Mth l.prog w K mg base CX0 5 C_Frames "taken" ["self", "environment"] (spTaken C_Frames) := ⟨f_Frames_taken, _, ok_Frames_taken F_Frames_taken T D_is_environment, ⟨a_Frames_taken, i_Frames_taken, k_Frames_taken⟩, B_Frames_taken, T.o_Frames⟩
  have D_Frames_left : Mth l.prog w K mg base CX0 1 C_Frames "left" ["self"] (spLeft C_Frames) := ⟨f_Frames_left, _, ok_Frames_left F_Frames_left T , ⟨a_Frames_left, i_Frames_left, k_Frames_left⟩, B_Frames_left, T.o_Frames⟩
  have D_Frames_is_held : Mth l.prog w K mg base CX0 1 C_Frames "_is_held" ["self", "frame"] (spHeld C_Frames) := ⟨f_Frames_is_held, _, ok_Frames_is_held F_Frames_is_held T , ⟨a_Frames_is_held, i_Frames_is_held, k_Frames_is_held⟩, B_Frames_is_held, T.o_Frames⟩
  have D_Frames_free : Mth l.prog w K mg base CX0 2 C_Frames "free" ["self"] (spFree C_Frames) := ⟨f_Frames_free, _, ok_Frames_free F_Frames_free T D_Frames_is_held, ⟨a_Frames_free, i_Frames_free, k_Frames_free⟩, B_Frames_free, T.o_Frames⟩
  have D_Frames_uncharged : Mth l.prog w K mg base CX0 7 C_Frames "_uncharged" ["self", "environment"] (spNat1 C_Frames unchOf) := ⟨f_Frames_uncharged, _, ok_Frames_uncharged F_Frames_uncharged T D_Frames_share D_Frames_charge, ⟨a_Frames_uncharged, i_Frames_uncharged, k_Frames_uncharged⟩, B_Frames_uncharged, T.o_Frames⟩
  have D_Frames_may_hold_more : Mth l.prog w K mg base CX0 8 C_Frames "_may_hold_more" ["self", "environment"] (spMore C_Frames) := ⟨f_Frames_may_hold_more, _, ok_Frames_may_hold_more F_Frames_may_hold_more T D_Frames_uncharged D_Frames_left, ⟨a_Frames_may_hold_more, i_Frames_may_hold_more, k_Frames_may_hold_more⟩, B_Frames_may_hold_more, T.o_Frames⟩
  have D_Frames_offered : Mth l.prog w K mg base CX0 5 C_Frames "_offered" ["self", "owner", "frame", "other"] (spOff C_Frames) := ⟨f_Frames_offered, _, ok_Frames_offered F_Frames_offered T D_is_environment D_Frames_is_frame, ⟨a_Frames_offered, i_Frames_offered, k_Frames_offered⟩, B_Frames_offered, T.o_Frames⟩
  have D_Frames_end : Mth l.prog w K mg base CX0 1 C_Frames "_end" ["self", "environment", "frame"] (spEnd C_Frames) := ⟨f_Frames_end, _, ok_Frames_end F_Frames_end T , ⟨a_Frames_end, i_Frames_end, k_Frames_end⟩, B_Frames_end, T.o_Frames⟩
  have D_Frames_drop : Mth l.prog w K mg base CX0 6 C_Frames "drop" ["self", "environment", "frame"] (spDrop C_Frames) := ⟨f_Frames_drop, _, ok_Frames_drop F_Frames_drop T D_Frames_right D_Frames_end, ⟨a_Frames_drop, i_Frames_drop, k_Frames_drop⟩, B_Frames_drop, T.o_Frames⟩
  have D_Frames_narrow : Mth l.prog w K mg base CX0 6 C_Frames "narrow" ["self", "environment", "frame"] (spNarrow C_Frames) := ⟨f_Frames_narrow, _, ok_Frames_narrow F_Frames_narrow T D_Frames_right, ⟨a_Frames_narrow, i_Frames_narrow, k_Frames_narrow⟩, B_Frames_narrow, T.o_Frames⟩
  have D_is_word : Dfn l.prog w K mg base CX0 3 "is_word" ["value"] spWord := ⟨f_is_word, _, ok_is_word F_is_word T D_is_between, PySem.W.mg_of X G a_is_word, k_is_word, B_is_word⟩
  have D_Frames_read : Mth l.prog w K mg base (L2.CX l.prog w) 5 C_Frames "read" ["self", "frame", "index"] (spRead C_Frames) := ⟨f_Frames_read, _, ok_Frames_read F_Frames_read T D_Frames_is_frame D_is_index, ⟨a_Frames_read, i_Frames_read, k_Frames_read⟩, B_Frames_read, T.o_Frames⟩
  have D_Frames_write : Mth l.prog w K mg base (L2.CX l.prog w) 5 C_Frames "write" ["self", "frame", "index", "word"] (spWrite C_Frames) := ⟨f_Frames_write, _, ok_Frames_write F_Frames_write T D_Frames_is_frame D_is_index D_is_word, ⟨a_Frames_write, i_Frames_write, k_Frames_write⟩, B_Frames_write, T.o_Frames⟩
  have D_Frames_take : Mth l.prog w K mg base CX0 9 C_Frames "take" ["self", "environment"] (spTake C_Frames) := ⟨f_Frames_take, _, ok_Frames_take F_Frames_take T D_is_environment D_Frames_may_hold_more D_Frames_free, ⟨a_Frames_take, i_Frames_take, k_Frames_take⟩, B_Frames_take, T.o_Frames⟩
  have D_includes : Dfn l.prog w K mg base CX0 1 "includes" ["held", "right"] spIncl3 := ⟨f_includes, _, ok_includes F_includes T , PySem.W.mg_of X G a_includes, k_includes, B_includes⟩
  have D_Frames_offer : Mth l.prog w K mg base CX0 6 C_Frames "offer" ["self", "environment", "frame", "other", "right"] (spOffer C_Frames) := ⟨f_Frames_offer, _, ok_Frames_offer F_Frames_offer T D_is_environment D_includes D_Frames_right, ⟨a_Frames_offer, i_Frames_offer, k_Frames_offer⟩, B_Frames_offer, T.o_Frames⟩
  have D_Frames_accept : Mth l.prog w K mg base CX0 9 C_Frames "accept" ["self", "environment", "frame", "owner"] (spAccept C_Frames) := ⟨f_Frames_accept, _, ok_Frames_accept F_Frames_accept T D_Frames_offered D_includes D_Frames_right D_Frames_may_hold_more, ⟨a_Frames_accept, i_Frames_accept, k_Frames_accept⟩, B_Frames_accept, T.o_Frames⟩
  have D_are_shares : Dfn l.prog w K mg base CX0 2 "are_shares" ["value"] spShares := ⟨f_are_shares, _, ok_are_shares F_are_shares T D_is_at_least, PySem.W.mg_of X G a_are_shares, k_are_shares, B_are_shares⟩
  have M_Frames : Mkr l.prog w K mg base (L2.CX l.prog w) 3 "Frames" C_Frames ["self", "many", "shares"] (spInitF C_Frames) := ⟨f_Frames_init, _, ⟨m_Frames, a_Frames_init, i_Frames_init, k_Frames⟩, ok_Frames_init F_Frames_init T D_is_between D_are_shares, B_Frames_init, PySem.W.mg_of X G a_Frames⟩
  have D_is_page : Dfn l.prog w K mg base CX0 5 "_is_page" ["environment", "page"] spIsPage := ⟨f_is_page, _, ok_is_page F_is_page T D_is_environment D_is_index, PySem.W.mg_of X G a_is_page, k_is_page, B_is_page⟩
  have D_Pages_entry : Mth l.prog w K mg base CX0 6 C_Pages "entry" ["self", "environment", "page"] (spEntry C_Pages) := ⟨f_Pages_entry, _, ok_Pages_entry F_Pages_entry T D_is_page, ⟨a_Pages_entry, i_Pages_entry, k_Pages_entry⟩, B_Pages_entry, T.o_Pages⟩
  have D_Pages_map : Mth l.prog w K mg base CX0 6 C_Pages "map" ["self", "environment", "page", "frame", "right"] (spMap C_Frames C_Pages) := ⟨f_Pages_map, _, ok_Pages_map F_Pages_map T D_is_page D_includes D_Frames_right, ⟨a_Pages_map, i_Pages_map, k_Pages_map⟩, B_Pages_map, T.o_Pages⟩
  have D_Pages_unmap : Mth l.prog w K mg base CX0 7 C_Pages "unmap" ["self", "environment", "page"] (spUnmap C_Pages) := ⟨f_Pages_unmap, _, ok_Pages_unmap F_Pages_unmap T D_Pages_entry, ⟨a_Pages_unmap, i_Pages_unmap, k_Pages_unmap⟩, B_Pages_unmap, T.o_Pages⟩
  have D_Pages_load : Mth l.prog w K mg base (L2.CX l.prog w) 7 C_Pages "load" ["self", "environment", "page", "index"] (spLoad C_Frames C_Pages) := ⟨f_Pages_load, _, ok_Pages_load F_Pages_load T D_Pages_entry D_is_index D_Frames_read, ⟨a_Pages_load, i_Pages_load, k_Pages_load⟩, B_Pages_load, T.o_Pages⟩
  have D_Pages_store : Mth l.prog w K mg base (L2.CX l.prog w) 7 C_Pages "store" ["self", "environment", "page", "index", "word"] (spStore C_Frames C_Pages) := ⟨f_Pages_store, _, ok_Pages_store F_Pages_store T D_Pages_entry D_is_index D_is_word D_Frames_write, ⟨a_Pages_store, i_Pages_store, k_Pages_store⟩, B_Pages_store, T.o_Pages⟩
  have D_Pages_let_fall : Mth l.prog w K mg base CX0 5 C_Pages "_let_fall" ["self", "environment", "fallen"] (spFall C_Pages) := ⟨f_Pages_let_fall, _, ok_Pages_let_fall F_Pages_let_fall T D_is_environment, ⟨a_Pages_let_fall, i_Pages_let_fall, k_Pages_let_fall⟩, B_Pages_let_fall, T.o_Pages⟩
  have D_Pages_ended : Mth l.prog w K mg base CX0 6 C_Pages "ended" ["self", "environment", "frame"] (spEnded C_Pages bothF) := ⟨f_Pages_ended, _, ok_Pages_ended F_Pages_ended T D_Pages_let_fall, ⟨a_Pages_ended, i_Pages_ended, k_Pages_ended⟩, B_Pages_ended, T.o_Pages⟩
  have D_Pages_narrowed : Mth l.prog w K mg base CX0 6 C_Pages "narrowed" ["self", "environment", "frame"] (spEnded C_Pages rwF) := ⟨f_Pages_narrowed, _, ok_Pages_narrowed F_Pages_narrowed T D_Pages_let_fall, ⟨a_Pages_narrowed, i_Pages_narrowed, k_Pages_narrowed⟩, B_Pages_narrowed, T.o_Pages⟩
  have M_Pages : Mkr l.prog w K mg base CX0 1 "Pages" C_Pages ["self", "frames"] (spInitP C_Pages) := ⟨f_Pages_init, _, ⟨m_Pages, a_Pages_init, i_Pages_init, k_Pages⟩, ok_Pages_init F_Pages_init T , B_Pages_init, PySem.W.mg_of X G a_Pages⟩
  have D_law_drop : Dfn l.prog w K mg base CX0 7 "_law_drop" ["frames", "pages", "entries", "environment", "frame"] (spDropL C_Frames C_Pages) := ⟨f_law_drop, _, ok_law_drop F_law_drop T D_Frames_drop D_Pages_ended, PySem.W.mg_of X G a_law_drop, k_law_drop, B_law_drop⟩
  have D_law_narrow : Dfn l.prog w K mg base CX0 7 "_law_narrow" ["frames", "pages", "entries", "environment", "frame"] (spDropL C_Frames C_Pages) := ⟨f_law_narrow, _, ok_law_narrow F_law_narrow T D_Frames_narrow D_Pages_narrowed, PySem.W.mg_of X G a_law_narrow, k_law_narrow, B_law_narrow⟩
  have D_law_book : Dfn l.prog w K mg base CX0 10 "_law_book" ["tape", "frames", "pages", "entries", "words"] (spBookL C_Frames C_Pages) := ⟨f_law_book, _, ok_law_book F_law_book T D_law_next D_Frames_take D_Frames_offer D_Frames_accept D_law_narrow D_law_drop, PySem.W.mg_of X G a_law_book, k_law_book, B_law_book⟩
  have D_law_map : Dfn l.prog w K mg base CX0 7 "_law_map" ["tape", "frames", "pages", "entries"] (spMapL C_Frames C_Pages) := ⟨f_law_map, _, ok_law_map F_law_map T D_law_next D_Frames_right D_Pages_map, PySem.W.mg_of X G a_law_map, k_law_map, B_law_map⟩
  have D_law_load : Dfn l.prog w K mg base (L2.CX l.prog w) 8 "_law_load" ["tape", "pages", "entries", "words"] (spLoadL C_Frames C_Pages) := ⟨f_law_load, _, ok_law_load F_law_load T D_law_next D_Pages_load, PySem.W.mg_of X G a_law_load, k_law_load, B_law_load⟩
  have D_law_store : Dfn l.prog w K mg base (L2.CX l.prog w) 8 "_law_store" ["tape", "pages", "entries", "words"] (spLoadL C_Frames C_Pages) := ⟨f_law_store, _, ok_law_store F_law_store T D_law_next D_Pages_store, PySem.W.mg_of X G a_law_store, k_law_store, B_law_store⟩
  have D_law_shown : Dfn l.prog w K mg base CX0 7 "_law_shown" ["frames", "pages", "entries"] (spShownP C_Frames C_Pages) := ⟨f_law_shown, _, ok_law_shown F_law_shown T D_Pages_entry D_Frames_right, PySem.W.mg_of X G a_law_shown, k_law_shown, B_law_shown⟩
  exact ok_law F_law T D_law_next M_Frames M_Pages D_law_book D_law_map D_Pages_unmap D_law_store D_law_load D_law_shown
theorem walk {l : PySem.W.OpenLaw} {q : Program} {loose : List Str} {XP : (Str → Option Value) → Heap → Prop} {YP : World → Heap → Prop} {d : DefRec} {K : Params → PySem.W.Frag} (hn : l.most = some 63) (hdf : d.params.defaults = [])
    (hY : ∀ (w : World) (h : Heap), YP w h → (K w.params).In h)
    (F : ∀ (w : World) (mg : Str → Option Value) (fa : Addr) (h : Heap), (K w.params).In h → h.Ns mainGlobals mg → mg d.name = some (.ref fa) →
      ∃ fd : FuncData, (∀ (s : Shared) (u : Value), BindsTo s fd ⟨[u], []⟩ [("script", u)]) ∧ ∀ base : Heap, (K w.params).In base → base.Ns mainGlobals mg → FnOk l.prog w (K w.params) mg base CX0 11 fa fd ["script"] (spLaw (K w.params))) :
    PySem.W.WalkO q loose XP YP l.row.toRowW d [] (fun f vs => PySem.call f vs) :=
  L2.walk_of (n := 63) (k := 11) (x := "script") (CX := fun _ => CX0) (sp := fun w => spLaw (K w.params)) hn (by decide) hdf ⟨rfl, by decide, by decide⟩ hY F (fun _ _ a ns hl _ hS => ⟨a, ns, rfl, hS, fun _ => rfl⟩) fun _ _ _ _ _ z => z
end My
open PySem PySem.W PyProof.Rows in
set_option maxRecDepth 100000 in
set_option maxHeartbeats 0 in
theorem PySem.Challenge.cw_steadhold_k33_pages_never_give_more_than_holds : PySem.Challenge.rw_steadhold_k33_pages_never_give_more_than.Holds := by
  w_on; o_law; k_head; (case hw => w_witness2)
  k_fill
  refine My.walk (l := PySem.Challenge.rw_steadhold_k33_pages_never_give_more_than) rfl rfl (fun w h Y => PySem.W.kIn_of Y) ?F
  case F =>
    intro w mg fa h KX G hmg
    refine' My.all_mk KX G hmg ?a_Frames ?g1_Frames ?g2_Frames ?g3_Frames ?g4_Frames ?m_Frames ?k_Frames ?n_Frames__words ?n_Frames__shares ?n_Frames__rights ?n_Frames__offers ?n_Frames__asked ?n_Frames__ends_to_wait ?n_Frames__taken ?a_Pages ?g1_Pages ?g2_Pages ?g3_Pages ?g4_Pages ?m_Pages ?k_Pages ?n_Pages__frames ?n_Pages__entries ?a_NotValid ?k_NotValid ?x_NotValid ?e1_NotValid ?e2_NotValid ?e3_NotValid ?e4_NotValid ?a_law_next ?l_law_next ?q_law_next ?k_law_next ?a_is_at_least ?l_is_at_least ?q_is_at_least ?k_is_at_least ?a_is_between ?l_is_between ?q_is_between ?k_is_between ?a_is_index ?l_is_index ?q_is_index ?k_is_index ?a_is_environment ?l_is_environment ?q_is_environment ?k_is_environment ?a_Frames_is_frame ?i_Frames_is_frame ?l_Frames_is_frame ?q_Frames_is_frame ?k_Frames_is_frame ?a_Frames_right ?i_Frames_right ?l_Frames_right ?q_Frames_right ?k_Frames_right ?a_Frames_holdings ?i_Frames_holdings ?l_Frames_holdings ?q_Frames_holdings ?k_Frames_holdings ?a_Frames_share ?i_Frames_share ?l_Frames_share ?q_Frames_share ?k_Frames_share ?a_Frames_asked ?i_Frames_asked ?l_Frames_asked ?q_Frames_asked ?k_Frames_asked ?a_Frames_charge ?i_Frames_charge ?l_Frames_charge ?q_Frames_charge ?k_Frames_charge ?a_Frames_taken ?i_Frames_taken ?l_Frames_taken ?q_Frames_taken ?k_Frames_taken ?a_Frames_left ?i_Frames_left ?l_Frames_left ?q_Frames_left ?k_Frames_left ?a_Frames_is_held ?i_Frames_is_held ?l_Frames_is_held ?q_Frames_is_held ?k_Frames_is_held ?a_Frames_free ?i_Frames_free ?l_Frames_free ?q_Frames_free ?k_Frames_free ?a_Frames_uncharged ?i_Frames_uncharged ?l_Frames_uncharged ?q_Frames_uncharged ?k_Frames_uncharged ?a_Frames_may_hold_more ?i_Frames_may_hold_more ?l_Frames_may_hold_more ?q_Frames_may_hold_more ?k_Frames_may_hold_more ?a_Frames_offered ?i_Frames_offered ?l_Frames_offered ?q_Frames_offered ?k_Frames_offered ?a_Frames_end ?i_Frames_end ?l_Frames_end ?q_Frames_end ?k_Frames_end ?a_Frames_drop ?i_Frames_drop ?l_Frames_drop ?q_Frames_drop ?k_Frames_drop ?a_Frames_narrow ?i_Frames_narrow ?l_Frames_narrow ?q_Frames_narrow ?k_Frames_narrow ?a_is_word ?l_is_word ?q_is_word ?k_is_word ?a_Frames_read ?i_Frames_read ?l_Frames_read ?q_Frames_read ?k_Frames_read ?a_Frames_write ?i_Frames_write ?l_Frames_write ?q_Frames_write ?k_Frames_write ?a_Frames_take ?i_Frames_take ?l_Frames_take ?q_Frames_take ?k_Frames_take ?a_includes ?l_includes ?q_includes ?k_includes ?a_Frames_offer ?i_Frames_offer ?l_Frames_offer ?q_Frames_offer ?k_Frames_offer ?a_Frames_accept ?i_Frames_accept ?l_Frames_accept ?q_Frames_accept ?k_Frames_accept ?a_are_shares ?l_are_shares ?q_are_shares ?k_are_shares ?a_Frames_init ?i_Frames_init ?l_Frames_init ?q_Frames_init ?k_Frames_init ?a_is_page ?l_is_page ?q_is_page ?k_is_page ?a_Pages_entry ?i_Pages_entry ?l_Pages_entry ?q_Pages_entry ?k_Pages_entry ?a_Pages_map ?i_Pages_map ?l_Pages_map ?q_Pages_map ?k_Pages_map ?a_Pages_unmap ?i_Pages_unmap ?l_Pages_unmap ?q_Pages_unmap ?k_Pages_unmap ?a_Pages_load ?i_Pages_load ?l_Pages_load ?q_Pages_load ?k_Pages_load ?a_Pages_store ?i_Pages_store ?l_Pages_store ?q_Pages_store ?k_Pages_store ?a_Pages_let_fall ?i_Pages_let_fall ?l_Pages_let_fall ?q_Pages_let_fall ?k_Pages_let_fall ?a_Pages_ended ?i_Pages_ended ?l_Pages_ended ?q_Pages_ended ?k_Pages_ended ?a_Pages_narrowed ?i_Pages_narrowed ?l_Pages_narrowed ?q_Pages_narrowed ?k_Pages_narrowed ?a_Pages_init ?i_Pages_init ?l_Pages_init ?q_Pages_init ?k_Pages_init ?a_law_drop ?l_law_drop ?q_law_drop ?k_law_drop ?a_law_narrow ?l_law_narrow ?q_law_narrow ?k_law_narrow ?a_law_book ?l_law_book ?q_law_book ?k_law_book ?a_law_map ?l_law_map ?q_law_map ?k_law_map ?a_law_load ?l_law_load ?q_law_load ?k_law_load ?a_law_store ?l_law_store ?q_law_store ?k_law_store ?a_law_shown ?l_law_shown ?q_law_shown ?k_law_shown ?a_law ?l_law ?q_law ?k_law ?z_abs ?z_all ?z_any ?z_bool ?z_int ?z_isinstance ?z_len ?z_list ?z_max ?z_range ?z_sum ?y_ENVIRONMENTS ?y_PAGES ?y_TOP ?y_WORDS ?y__LEAST_FRAMES ?y__MOST_FRAMES
    (case a_Frames => k_is)
    (case g1_Frames => k_is)
    (case g2_Frames => k_is)
    (case g3_Frames => k_is)
    (case g4_Frames => k_is)
    (case m_Frames => k_is)
    (case k_Frames => k_is)
    (case n_Frames__words => k_is)
    (case n_Frames__shares => k_is)
    (case n_Frames__rights => k_is)
    (case n_Frames__offers => k_is)
    (case n_Frames__asked => k_is)
    (case n_Frames__ends_to_wait => k_is)
    (case n_Frames__taken => k_is)
    (case a_Pages => k_is)
    (case g1_Pages => k_is)
    (case g2_Pages => k_is)
    (case g3_Pages => k_is)
    (case g4_Pages => k_is)
    (case m_Pages => k_is)
    (case k_Pages => k_is)
    (case n_Pages__frames => k_is)
    (case n_Pages__entries => k_is)
    (case a_NotValid => k_is)
    (case k_NotValid => k_is)
    (case x_NotValid => k_exc)
    (case e1_NotValid => k_is)
    (case e2_NotValid => k_is)
    (case e3_NotValid => k_is)
    (case e4_NotValid => first | rfl | k_is)
    (case a_law_next => k_is)
    (case l_law_next => k_is)
    (case q_law_next => k_is)
    (case k_law_next => k_is)
    (case a_is_at_least => k_is)
    (case l_is_at_least => k_is)
    (case q_is_at_least => k_is)
    (case k_is_at_least => k_is)
    (case a_is_between => k_is)
    (case l_is_between => k_is)
    (case q_is_between => k_is)
    (case k_is_between => k_is)
    (case a_is_index => k_is)
    (case l_is_index => k_is)
    (case q_is_index => k_is)
    (case k_is_index => k_is)
    (case a_is_environment => k_is)
    (case l_is_environment => k_is)
    (case q_is_environment => k_is)
    (case k_is_environment => k_is)
    (case a_Frames_is_frame => k_is)
    (case i_Frames_is_frame => k_is)
    (case l_Frames_is_frame => k_is)
    (case q_Frames_is_frame => k_is)
    (case k_Frames_is_frame => k_is)
    (case a_Frames_right => k_is)
    (case i_Frames_right => k_is)
    (case l_Frames_right => k_is)
    (case q_Frames_right => k_is)
    (case k_Frames_right => k_is)
    (case a_Frames_holdings => k_is)
    (case i_Frames_holdings => k_is)
    (case l_Frames_holdings => k_is)
    (case q_Frames_holdings => k_is)
    (case k_Frames_holdings => k_is)
    (case a_Frames_share => k_is)
    (case i_Frames_share => k_is)
    (case l_Frames_share => k_is)
    (case q_Frames_share => k_is)
    (case k_Frames_share => k_is)
    (case a_Frames_asked => k_is)
    (case i_Frames_asked => k_is)
    (case l_Frames_asked => k_is)
    (case q_Frames_asked => k_is)
    (case k_Frames_asked => k_is)
    (case a_Frames_charge => k_is)
    (case i_Frames_charge => k_is)
    (case l_Frames_charge => k_is)
    (case q_Frames_charge => k_is)
    (case k_Frames_charge => k_is)
    (case a_Frames_taken => k_is)
    (case i_Frames_taken => k_is)
    (case l_Frames_taken => k_is)
    (case q_Frames_taken => k_is)
    (case k_Frames_taken => k_is)
    (case a_Frames_left => k_is)
    (case i_Frames_left => k_is)
    (case l_Frames_left => k_is)
    (case q_Frames_left => k_is)
    (case k_Frames_left => k_is)
    (case a_Frames_is_held => k_is)
    (case i_Frames_is_held => k_is)
    (case l_Frames_is_held => k_is)
    (case q_Frames_is_held => k_is)
    (case k_Frames_is_held => k_is)
    (case a_Frames_free => k_is)
    (case i_Frames_free => k_is)
    (case l_Frames_free => k_is)
    (case q_Frames_free => k_is)
    (case k_Frames_free => k_is)
    (case a_Frames_uncharged => k_is)
    (case i_Frames_uncharged => k_is)
    (case l_Frames_uncharged => k_is)
    (case q_Frames_uncharged => k_is)
    (case k_Frames_uncharged => k_is)
    (case a_Frames_may_hold_more => k_is)
    (case i_Frames_may_hold_more => k_is)
    (case l_Frames_may_hold_more => k_is)
    (case q_Frames_may_hold_more => k_is)
    (case k_Frames_may_hold_more => k_is)
    (case a_Frames_offered => k_is)
    (case i_Frames_offered => k_is)
    (case l_Frames_offered => k_is)
    (case q_Frames_offered => k_is)
    (case k_Frames_offered => k_is)
    (case a_Frames_end => k_is)
    (case i_Frames_end => k_is)
    (case l_Frames_end => k_is)
    (case q_Frames_end => k_is)
    (case k_Frames_end => k_is)
    (case a_Frames_drop => k_is)
    (case i_Frames_drop => k_is)
    (case l_Frames_drop => k_is)
    (case q_Frames_drop => k_is)
    (case k_Frames_drop => k_is)
    (case a_Frames_narrow => k_is)
    (case i_Frames_narrow => k_is)
    (case l_Frames_narrow => k_is)
    (case q_Frames_narrow => k_is)
    (case k_Frames_narrow => k_is)
    (case a_is_word => k_is)
    (case l_is_word => k_is)
    (case q_is_word => k_is)
    (case k_is_word => k_is)
    (case a_Frames_read => k_is)
    (case i_Frames_read => k_is)
    (case l_Frames_read => k_is)
    (case q_Frames_read => k_is)
    (case k_Frames_read => k_is)
    (case a_Frames_write => k_is)
    (case i_Frames_write => k_is)
    (case l_Frames_write => k_is)
    (case q_Frames_write => k_is)
    (case k_Frames_write => k_is)
    (case a_Frames_take => k_is)
    (case i_Frames_take => k_is)
    (case l_Frames_take => k_is)
    (case q_Frames_take => k_is)
    (case k_Frames_take => k_is)
    (case a_includes => k_is)
    (case l_includes => k_is)
    (case q_includes => k_is)
    (case k_includes => k_is)
    (case a_Frames_offer => k_is)
    (case i_Frames_offer => k_is)
    (case l_Frames_offer => k_is)
    (case q_Frames_offer => k_is)
    (case k_Frames_offer => k_is)
    (case a_Frames_accept => k_is)
    (case i_Frames_accept => k_is)
    (case l_Frames_accept => k_is)
    (case q_Frames_accept => k_is)
    (case k_Frames_accept => k_is)
    (case a_are_shares => k_is)
    (case l_are_shares => k_is)
    (case q_are_shares => k_is)
    (case k_are_shares => k_is)
    (case a_Frames_init => k_is)
    (case i_Frames_init => k_is)
    (case l_Frames_init => k_is)
    (case q_Frames_init => k_is)
    (case k_Frames_init => k_is)
    (case a_is_page => k_is)
    (case l_is_page => k_is)
    (case q_is_page => k_is)
    (case k_is_page => k_is)
    (case a_Pages_entry => k_is)
    (case i_Pages_entry => k_is)
    (case l_Pages_entry => k_is)
    (case q_Pages_entry => k_is)
    (case k_Pages_entry => k_is)
    (case a_Pages_map => k_is)
    (case i_Pages_map => k_is)
    (case l_Pages_map => k_is)
    (case q_Pages_map => k_is)
    (case k_Pages_map => k_is)
    (case a_Pages_unmap => k_is)
    (case i_Pages_unmap => k_is)
    (case l_Pages_unmap => k_is)
    (case q_Pages_unmap => k_is)
    (case k_Pages_unmap => k_is)
    (case a_Pages_load => k_is)
    (case i_Pages_load => k_is)
    (case l_Pages_load => k_is)
    (case q_Pages_load => k_is)
    (case k_Pages_load => k_is)
    (case a_Pages_store => k_is)
    (case i_Pages_store => k_is)
    (case l_Pages_store => k_is)
    (case q_Pages_store => k_is)
    (case k_Pages_store => k_is)
    (case a_Pages_let_fall => k_is)
    (case i_Pages_let_fall => k_is)
    (case l_Pages_let_fall => k_is)
    (case q_Pages_let_fall => k_is)
    (case k_Pages_let_fall => k_is)
    (case a_Pages_ended => k_is)
    (case i_Pages_ended => k_is)
    (case l_Pages_ended => k_is)
    (case q_Pages_ended => k_is)
    (case k_Pages_ended => k_is)
    (case a_Pages_narrowed => k_is)
    (case i_Pages_narrowed => k_is)
    (case l_Pages_narrowed => k_is)
    (case q_Pages_narrowed => k_is)
    (case k_Pages_narrowed => k_is)
    (case a_Pages_init => k_is)
    (case i_Pages_init => k_is)
    (case l_Pages_init => k_is)
    (case q_Pages_init => k_is)
    (case k_Pages_init => k_is)
    (case a_law_drop => k_is)
    (case l_law_drop => k_is)
    (case q_law_drop => k_is)
    (case k_law_drop => k_is)
    (case a_law_narrow => k_is)
    (case l_law_narrow => k_is)
    (case q_law_narrow => k_is)
    (case k_law_narrow => k_is)
    (case a_law_book => k_is)
    (case l_law_book => k_is)
    (case q_law_book => k_is)
    (case k_law_book => k_is)
    (case a_law_map => k_is)
    (case l_law_map => k_is)
    (case q_law_map => k_is)
    (case k_law_map => k_is)
    (case a_law_load => k_is)
    (case l_law_load => k_is)
    (case q_law_load => k_is)
    (case k_law_load => k_is)
    (case a_law_store => k_is)
    (case l_law_store => k_is)
    (case q_law_store => k_is)
    (case k_law_store => k_is)
    (case a_law_shown => k_is)
    (case l_law_shown => k_is)
    (case q_law_shown => k_is)
    (case k_law_shown => k_is)
    (case a_law => k_is)
    (case l_law => k_is)
    (case q_law => k_is)
    (case k_law => k_is)
    (case z_abs => k_is)
    (case z_all => k_is)
    (case z_any => k_is)
    (case z_bool => k_is)
    (case z_int => k_is)
    (case z_isinstance => k_is)
    (case z_len => k_is)
    (case z_list => k_is)
    (case z_max => k_is)
    (case z_range => k_is)
    (case z_sum => k_is)
    (case y_ENVIRONMENTS => k_is)
    (case y_PAGES => k_is)
    (case y_TOP => k_is)
    (case y_WORDS => k_is)
    (case y__LEAST_FRAMES => k_is)
    (case y__MOST_FRAMES => k_is)
