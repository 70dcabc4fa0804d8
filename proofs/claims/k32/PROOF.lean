import PyProof.Rows.All
import Wide.All
import OpenK.AllK
import Wide.FinOn
import HandS.ForMost
import HandS.IsInst
import HandS.Exc
import HandS.TryOnly
import HandS.ExcOwn
import HandS.WordsExc
import HandS.RaiseMore
import HandS.Codes
import HandS.TupAny
import PyProof.NeKinds
import HandS.DictComp
import HandS.DeepEq
import HandS.TupMul
import HandS.Style
import HandS.DictTup
import PySem.Challenge.RW_steadhold_k32_frames_by_shares
import HandS.Conv
import HandS.WordsDict
import HandS.SetKeys
import HandS.SetFor
set_option Elab.async false
set_option linter.all false
set_option maxRecDepth 100000
set_option maxHeartbeats 4000000
namespace My
open PySem L2
/-! ### rules that the layer lacks -/
section
variable {X : Cx}
/-- xs[i] as the read of xs[i] op= e -/
theorem get_list : PGet X (rIxL X.K) := fun pins s0 σ H o1 o2 u1 u2 Q I r1 r2 hh => by
  obtain ⟨l, xs, n, z, e1, e2, hl, hn, q⟩ := hh
  subst e1; subst e2
  cases r1
  obtain ⟨tk, e3⟩ := r2
  subst e3
  obtain ⟨us, rel, pll, _⟩ := I.list hl
  obtain ⟨j, c1, c2, _, c4, c5⟩ := atI_get hn
  obtain ⟨u, hu, ru⟩ := rel.get c2
  have len := rel.length
  have big := line63
  have goal : EP X pins σ Q u s0 := ⟨z, H, I, ru, q⟩
  rcases Int.lt_or_le n 0 with neg | pos
  · have hj : (n + (us.toArray.size : Int)).toNat = j := by
      rw [seqIndex_neg neg c4] at c1
      have c1' := Option.some.inj c1
      simpa [← len] using c1'
    exact PySem.wpAny_getItem_list_neg pll.isList neg (by simp; omega) (by omega) (by rw [hj]; simpa using hu) goal
  · have hj : n.toNat = j := by
      rw [seqIndex_of pos c5] at c1
      exact Option.some.inj c1
    exact PySem.wpAny_getItem_list pll.isList pos (by omega) (by rw [hj]; simpa using hu) goal
/-- a module's int, text -/
theorem pe_gint {x : Str} {i : Int} {pos : Pos} (hg : Gl X x) (hm : ∃ t, X.mg x = some (.int i t)) (hd : (x == ("__debug__" : Str)) = false := by decide) : PE X (.Name x pos) (tC (.int i)) := by
  obtain ⟨t, hm⟩ := hm
  exact pe_glob hg hm ⟨t, rfl⟩ hd
theorem pe_gstr {x i : Str} {pos : Pos} (hg : Gl X x) (hm : ∃ t, X.mg x = some (.str i t)) (hd : (x == ("__debug__" : Str)) = false := by decide) : PE X (.Name x pos) (tC (.str i)) := by
  obtain ⟨t, hm⟩ := hm
  exact pe_glob hg hm ⟨t, rfl⟩ hd
end
/-! ### rules with the written part named -/
def rLen (K : PySem.W.Frag) : List V → Hp → VK → Prop := fun xs H Q => ∃ p ys, xs = [.ref p] ∧ (SqL K H p ys ∨ SqT K H p ys) ∧ Q (.int ys.length) H
def rListOf (K : PySem.W.Frag) : List V → Hp → VK → Prop := fun xs H Q => ∃ p ys, xs = [.ref p] ∧ (SqL K H p ys ∨ SqT K H p ys) ∧ ∀ l, H l = none → Q (.ref l) (upd H l (.lst ys))
def rTupOf (K : PySem.W.Frag) : List V → Hp → VK → Prop := fun xs H Q => ∃ p ys, xs = [.ref p] ∧ ((SqL K H p ys ∧ ∀ l, H l = none → Q (.ref l) (upd H l (.tup ys))) ∨ (SqT K H p ys ∧ Q (.ref p) H))
section
variable {X : Cx} (K : PySem.W.Frag)
theorem kIxL (h : X.K = K := by rfl) : IxR X (rIxL K) := by subst h; exact ix_list
theorem kIxT (h : X.K = K := by rfl) : IxR X (rIxT K) := by subst h; exact ix_tup
theorem kGetL (h : X.K = K := by rfl) : PGet X (rIxL K) := by subst h; exact get_list
theorem kSlL (h : X.K = K := by rfl) : SlR X (rSlL K) := by subst h; exact sl_list
theorem kSlT (h : X.K = K := by rfl) : SlR X (rSlA K) := by subst h; exact sl_tupA
theorem kEqD (hu : X.A.units + 64 < cLine) (h : X.K = K := by rfl) : OpR X (compareOp .Eq) (rEqD K) := by subst h; exact op_eqD hu
theorem kNeD (hu : X.A.units + 64 < cLine) (h : X.K = K := by rfl) : OpR X (compareOp .NotEq) (rNeD K) := by subst h; exact op_neD hu
theorem kIn (h : X.K = K := by rfl) : OpR X (compareOp .In) (rIn K false) := by subst h; exact op_in_seq
theorem kNotIn (h : X.K = K := by rfl) : OpR X (compareOp .NotIn) (rIn K true) := by subst h; exact op_notIn_seq
theorem kCatT (h : X.K = K := by rfl) : OpR X (binaryOp .Add) (rCatA K) := by subst h; exact op_catA
theorem kLen (h : X.K = K := by rfl) : CallR X (.builtin "len") (rLen K) := by subst h; exact call_len_seq
theorem kListOf (h : X.K = K := by rfl) : CallR X (.type "list") (rListOf K) := by subst h; exact call_list_of
theorem kTupOf (h : X.K = K := by rfl) : CallR X (.type "tuple") (rTupOf K) := by subst h; exact call_tuple_of
theorem kIsi (h : X.K = K := by rfl) : CallR X (.builtin "isinstance") (rIsi K) := by subst h; exact call_isi
theorem kAll (hc : X.calm = true) (h : X.K = K := by rfl) : CallR X (.builtin "all") (rAll K) := by subst h; exact cr_all hc
theorem kAny (hc : X.calm = true) (h : X.K = K := by rfl) : CallR X (.builtin "any") (rAny K) := by subst h; exact cr_any hc
theorem kSum (hc : X.calm = true) (h : X.K = K := by rfl) : CallR X (.builtin "sum") (rSum K) := by subst h; exact cr_sum hc
theorem kSorted (h : X.K = K := by rfl) : CallR X (.builtin "sorted") (rSorted K) := by subst h; exact cr_sorted
theorem kIndex (h : X.K = K := by rfl) : MtR X "list.index" (rIndex K) := by subst h; exact mt_index
section
variable {tg l : Expr} {tl : TE} {pos : Pos}
theorem kpiL (hl : PE X l tl) (h : X.K = K := by rfl) : PI X tg l (iList K tl) := by subst h; exact pi_list hl
theorem kpiT (hl : PE X l tl) (h : X.K = K := by rfl) : PI X tg l (iTup K tl) := by subst h; exact pi_tup hl
theorem kpgT {es : List Expr} {k : Nat} {t : TGs} {n : Nat} (hc : X.calm = true) (hh : PGs X es t)
    (hn : (assignEach es X.env).length = n := by rfl) (hst : (assignEach es X.env).findIdx? (·.1) = none := by rfl) (h : X.K = K := by rfl) : PG X (.Tuple es k pos) (gTup K n t) := by subst h; exact pg_tup hc hh hn hst
theorem kBM0 {o : Expr} {to : TE} {name : Str} {apos cpos : Pos} {T id : String} {r : V → List V → Hp → VK → Prop} (pa : PlainAttrs T) (slot : Slot T name id) (hty : typeOf (.builtin id) = pure (.type "method_descriptor")) (hm : MtR X id r) (ho : PE X o to)
    (hbase : attributeBase o name X.env (eval o X.env) = eval o X.env := by rfl) (hline : (apos.endLine == cpos.line) = true := by rfl) (h : X.K = K := by rfl) : PE X (.Call (.Attribute o name apos) [] [] cpos) (tBM0 K T r to) := by
  subst h; exact pe_bm0 pa slot hty hm ho hbase hline
theorem kBM {o e : Expr} {es : List Expr} {to : TE} {t : TA} {name : Str} {apos cpos : Pos} {T id : String} {r : V → List V → Hp → VK → Prop} (pa : PlainAttrs T) (slot : Slot T name id) (hty : typeOf (.builtin id) = pure (.type "method_descriptor")) (hm : MtR X id r) (ho : PE X o to) (ha : PA X (e :: es) t)
    (hbase : attributeBase o name X.env (eval o X.env) = eval o X.env := by rfl)
    (hfew : ((backTo cpos (starEach (e :: es) X.env)).all (fun x => !x.1) && (backToKw cpos (keywordEach [] X.env)).all (fun x => x.1.isSome)
      && decide ((e :: es).length + ([] : List Keyword).length + (if ([] : List Keyword).isEmpty then 0 else 1) < 30)) = true := by rfl)
    (hline : (apos.endLine == cpos.line) = true := by rfl) (hs : starEach (e :: es) X.env = (false, eval e X.env) :: starEach es X.env := by rfl) (hplain : (backTo cpos (starEach es X.env)).any (·.1) = false := by rfl) (h : X.K = K := by rfl) :
    PE X (.Call (.Attribute o name apos) (e :: es) [] cpos) (tBM K T r to t) := by
  subst h; exact pe_bm pa slot hty hm ho ha hbase hfew hline hs hplain
theorem kSFld {o value : Expr} {f : Str} {pos' : Pos} {ta tv : TE} (ha : PE X o ta) (hv : PE X value tv) (hs : swapsWith value (some (.Attribute o f pos')) pos.line X.env = pure false) (h : X.K = K := by rfl) : PS X (.Assign [.Attribute o f pos'] value pos) (sFld K ta tv f) := by subst h; exact ps_fld ha hv hs
theorem kSFldA {o value : Expr} {f : Str} {tpos : Pos} {ta tv : TE} {op : Operator} {rd : V → V → Hp → VK → Prop} (ha : PE X o ta) (hv : PE X value tv) (hop : InOp X op rd) (h : X.K = K := by rfl) : PS X (.AugAssign (.Attribute o f tpos) op value pos) (sFldAug K ta tv rd f) := by subst h; exact ps_fldaug ha hv hop
theorem kFld {f : Str} (he : PE X l tl) (hb : attributeBase l f X.env (eval l X.env) = eval l X.env) (h : X.K = K := by rfl) : PE X (.Attribute l f pos) (tFld K tl f) := by subst h; exact pe_fld he hb
end
end
/-! ### xs.count(y), flat items -/
theorem countP_eqU {x : V} {v : Value} (rx : RelV x v) : ∀ {xs : List V} {us : List Value}, Vals xs us → xs.all flatV = true → us.countP (eqU x) = xs.countP fun y => eqV y x
  | _, _, .nil, _ => rfl
  | y :: xs, u :: us, .cons r t, f => by
    rw [List.all_cons, Bool.and_eq_true] at f
    rw [List.countP_cons, List.countP_cons, countP_eqU rx t f.2, eqU_of r f.1]
def rCount (K : PySem.W.Frag) : V → List V → Hp → VK → Prop := fun x vs H Q => ∃ (p : Addr) (xs : List V) (y : V), x = .ref p ∧ vs = [y] ∧ SqL K H p xs ∧ flatV y = true ∧ xs.all flatV = true ∧ Q (.int (xs.countP (fun z => eqV z y) : Nat)) H
theorem kCount {X : Cx} (K : PySem.W.Frag) (h : X.K = K := by rfl) : MtR X "list.count" (rCount K) := by
  subst h
  intro pins s0 σ H x vs u us Q I r1 r2 hh
  obtain ⟨p, xs, y, rfl, rfl, hl, fy, fx, q⟩ := hh
  cases r1
  cases r2 with
  | cons ry rn =>
    cases rn
    obtain ⟨ws, rel, ⟨⟨c0, d0, dat, sl0⟩, n, ho, hc, _, hd⟩, _⟩ := I.list hl
    dsimp only at hc hd
    subst hc hd
    refine call_meets PySem.F.slot_list_count ⟨_, ho, rfl⟩ PySem.F.entry_list_count (PySem.F.args_list_count_2 _ _)
      (SeqAt.list_countAt p ws.toArray n d0 sl0 _ (eqU y)) ⟨ho, fun z hz => mem_eqAt ry fy rel fx z (by simpa using hz), ?_⟩
    refine ⟨.int (xs.countP (fun z => eqV z y) : Nat), H, I.tok _, ⟨s0.toks, ?_⟩, q⟩
    rw [← countP_eqU ry rel fx]
/-! ### a def by its name -/
section
variable {P : Program} {w : World} {K : PySem.W.Frag} {mg : Str → Option Value} {base : Heap}
structure Dfn (P : Program) (w : World) (K : PySem.W.Frag) (mg : Str → Option Value) (base : Heap) (CX : CXT) (k : Nat) (x : Str) (ps : List Str) (sp : Sp) : Prop where
  ex : ∃ f fd, FnOk P w K mg base CX k f fd ps sp ∧ mg x = some (.ref f) ∧ PySem.W.keepIn K (.ref f) = true ∧ Binds K fd ps []
theorem Dfn.imp {CX : CXT} {k : Nat} {x : Str} {ps : List Str} {sp sp' : Sp} (D : Dfn P w K mg base CX k x ps sp) (h : ∀ vs H Q E, sp' vs H Q E → sp vs H Q E) : Dfn P w K mg base CX k x ps sp' := by
  obtain ⟨f, fd, F, a, b, c⟩ := D.ex
  exact ⟨f, fd, F.imp h, a, b, c⟩
end
section
variable {X : Cx} {CX : CXT} {k : Nat} {x : Str} {ps : List Str} {sp : Sp} {E : XK} {t : TA} {e : Expr} {es : List Expr} {p pos : Pos}
theorem pe_dcall (D : Dfn X.prog X.w X.K X.mg X.base CX k x ps sp) (hr : Room k X.A) (hg : Gl X x) (hx : Passes CX X E) (ha : PA X (e :: es) t) (hdb : (x == ("__debug__" : Str)) = false := by decide)
    (he : starEach (e :: es) X.env = (false, eval e X.env) :: starEach es X.env := by rfl) (hpl : (backTo pos (starEach es X.env)).any (·.1) = false := by rfl) : PE X (.Call (.Name x p) (e :: es) [] pos) (tCall sp [] E t) := by
  obtain ⟨f, fd, F, hm, hk, hb⟩ := D.ex
  exact pe_call F hr hg hm hk hb .nil hx ha hdb he hpl
theorem pe_dcall0 (D : Dfn X.prog X.w X.K X.mg X.base CX k x ps sp) (hr : Room k X.A) (hg : Gl X x) (hx : Passes CX X E) (hdb : (x == ("__debug__" : Str)) = false := by decide) : PE X (.Call (.Name x p) [] [] pos) (tCall sp [] E tNil) := by
  obtain ⟨f, fd, F, hm, hk, hb⟩ := D.ex
  exact pe_call0 F hr hg hm hk hb .nil hx hdb
end
/-! ### own errors, objects, methods by their names -/
/-- an own error class without an __init__, over ValueError -/
structure Exn (K : PySem.W.Frag) (mg : Str → Option Value) (x : Str) (C : Addr) : Prop where
  gC : mg x = some (.ref C)
  kC : PySem.W.keepIn K (.ref C) = true
  xI : PySem.W.excIn K C [.type "ValueError", .type "Exception", .type "BaseException", .type "object"] "ValueError.__new__" = true
  bE : PySem.W.subIn K (.ref C) (.type "BaseException") = some true
  tE : PySem.W.typeIn K (.ref C) = some (.type "type")
  eE : PySem.W.exmOne K (.ref C) (.ref C) = some true
section
variable {X : Cx} {C : Addr} {x : Str} {p pos : Pos}
/-- X() of such a class -/
theorem pmk_x (N : Exn X.K X.mg x C) (hg : Gl X x) (hdb : (x == ("__debug__" : Str)) = false := by decide) : PMk X (.Call (.Name x p) [] [] pos) (fun _ H Q => Q (.ref C) none H) := fun pins s σ H Q I h => by
  refine wpAny_Call_Name_kw (ld_glob I hg N.gC ?_ hdb)
  refine PySem.W.callWith_K0 (first := []) I.kIn N.kC ?_
  obtain ⟨m1, m2, m3, m4, m5, m6, m7, m8, m9, m10, m11, r0, r1, r2, r3, r4, mN, hC, hN, hi, tl⟩ := exc_obj I.kIn N.xI
  exact wpAny_call_exc_subT PySem.F.excBase_ValueError tl hC hN hi (fun _ _ made => mk_of I made (raises_own N.bE N.tE) h (I.hok.gone made.new)) (Nat.zero_le _)
end
section
variable {P : Program} {w : World} {K : PySem.W.Frag} {mg : Str → Option Value} {base : Heap}
/-- a method of the class at C -/
structure Mth (P : Program) (w : World) (K : PySem.W.Frag) (mg : Str → Option Value) (base : Heap) (CX : CXT) (k : Nat) (C : Addr) (m : Str) (ps : List Str) (sp : Sp) : Prop where
  ex : ∃ f fd, FnOk P w K mg base CX k f fd ps sp ∧ Meth K C m f ∧ Binds K fd ps [] ∧ Cls K C
/-- the making of its instances -/
structure Mkr (P : Program) (w : World) (K : PySem.W.Frag) (mg : Str → Option Value) (base : Heap) (CX : CXT) (k : Nat) (x : Str) (C : Addr) (ps : List Str) (sp : Sp) : Prop where
  ex : ∃ f fd, Mk K C f ∧ FnOk P w K mg base CX k f fd ps sp ∧ Binds K fd ps [] ∧ mg x = some (.ref C)
end
section
variable {X : Cx} {CX : CXT} {k : Nat} {C : Addr} {m x : Str} {ps : List Str} {sp : Sp} {E : XK} {t : TA} {ta : TE} {e o : Expr} {es : List Expr} {p pos apos : Pos}
theorem pe_dmeth {pl : Sem Bool} (he : PE X o ta) (D : Mth X.prog X.w X.K X.mg X.base CX k C m ps sp) (hr : Room k X.A) (hx : Passes CX X E) (ha : PA X (e :: es) t)
    (hst : starEach (e :: es) X.env = (false, eval e X.env) :: starEach es X.env := by rfl) (hpl : (backTo pos (starEach es X.env)).any (·.1) = false := by rfl)
    (ht : eval (.Call (.Attribute o m apos) (e :: es) [] pos) X.env = (do
      let ov ← eval o X.env
      standAt apos.atName
      let (f, first) ← holding [ov] (getMethod ov m pl)
      callWith pos f first (backTo pos (starEach (e :: es) X.env)) (backToKw pos (keywordEach [] X.env))) := by rfl) :
    PE X (.Call (.Attribute o m apos) (e :: es) [] pos) (tMeth C m sp [] E ta t) := by
  obtain ⟨f, fd, F, hm, hb, c⟩ := D.ex
  exact pe_meth (pl := pl) he c hm F hr hb .nil hx ha hst hpl ht
theorem pe_dmeth0 {pl : Sem Bool} (he : PE X o ta) (D : Mth X.prog X.w X.K X.mg X.base CX k C m ps sp) (hr : Room k X.A) (hx : Passes CX X E)
    (ht : eval (.Call (.Attribute o m apos) [] [] pos) X.env = (do
      let ov ← eval o X.env
      standAt apos.atName
      let (f, first) ← holding [ov] (getMethod ov m pl)
      callWith pos f first (backTo pos (starEach [] X.env)) (backToKw pos (keywordEach [] X.env))) := by rfl) :
    PE X (.Call (.Attribute o m apos) [] [] pos) (tMeth C m sp [] E ta tNil) := by
  obtain ⟨f, fd, F, hm, hb, c⟩ := D.ex
  exact pe_meth0 (pl := pl) he c hm F hr hb .nil hx ht
theorem pe_dmake (D : Mkr X.prog X.w X.K X.mg X.base CX k x C ps sp) (hr : Room (k + 1) X.A) (hg : Gl X x) (hx : Passes CX X E) (ha : PA X (e :: es) t) (hdb : (x == ("__debug__" : Str)) = false := by decide)
    (he : starEach (e :: es) X.env = (false, eval e X.env) :: starEach es X.env := by rfl) (hpl : (backTo pos (starEach es X.env)).any (·.1) = false := by rfl) : PE X (.Call (.Name x p) (e :: es) [] pos) (tMake C sp [] E t) := by
  obtain ⟨f, fd, M, F, hb, hm⟩ := D.ex
  exact pe_make M F hr hg hm hb .nil hx ha hdb he hpl
/-- out of a try's body: what is wished at all slots -/
abbrev EA (W : WX) : XK := fun cls d H => ∀ σ, W cls d σ H
theorem passT {W : WX} (tk : Takes X W) : Passes (L2.CX X.prog X.w) X (EA W) := passes_call tk fun _ _ σ _ h => h σ
end
/-! ### heaps -/
/-- all but a is kept -/
def Chg (a : Addr) (H H' : Hp) : Prop := ∀ b o, b ≠ a → H b = some o → H' b = some o
/-- tuples never change -/
def TS (H H' : Hp) : Prop := ∀ b xs, H b = some (.tup xs) → H' b = some (.tup xs)
theorem TS.refl (H : Hp) : TS H H := fun _ _ h => h
theorem TS.trans {H H1 H2 : Hp} (a : TS H H1) (b : TS H1 H2) : TS H H2 := fun c xs h => b c xs (a c xs h)
theorem Same.ts {H H' : Hp} (s : Same H H') : TS H H' := fun b xs h => s b _ h
theorem Chg.refl (a : Addr) (H : Hp) : Chg a H H := fun _ _ _ h => h
theorem Chg.trans {a : Addr} {H H1 H2 : Hp} (x : Chg a H H1) (y : Chg a H1 H2) : Chg a H H2 := fun b o n h => y b o n (x b o n h)
theorem Same.chg {a : Addr} {H H' : Hp} (s : Same H H') : Chg a H H' := fun b o _ h => s b o h
theorem Same.new {H : Hp} {p : Addr} {o : HO} (h : H p = none) : Same H (upd H p o) := fun b u e => by
  rw [upd_ne (ne_of_none e h)]
  exact e
theorem Chg.upd {a : Addr} {H : Hp} {o : HO} : Chg a H (upd H a o) := fun b u n e => by
  rw [upd_ne n]
  exact e
theorem Chg.ts {a : Addr} {H H' : Hp} {xs : List V} (c : Chg a H H') (h : H a = some (.lst xs)) : TS H H' := fun b ys e => c b _ (ne_of e h (by intro z; cases z)) e
/-- a new object may change at will -/
theorem Same.mut {H H' : Hp} {p : Addr} {o : HO} (s : Same H H') (h : H p = none) : Same H (L2.upd H' p o) := fun b u e => by
  rw [upd_ne (ne_of_none e h)]
  exact s b u e
theorem Chg.mut {a : Addr} {H H' : Hp} {p : Addr} {o : HO} (s : Chg a H H') (h : H p = none) : Chg a H (L2.upd H' p o) := fun b u n e => by
  rw [upd_ne (ne_of_none e h)]
  exact s b u n e
/-- a word that the steps do not look into -/
@[irreducible] def Hide (p : Prop) : Prop := p
theorem hide {p : Prop} (h : p) : Hide p := by unfold Hide; exact h
theorem Hide.out {p : Prop} (h : Hide p) : p := by unfold Hide at h; exact h
/-! ### small lemmas of readings -/
theorem iteD {c : Prop} [Decidable c] {A B : Prop} (h1 : c → A) (h2 : ¬ c → B) : if decide c = true then A else B := by
  by_cases h : c
  · rw [if_pos (decide_eq_true h)]; exact h1 h
  · rw [if_neg (by rw [decide_eq_false h]; decide)]; exact h2 h
theorem iteDn {c : Prop} [Decidable c] {A B : Prop} (h1 : ¬ c → A) (h2 : c → B) : if (!decide c) = true then A else B := by
  by_cases h : c
  · rw [if_neg (by rw [decide_eq_true h]; decide)]; exact h2 h
  · rw [if_pos (by rw [decide_eq_false h]; rfl)]; exact h1 h
theorem iteB {b : Bool} {A B : Prop} (h1 : b = true → A) (h2 : b = false → B) : if b = true then A else B := by
  cases b
  · rw [if_neg Bool.false_ne_true]; exact h2 rfl
  · rw [if_pos rfl]; exact h1 rfl
theorem at0 {a : V} {l : List V} : atI (a :: l) 0 = some a := by
  rw [show (0 : Int) = ((0 : Nat) : Int) from rfl]; exact atI_nat (by rfl)
theorem atC {xs : List V} {i : Int} {v : V} (j : Nat) (e : i = (j : Int)) (h : xs[j]? = some v) : atI xs i = some v := by rw [e]; exact atI_nat h
theorem ixC {n : Nat} {i : Int} (j : Nat) (e : i = (j : Int)) (h : j < n) : ixN n i = some j := by
  subst e
  unfold ixN
  rw [if_pos (by omega), if_pos (by omega)]
  simp
theorem szl {n : Nat} (h : Nat.ble n 100 = true) : n ≤ sizeLine := Nat.le_trans (Nat.le_of_ble_eq_true h) (by decide)
theorem szn {n : Nat} (h : n ≤ 100000) : n ≤ sizeLine := Nat.le_trans h (by decide)
theorem szt {n : Nat} (h : n < 100000) : n < sizeLine := Nat.lt_of_lt_of_le h (by decide)
/-! ### data over the heap -/
mutual
inductive Dt (H : Hp) : V → PyData → Prop
  | non : Dt H .non .none
  | bl (b : Bool) : Dt H (.bl b) (.bool b)
  | int (i : Int) : Dt H (.int i) (.int i)
  | str (x : Str) : Dt H (.str x) (.str x)
  | lst {a : Addr} {xs : List V} {ds : List PyData} : H a = some (.lst xs) → DtAll H xs ds → Dt H (.ref a) (.list ds)
  | tup {a : Addr} {xs : List V} {ds : List PyData} : H a = some (.tup xs) → DtAll H xs ds → Dt H (.ref a) (.tuple ds)
inductive DtAll (H : Hp) : List V → List PyData → Prop
  | nil : DtAll H [] []
  | cons {v : V} {vs : List V} {d : PyData} {ds : List PyData} : Dt H v d → DtAll H vs ds → DtAll H (v :: vs) (d :: ds)
end
mutual
def tonly : PyData → Bool
  | .list _ => false
  | .dict _ => false
  | .tuple xs => tonlyAll xs
  | _ => true
def tonlyAll : List PyData → Bool
  | [] => true
  | x :: xs => tonly x && tonlyAll xs
end
mutual
theorem Dt.same {H H' : Hp} (s : Same H H') : ∀ {d : PyData} {v : V}, Dt H v d → Dt H' v d
  | .none, _, h => by cases h; exact .non
  | .bool b, _, h => by cases h; exact .bl b
  | .int i, _, h => by cases h; exact .int i
  | .str x, _, h => by cases h; exact .str x
  | .list ds, _, h => by
    cases h with
    | lst ha hs => exact .lst (s _ _ ha) (DtAll.same s hs)
  | .tuple ds, _, h => by
    cases h with
    | tup ha hs => exact .tup (s _ _ ha) (DtAll.same s hs)
  | .dict _, _, h => by cases h
theorem DtAll.same {H H' : Hp} (s : Same H H') : ∀ {ds : List PyData} {vs : List V}, DtAll H vs ds → DtAll H' vs ds
  | [], _, h => by cases h; exact .nil
  | d :: ds, _, h => by
    cases h with
    | cons h1 h2 => exact .cons (Dt.same s h1) (DtAll.same s h2)
end
mutual
theorem Dt.ts {H H' : Hp} (s : TS H H') : ∀ {d : PyData} {v : V}, tonly d = true → Dt H v d → Dt H' v d
  | .none, _, _, h => by cases h; exact .non
  | .bool b, _, _, h => by cases h; exact .bl b
  | .int i, _, _, h => by cases h; exact .int i
  | .str x, _, _, h => by cases h; exact .str x
  | .list ds, _, t, h => by unfold tonly at t; cases t
  | .tuple ds, _, t, h => by
    unfold tonly at t
    cases h with
    | tup ha hs => exact .tup (s _ _ ha) (DtAll.ts s t hs)
  | .dict _, _, _, h => by cases h
theorem DtAll.ts {H H' : Hp} (s : TS H H') : ∀ {ds : List PyData} {vs : List V}, tonlyAll ds = true → DtAll H vs ds → DtAll H' vs ds
  | [], _, _, h => by cases h; exact .nil
  | d :: ds, _, t, h => by
    unfold tonlyAll at t
    rw [Bool.and_eq_true] at t
    cases h with
    | cons h1 h2 => exact .cons (Dt.ts s t.1 h1) (DtAll.ts s t.2 h2)
end
mutual
theorem Dt.dp {K : PySem.W.Frag} {H : Hp} : ∀ {d : PyData} {v : V}, Dt H v d → Dp K H v d
  | .none, _, h => by cases h; exact .non
  | .bool b, _, h => by cases h; exact .bl b
  | .int i, _, h => by cases h; exact .int i
  | .str x, _, h => by cases h; exact .str x
  | .list ds, _, h => by
    cases h with
    | lst ha hs => exact .lst (SqL.of ha) (DtAll.dp hs)
  | .tuple ds, _, h => by
    cases h with
    | tup ha hs => exact .tup (SqT.of ha) (DtAll.dp hs)
  | .dict _, _, h => by cases h
theorem DtAll.dp {K : PySem.W.Frag} {H : Hp} : ∀ {ds : List PyData} {vs : List V}, DtAll H vs ds → DpAll K H vs ds
  | [], _, h => by cases h; exact .nil
  | d :: ds, _, h => by
    cases h with
    | cons h1 h2 => exact .cons (Dt.dp h1) (DtAll.dp h2)
end
theorem DtAll.len {H : Hp} : ∀ {ds : List PyData} {vs : List V}, DtAll H vs ds → vs.length = ds.length
  | [], _, h => by cases h; rfl
  | d :: ds, _, h => by
    cases h with
    | cons h1 h2 => rw [List.length_cons, List.length_cons, DtAll.len h2]
theorem DtAll.get {H : Hp} : ∀ {ds : List PyData} {vs : List V} {i : Nat} {d : PyData}, DtAll H vs ds → ds[i]? = some d → ∃ v, vs[i]? = some v ∧ Dt H v d
  | [], _, i, d, h, e => by simp at e
  | d :: ds, _, 0, d', h, e => by
    cases h with
    | cons h1 h2 => simp at e; subst e; exact ⟨_, rfl, h1⟩
  | d :: ds, _, i + 1, d', h, e => by
    cases h with
    | cons h1 h2 =>
      obtain ⟨v, a, b⟩ := DtAll.get (i := i) h2 (by simpa using e)
      exact ⟨v, by simpa using a, b⟩
theorem DtAll.getV {H : Hp} : ∀ {ds : List PyData} {vs : List V} {i : Nat} {v : V}, DtAll H vs ds → vs[i]? = some v → ∃ d, ds[i]? = some d ∧ Dt H v d
  | [], _, i, d, h, e => by cases h; simp at e
  | d :: ds, _, 0, d', h, e => by
    cases h with
    | cons h1 h2 => simp at e; subst e; exact ⟨_, rfl, h1⟩
  | d :: ds, _, i + 1, d', h, e => by
    cases h with
    | cons h1 h2 =>
      obtain ⟨v, a, b⟩ := DtAll.getV (i := i) h2 (by simpa using e)
      exact ⟨v, by simpa using a, b⟩
theorem DtAll.append {H : Hp} : ∀ {ds es : List PyData} {vs us : List V}, DtAll H vs ds → DtAll H us es → DtAll H (vs ++ us) (ds ++ es)
  | [], _, _, _, h, h' => by cases h; exact h'
  | d :: ds, _, _, _, h, h' => by
    cases h with
    | cons h1 h2 => exact .cons h1 (DtAll.append h2 h')
/-! ### data that == may look at -/
theorem lay_all : ∀ {ds : List PyData}, (∀ d ∈ ds, d.canLay0 = true) → PyData.canLayAll0 ds = true
  | [], _ => by rw [PyData.canLayAll0]
  | d :: ds, h => by
    rw [PyData.canLayAll0, h d List.mem_cons_self, lay_all fun e he => h e (List.mem_cons_of_mem _ he)]; rfl
theorem dep_all {n : Nat} : ∀ {ds : List PyData}, (∀ d ∈ ds, d.depth ≤ n) → PyData.depthAll ds ≤ n
  | [], _ => by rw [PyData.depthAll]; exact Nat.zero_le _
  | d :: ds, h => by
    rw [PyData.depthAll]
    exact Nat.max_le.mpr ⟨h d List.mem_cons_self, dep_all fun e he => h e (List.mem_cons_of_mem _ he)⟩
/-- shaped, of so little depth -/
def Sh (n : Nat) (d : PyData) : Prop := d.canLay0 = true ∧ d.depth ≤ n
theorem Sh.int (n : Nat) (i : Int) : Sh n (.int i) := ⟨by rw [PyData.canLay0], by rw [PyData.depth]; exact Nat.zero_le _⟩
theorem Sh.bool (n : Nat) (i : Bool) : Sh n (.bool i) := ⟨by rw [PyData.canLay0], by rw [PyData.depth]; exact Nat.zero_le _⟩
theorem Sh.none (n : Nat) : Sh n .none := ⟨by rw [PyData.canLay0], by rw [PyData.depth]; exact Nat.zero_le _⟩
theorem Sh.tup {n : Nat} {ds : List PyData} (h : ∀ d ∈ ds, Sh n d) : Sh (n + 1) (.tuple ds) := ⟨by rw [PyData.canLay0]; exact lay_all fun d hd => (h d hd).1, by rw [PyData.depth]; exact Nat.succ_le_succ (dep_all fun d hd => (h d hd).2)⟩
theorem Sh.lst {n : Nat} {ds : List PyData} (h : ∀ d ∈ ds, Sh n d) : Sh (n + 1) (.list ds) := ⟨by rw [PyData.canLay0]; exact lay_all fun d hd => (h d hd).1, by rw [PyData.depth]; exact Nat.succ_le_succ (dep_all fun d hd => (h d hd).2)⟩
theorem Sh.ok {n : Nat} {d : PyData} (h : Sh n d) (hn : n ≤ 64 := by decide) : SeqAt.shaped d = true := by
  unfold SeqAt.shaped
  rw [h.1, decide_eq_true (Nat.le_trans h.2 hn)]; rfl
def tyName : PyData → String
  | .none => "NoneType"
  | .bool _ => "bool"
  | .int _ => "int"
  | .str _ => "str"
  | .list _ => "list"
  | .tuple _ => "tuple"
  | .dict _ => "dict"
theorem Dt.ty {K : PySem.W.Frag} {H : Hp} : ∀ {d : PyData} {v : V}, Dt H v d → TyX K H v (.type (tyName d))
  | .none, _, h => by cases h; exact .base .non
  | .bool b, _, h => by cases h; exact .base (.bl b)
  | .int i, _, h => by cases h; exact .base (.int i)
  | .str x, _, h => by cases h; exact .base (.str x)
  | .list ds, _, h => by
    cases h with
    | lst ha hs => exact .base (.lst ha)
  | .tuple ds, _, h => by
    cases h with
    | tup ha hs => exact .base (.tup ha)
  | .dict _, _, h => by cases h
def isNoneD : PyData → Bool
  | .none => true
  | _ => false
theorem Dt.isNon {H : Hp} {d : PyData} {v : V} (h : Dt H v d) : decide (v = V.non) = isNoneD d := by
  cases h <;> rfl
def isIntD : PyData → Bool
  | .int _ => true
  | .bool _ => true
  | _ => false
def isBoolD : PyData → Bool
  | .bool _ => true
  | _ => false
def isTupD : PyData → Bool
  | .tuple _ => true
  | _ => false
def isListD : PyData → Bool
  | .list _ => true
  | _ => false
theorem kitInt : ∀ d : PyData, kitB (tyName d) "int" = some (isIntD d)
  | .none => (by decide +kernel : kitB "NoneType" "int" = some false)
  | .bool _ => (by decide +kernel : kitB "bool" "int" = some true)
  | .int _ => (by decide +kernel : kitB "int" "int" = some true)
  | .str _ => (by decide +kernel : kitB "str" "int" = some false)
  | .list _ => (by decide +kernel : kitB "list" "int" = some false)
  | .tuple _ => (by decide +kernel : kitB "tuple" "int" = some false)
  | .dict _ => (by decide +kernel : kitB "dict" "int" = some false)
theorem kitBool : ∀ d : PyData, kitB (tyName d) "bool" = some (isBoolD d)
  | .none => (by decide +kernel : kitB "NoneType" "bool" = some false)
  | .bool _ => (by decide +kernel : kitB "bool" "bool" = some true)
  | .int _ => (by decide +kernel : kitB "int" "bool" = some false)
  | .str _ => (by decide +kernel : kitB "str" "bool" = some false)
  | .list _ => (by decide +kernel : kitB "list" "bool" = some false)
  | .tuple _ => (by decide +kernel : kitB "tuple" "bool" = some false)
  | .dict _ => (by decide +kernel : kitB "dict" "bool" = some false)
theorem kitTup : ∀ d : PyData, kitB (tyName d) "tuple" = some (isTupD d)
  | .none => (by decide +kernel : kitB "NoneType" "tuple" = some false)
  | .bool _ => (by decide +kernel : kitB "bool" "tuple" = some false)
  | .int _ => (by decide +kernel : kitB "int" "tuple" = some false)
  | .str _ => (by decide +kernel : kitB "str" "tuple" = some false)
  | .list _ => (by decide +kernel : kitB "list" "tuple" = some false)
  | .tuple _ => (by decide +kernel : kitB "tuple" "tuple" = some true)
  | .dict _ => (by decide +kernel : kitB "dict" "tuple" = some false)
theorem kitList : ∀ d : PyData, kitB (tyName d) "list" = some (isListD d)
  | .none => (by decide +kernel : kitB "NoneType" "list" = some false)
  | .bool _ => (by decide +kernel : kitB "bool" "list" = some false)
  | .int _ => (by decide +kernel : kitB "int" "list" = some false)
  | .str _ => (by decide +kernel : kitB "str" "list" = some false)
  | .list _ => (by decide +kernel : kitB "list" "list" = some true)
  | .tuple _ => (by decide +kernel : kitB "tuple" "list" = some false)
  | .dict _ => (by decide +kernel : kitB "dict" "list" = some false)
theorem r_isi {K : PySem.W.Frag} {H : Hp} {v : V} {d : PyData} {T : String} {b : Bool} {Q : VK} (h : Dt H v d) (e : kitB (tyName d) T = some b) (k : Q (.bl b) H) : rIsi K [v, .ty T] H Q :=
  ⟨_, _, _, _, _, rfl, .ty _, h.ty, kit_ty e, k⟩
/-- lo ≤ i ≤ hi, of a whole number -/
def isI (d : PyData) (lo hi : Int) : Bool := match d with
  | .int i => decide (lo ≤ i) && decide (i ≤ hi)
  | _ => false
def geI (d : PyData) (lo : Int) : Bool := match d with
  | .int i => decide (lo ≤ i)
  | _ => false
def spGe : Sp := fun vs H Q _ => ∃ v d lo, vs = [v, .int lo] ∧ Dt H v d ∧ Q (.bl (geI d lo)) H
def spBtw : Sp := fun vs H Q _ => ∃ v d lo hi, vs = [v, .int lo, .int hi] ∧ Dt H v d ∧ Q (.bl (isI d lo hi)) H
def spIdx : Sp := fun vs H Q _ => ∃ v d n, vs = [v, .int n] ∧ Dt H v d ∧ Q (.bl (isI d 0 (n - 1))) H
def spWord : Sp := fun vs H Q _ => ∃ v d, vs = [v] ∧ Dt H v d ∧ Q (.bl (isI d 0 4294967295)) H
theorem Dt.new {H : Hp} {p : Addr} {xs : List V} {ds : List PyData} (h : DtAll H xs ds) (hp : H p = none) : Dt (upd H p (.tup xs)) (.ref p) (.tuple ds) := .tup upd_same (h.same (Same.new hp))
/-- t + u of data -/
theorem r_catD {K : PySem.W.Frag} {H : Hp} {v u : V} {ds es : List PyData} {Q : VK} (h1 : Dt H v (.tuple ds)) (h2 : Dt H u (.tuple es)) (hz : ds.length + es.length ≤ 100000) (k : ∀ v' H', Same H H' → Dt H' v' (.tuple (ds ++ es)) → Q v' H') : rCatA K v u H Q := by
  cases h1 with
  | @tup a xs _ ha hs =>
    cases h2 with
    | @tup b ys _ hb ht =>
      refine ⟨a, b, xs, ys, rfl, rfl, SqT.of ha, SqT.of hb, szn (by rw [hs.len, ht.len]; exact hz), fun e => ?_, fun _ e => ?_, fun _ _ p hp => ?_⟩
      · subst e
        have : ds = [] := List.length_eq_zero_iff.mp (by rw [← hs.len]; rfl)
        subst this
        exact k _ _ (Same.refl H) (.tup hb ht)
      · subst e
        have : es = [] := List.length_eq_zero_iff.mp (by rw [← ht.len]; rfl)
        subst this
        rw [List.append_nil] at k
        exact k _ _ (Same.refl H) (.tup ha hs)
      · exact k _ _ (Same.new hp) (Dt.new (hs.append ht) hp)
/-! ### comprehensions whose elements change nothing that stood -/
theorem take_snoc {α : Type} {l : List α} {i : Nat} {y : α} (h : l[i]? = some y) : l.take i ++ [y] = l.take (i + 1) := by
  rw [List.take_add_one, h]; rfl
section
variable {K : PySem.W.Frag} {g : TG} {te : TE} {vs : List Nat} {σ : L2.St} {H : Hp} {D : Addr} {Qd : Hp → Prop}
/-- over a tuple: ys are the elements -/
theorem lcT {a : Addr} {xs : List V} (ys : List V) (hl : ys.length = xs.length) (hz : xs.length < 100000) (hx : H a = some (.tup xs)) (hD : H D = none)
    (step : ∀ (j : Nat) (x y : V) (H1 : Hp) (Q' : VK), xs[j]? = some x → ys[j]? = some y → Same H H1 → (∀ H2, Same H1 H2 → Q' y H2) → g x (wipe σ vs) H1 fun σ2 H2 => wipe σ2 vs = wipe σ vs ∧ te σ2 H2 Q')
    (k : ∀ H1, Same H H1 → H1 D = some (.lst ys) → Qd H1) :
    ∃ W : Nat → Nat → Hp → Prop, (∃ m, W 0 m (upd H D (.lst []))) ∧ ∀ i m H, W i m H →
      ((Itt K a).stop i H ∧ Qd H) ∨ ((Itt K a).go i H ∧ ∃ Nx : Hp → Prop, (∀ H', Nx H' → ∃ m', m' < m ∧ W (i + 1) m' H') ∧ ∀ x H', (Itt K a).yld i H x H' → g x (wipe σ vs) H' fun σ2 H2 => wipe σ2 vs = wipe σ vs ∧ tYes σ2 H2 fun b H3 =>
        if b = true then te σ2 H3 fun y H4 => ∃ acc, H4 D = some (.lst acc) ∧ acc.length < sizeLine ∧ Nx (upd H4 D (.lst (acc ++ [y]))) else Nx H3) := by
  refine lc_tup (K := K) (xs := xs) (fun i H1 => Same H H1 ∧ H1 D = some (.lst (ys.take i))) ⟨Same.new hD, upd_same⟩ (fun i H1 _ h => SqT.of (h.1 _ _ hx)) ?_ ?_
  · rintro i x H1 hi ⟨s1, d1⟩
    have hil : i < xs.length := (List.getElem?_eq_some_iff.mp hi).1
    have hy : ys[i]? = some ys[i] := List.getElem?_eq_getElem (by omega)
    refine step i x _ H1 _ hi hy s1 fun H2 s2 => ?_
    refine ⟨_, s2 _ _ d1, ?_, Same.mut (s1.trans s2) hD, ?_⟩
    · rw [List.length_take]
      exact Nat.lt_of_lt_of_le (Nat.lt_of_le_of_lt (Nat.min_le_right _ _) (by omega : ys.length < 100000)) (by decide)
    · rw [take_snoc hy]; exact upd_same
  · rintro H1 ⟨s1, d1⟩
    rw [List.take_of_length_le (by omega)] at d1
    exact k H1 s1 d1
/-- over a list: ys are the elements -/
theorem lcL {a : Addr} {xs : List V} (ys : List V) (hl : ys.length = xs.length) (hz : xs.length < 100000) (hx : H a = some (.lst xs)) (hD : H D = none)
    (step : ∀ (j : Nat) (x y : V) (H1 : Hp) (Q' : VK), xs[j]? = some x → ys[j]? = some y → Same H H1 → (∀ H2, Same H1 H2 → Q' y H2) → g x (wipe σ vs) H1 fun σ2 H2 => wipe σ2 vs = wipe σ vs ∧ te σ2 H2 Q')
    (k : ∀ H1, Same H H1 → H1 D = some (.lst ys) → Qd H1) :
    ∃ W : Nat → Nat → Hp → Prop, (∃ m, W 0 m (upd H D (.lst []))) ∧ ∀ i m H, W i m H →
      ((Itl K a).stop i H ∧ Qd H) ∨ ((Itl K a).go i H ∧ ∃ Nx : Hp → Prop, (∀ H', Nx H' → ∃ m', m' < m ∧ W (i + 1) m' H') ∧ ∀ x H', (Itl K a).yld i H x H' → g x (wipe σ vs) H' fun σ2 H2 => wipe σ2 vs = wipe σ vs ∧ tYes σ2 H2 fun b H3 =>
        if b = true then te σ2 H3 fun y H4 => ∃ acc, H4 D = some (.lst acc) ∧ acc.length < sizeLine ∧ Nx (upd H4 D (.lst (acc ++ [y]))) else Nx H3) := by
  refine lc_list (K := K) (xs := xs) (fun i H1 => Same H H1 ∧ H1 D = some (.lst (ys.take i))) ⟨Same.new hD, upd_same⟩ (fun i H1 _ h => SqL.of (h.1 _ _ hx)) ?_ ?_
  · rintro i x H1 hi ⟨s1, d1⟩
    have hil : i < xs.length := (List.getElem?_eq_some_iff.mp hi).1
    have hy : ys[i]? = some ys[i] := List.getElem?_eq_getElem (by omega)
    refine step i x _ H1 _ hi hy s1 fun H2 s2 => ?_
    refine ⟨_, s2 _ _ d1, ?_, Same.mut (s1.trans s2) hD, ?_⟩
    · rw [List.length_take]
      exact Nat.lt_of_lt_of_le (Nat.lt_of_le_of_lt (Nat.min_le_right _ _) (by omega : ys.length < 100000)) (by decide)
    · rw [take_snoc hy]; exact upd_same
  · rintro H1 ⟨s1, d1⟩
    rw [List.take_of_length_le (by omega)] at d1
    exact k H1 s1 d1
theorem lcR {lo : Int} {n : Nat} (ys : List V) (hl : ys.length = n) (hz : n < 100000) (hD : H D = none)
    (step : ∀ (j : Nat) (y : V) (H1 : Hp) (Q' : VK), ys[j]? = some y → Same H H1 → (∀ H2, Same H1 H2 → Q' y H2) → g (.int (lo + j)) (wipe σ vs) H1 fun σ2 H2 => wipe σ2 vs = wipe σ vs ∧ te σ2 H2 Q')
    (k : ∀ H1, Same H H1 → H1 D = some (.lst ys) → Qd H1) :
    ∃ W : Nat → Nat → Hp → Prop, (∃ m, W 0 m (upd H D (.lst []))) ∧ ∀ i m H, W i m H →
      ((Itr lo n).stop i H ∧ Qd H) ∨ ((Itr lo n).go i H ∧ ∃ Nx : Hp → Prop, (∀ H', Nx H' → ∃ m', m' < m ∧ W (i + 1) m' H') ∧ ∀ x H', (Itr lo n).yld i H x H' → g x (wipe σ vs) H' fun σ2 H2 => wipe σ2 vs = wipe σ vs ∧ tYes σ2 H2 fun b H3 =>
        if b = true then te σ2 H3 fun y H4 => ∃ acc, H4 D = some (.lst acc) ∧ acc.length < sizeLine ∧ Nx (upd H4 D (.lst (acc ++ [y]))) else Nx H3) := by
  refine lc_range (fun i H1 => Same H H1 ∧ H1 D = some (.lst (ys.take i))) ⟨Same.new hD, upd_same⟩ ?_ ?_
  · rintro i H1 hi ⟨s1, d1⟩
    have hy : ys[i]? = some ys[i] := List.getElem?_eq_getElem (by omega)
    refine step i _ H1 _ hy s1 fun H2 s2 => ?_
    refine ⟨_, s2 _ _ d1, ?_, Same.mut (s1.trans s2) hD, ?_⟩
    · rw [List.length_take]
      exact Nat.lt_of_lt_of_le (Nat.lt_of_le_of_lt (Nat.min_le_right _ _) (by omega : ys.length < 100000)) (by decide)
    · rw [take_snoc hy]; exact upd_same
  · rintro H1 ⟨s1, d1⟩
    rw [List.take_of_length_le (by omega)] at d1
    exact k H1 s1 d1
end
end My

namespace My
open PySem L2
theorem units1 {k : Nat} {A : Around} (r : Room k A) : A.units + 1 < cLine := by have := r.un; omega
theorem units71 {k : Nat} {A : Around} (r : Room k A) : A.units + 71 < cLine := by have := r.un; omega
/-! ### d.update(e) -/
def rUpd : V → List V → Hp → VK → Prop := fun x xs H Q => ∃ (a b : Addr) (kvs more : List (Key × V)), x = .ref a ∧ xs = [.ref b] ∧ a ≠ b ∧ H a = some (.dK kvs) ∧ H b = some (.dK more) ∧ kvs.length + more.length ≤ sizeLine ∧ Q .non (upd H a (.dK (mergeK kvs more)))
open PySem.Spec PyProof.Rows in
theorem mt_update {X : Cx} : MtR X "dict.update" rUpd := by
  intro pins s σ H x xs v us Q I rx rxs h
  obtain ⟨a, b, kvs, more, rfl, rfl, hab, ha, hb, hz, q⟩ := h
  cases rx
  obtain ⟨u, rfl, ru⟩ := rxs.one
  cases ru
  obtain ⟨z, hd, vs, rel, dd⟩ := dk_of I.hok ha
  obtain ⟨z2, hd2, vs2, rel2, dd2⟩ := dk_of I.hok hb
  refine call_meetsIn PySem.F.slot_dict_update dd.typeIs PySem.F.entry_dict_update (PySem.F.args_dict_update_2 _ _) (meets_dict_update (mixKind X.prog X.w) a b hab hd2) ⟨vs, vs2, dd, dd2, by rw [← rel.length, ← rel2.length]; exact hz, fun h' dd' _ hs => ?_⟩
  have he : ∃ q, h'.get? a = some q := let ⟨q, _, _, hq, _⟩ := dd'; ⟨q, hq⟩
  exact ⟨.non, _, d_write (t' := s.toks) I (by rw [ha]; exact True.intro) hs he (dk_new (Nat.le_trans (length_mergeK _ _) hz) hd (KV.merge rel2 rel) dd'), rfl, q⟩
/-! ### != of tuples within one model -/
section
open PySem.Spec PyProof.Rows PySem.SeqAt
open AutoSeq1 (wpAny_loadPart')
open MeetsSeq MeetsSeq2 MeetsSeq3
variable {prog : Program} {w : World}
theorem tuple_neP (l b : Addr) (items items2 : Array Value) (n n2 : Nat) (dd dd2 : Option Addr) (sl sl2 : Array (Option Value)) (e : Nat → Bool) :
    MeetsIn prog w (Builtin.«tuple.__ne__» ⟨[.ref l, .ref b], []⟩)
      (fun A R s => s.heap.get? l = some { cls := .type "tuple", dict := dd, data := .seq items n, slots := sl } ∧ s.heap.get? b = some { cls := .type "tuple", dict := dd2, data := .seq items2 n2, slots := sl2 } ∧
        (∀ j (h1 : j < items.size) (h2 : j < items2.size), EqP prog w A.in1 s items[j] items2[j] (e j)) ∧
        R (.ok (.ret (.bool (!((List.range (min items.size items2.size)).all e && items.size == items2.size))))) s) :=
  .of_wp fun A R s h => by
    obtain ⟨hp, g, d, tk, os⟩ := s; obtain ⟨hl, hb, he, h⟩ := h
    have f2 := AutoSeq1.sub_tuple_tuple
    have hZ : (items.toList.zip items2.toList).length = min items.size items2.size := by simp
    wp_walk using wpAny_loadPart' hl, wpAny_loadPart' hb, wpAny_forIn_list _ (fun rest b s' => b.1 = none ∧ s' = ⟨hp, g, d, tk, os⟩ ∧ ∃ i, rest = (items.toList.zip items2.toList).drop i ∧
      R (.ok (.ret (.bool (!(((List.range (min items.size items2.size)).drop i).all e && items.size == items2.size))))) ⟨hp, g, d, tk, os⟩) _
    case turn =>
      rintro ⟨y, x⟩ rest b s' ⟨hb', rfl, i, hz, hR⟩
      have hlt : i < (items.toList.zip items2.toList).length := by
        rcases Nat.lt_or_ge i (items.toList.zip items2.toList).length with h' | h'
        · exact h'
        · rw [List.drop_of_length_le h'] at hz; cases hz
      have hm : i < min items.size items2.size := hZ ▸ hlt
      have h1 : i < items.size := Nat.lt_of_lt_of_le hm (Nat.min_le_left _ _)
      have h2 : i < items2.size := Nat.lt_of_lt_of_le hm (Nat.min_le_right _ _)
      rw [List.drop_eq_getElem_cons hlt] at hz
      injection hz with hyx hrest
      have hy : y = items[i] := by have := congrArg Prod.fst hyx; simpa using this
      have hx : x = items2[i] := by have := congrArg Prod.snd hyx; simpa using this
      subst hy hx
      have hd : (List.range (min items.size items2.size)).drop i = i :: (List.range (min items.size items2.size)).drop (i + 1) := by simp [List.drop_eq_getElem_cons, hm]
      rw [hd, List.all_cons] at hR
      refine wpAny_bind (he i h1 h2 _ _ ?_)
      cases hy : e i with
      | true =>
        rw [hy] at hR
        wp_walk
        exact ⟨rfl, rfl, i + 1, hrest, by simpa using hR⟩
      | false =>
        rw [hy] at hR
        wp_walk
        exact ⟨_, rfl, by simpa using hR⟩
    case fin =>
      rintro ⟨b1, b2⟩ s' ⟨hb', rfl, i, hz, hR⟩
      simp only at hb'
      subst hb'
      have hge : min items.size items2.size ≤ i := by
        rcases Nat.lt_or_ge i (items.toList.zip items2.toList).length with h' | h'
        · rw [List.drop_eq_getElem_cons h'] at hz; cases hz
        · exact hZ ▸ h'
      rw [List.drop_of_length_le (by simpa using hge)] at hR
      wp_walk
      exact ⟨_, rfl, by simpa [Builtin.Tuple.tupleCompareSizes, bne] using hR⟩
    case h =>
      exact ⟨rfl, rfl, 0, rfl, by simpa using h⟩
theorem rcnP_tuples {A : Around} {s : Shared} {l b : Addr} {items items2 : Array Value} {e : Nat → Bool} (hl : s.heap.IsTuple l items) (hb : s.heap.IsTuple b items2) (hu : A.units < cLine)
    (he : ∀ j (h1 : j < items.size) (h2 : j < items2.size), EqP prog w A.in1 s items[j] items2[j] (e j)) (E Q : Value → Shared → Prop) (h : Q (.bool (!((List.range (min items.size items2.size)).all e && items.size == items2.size))) s) :
    wpAny (model prog w) A (richCompare .NotEq (.ref l) (.ref b)) Q E s := by
  obtain ⟨⟨cls, dd, data, sl⟩, ho, hc, n, hd⟩ := id hl
  obtain ⟨⟨cls2, dd2, data2, sl2⟩, ho2, hc2, n2, hd2⟩ := id hb
  simp only at hc hd hc2 hd2
  subst hc hd hc2 hd2
  have ta : s.TypeIs (.ref l) "tuple" := ⟨_, ho, rfl⟩
  have tb : s.TypeIs (.ref b) "tuple" := ⟨_, ho2, rfl⟩
  exact wpAny_richCompare_same_room (op := .NotEq) ta tb F.slot_tuple_ne (call_meetsIn F.slot_tuple_ne ta F.entry_tuple_ne (F.args_tuple_ne_2 _ _) (tuple_neP l b items items2 n n2 dd dd2 sl sl2 e)
    ⟨ho, ho2, he, (show Value.bool (!((List.range (min items.size items2.size)).all e && items.size == items2.size)) ≠ Value.notImplemented ∧ Q (.bool (!((List.range (min items.size items2.size)).all e && items.size == items2.size))) s from ⟨(fun x => nomatch x), h⟩)⟩) hu
end
/-- the same data -/
def LfV (K : PySem.W.Frag) (H : Hp) (x y : V) : Prop := ∃ d, Dp K H x d ∧ Dp K H y d ∧ SeqAt.shaped d = true
/-- lists of dicts with the same data -/
def FoV (K : PySem.W.Frag) (H : Hp) (x y : V) : Prop := EqR K H (EqR K H (LfV K H)) x y
section
variable {X : Cx} {pins : List (Addr × Obj)} {σ : L2.St} {H : Hp} {s : Shared}
theorem lf_run (I : Inv X pins σ H s) {A : Around} (hu : A.units + 64 < cLine) {x y : V} {v u : Value} (h : LfV X.K H x y) (rx : RelV x v) (ry : RelV y u) : SeqAt.EqP X.prog X.w A s v u true := by
  obtain ⟨d, h1, h2, hs⟩ := h
  obtain ⟨as, r1⟩ := Dp.reads I d x v h1 rx
  obtain ⟨bs, r2⟩ := Dp.reads I d y u h2 ry
  have z := SeqAt.eqAt_reads d d A s v u as bs r1 r2 (SeqAt.canLay_of_shaped hs) (SeqAt.canLay_of_shaped hs) (SeqAt.room_of_shaped hs hu)
  rw [SeqAt.eqv_refl _ (SeqAt.canLay_of_shaped hs)] at z
  exact z.eqP
theorem eqR_P (I : Inv X pins σ H s) {A : Around} {F : V → V → Prop} (hu : A.units < cLine) (ih : ∀ x y v u, F x y → RelV x v → RelV y u → SeqAt.EqP X.prog X.w A.in1 s v u true) {x y : V} {v u : Value} (h : EqR X.K H F x y) (rx : RelV x v) (ry : RelV y u) : SeqAt.EqP X.prog X.w A s v u true := by
  have step := eqR_run I hu ih h rx ry
  obtain ⟨a, b, rfl, rfl⟩ : ∃ a b, x = .ref a ∧ y = .ref b := by
    rcases h with ⟨a, b, _, _, e1, e2, _⟩ | ⟨a, b, _, _, e1, e2, _⟩
    · exact ⟨a, b, e1, e2⟩
    · exact ⟨a, b, e1, e2⟩
  cases (show v = Value.ref a from rx)
  cases (show u = Value.ref b from ry)
  by_cases e : a = b
  · subst e
    exact (SeqAt.EqAt.same _).eqP
  · exact SeqAt.eqP_refs e step
end
def rNeF (K : PySem.W.Frag) : R2 := fun x y H Q => ((∃ d, Dp K H x d ∧ Dp K H y d ∧ SeqAt.shaped d = true) ∨ ∃ a b z u v, x = .ref a ∧ y = .ref b ∧ SqT K H a [.str z, u] ∧ SqT K H b [.str z, v] ∧ FoV K H u v) ∧ Q (.bl false) H
open PySem.Spec PyProof.Rows in
theorem op_neF {X : Cx} (hu : X.A.units + 71 < cLine) : OpR X (compareOp .NotEq) (rNeF X.K) := by
  intro pins s σ H x y v u Q I rx ry h
  obtain ⟨⟨d, h1, h2, hs⟩ | ⟨a, b, z, v1, v2, rfl, rfl, ha, hb, hf⟩, q⟩ := h
  · obtain ⟨as, r1⟩ := Dp.reads I d x v h1 rx
    obtain ⟨bs, r2⟩ := Dp.reads I d y u h2 ry
    refine SeqAt.compareNe_shaped r1 r2 hs hs (by omega) ⟨.bl _, H, I, rfl, ?_⟩
    rw [SeqAt.eqv_refl _ (SeqAt.canLay_of_shaped hs)]
    exact q
  · cases (show v = Value.ref a from rx)
    cases (show u = Value.ref b from ry)
    obtain ⟨us, r1, p1, _⟩ := I.tuple ha
    obtain ⟨ws, r2, p2, _⟩ := I.tuple hb
    refine rcnP_tuples (e := fun _ => true) (show s.heap.IsTuple a us.toArray from p1) (show s.heap.IsTuple b ws.toArray from p2) (by omega) (fun j j1 j2 => ?_) _ _ ?_
    · cases r1 with
      | cons a1 r1 => cases r1 with
        | cons a2 r1 => cases r1; cases r2 with
          | cons b1 r2 => cases r2 with
            | cons b2 r2 =>
              cases r2
              match j, j1, j2 with
              | 0, _, _ => exact (eqAt_same (v := V.str z) a1 b1 rfl).eqP
              | 1, _, _ =>
                exact eqR_P I (A := X.A.in1) (by show X.A.units + 1 < cLine; omega) (fun x y v u h rx ry => eqR_P I (A := X.A.in1.in1) (by show X.A.units + 1 + 1 < cLine; omega) (fun x y v u h rx ry => lf_run I (by show X.A.units + 1 + 1 + 1 + 64 < cLine; omega) h rx ry) h rx ry) hf a2 b2
              | n + 2, j1, _ => exact absurd j1 (by simp)
    · have e1 : us.length = 2 := by rw [← r1.length]; rfl
      have e2 : ws.length = 2 := by rw [← r2.length]; rfl
      have e3 : (!((List.range (min us.toArray.size ws.toArray.size)).all (fun _ => true) && us.toArray.size == ws.toArray.size)) = false := by simp [e1, e2]
      rw [e3]
      exact ⟨.bl false, H, I, rfl, q⟩
theorem kNeF {X : Cx} (K : PySem.W.Frag) (hu : X.A.units + 71 < cLine) (h : X.K = K := by rfl) : OpR X (compareOp .NotEq) (rNeF K) := by subst h; exact op_neF hu
/-! ### many dicts locked -/
abbrev AK := Addr × List (Key × V)
def lockAll : Hp → List AK → List Obj → Hp
  | H, (d, kvs) :: ds, od :: ods => lockAll (upd H d (.frz od (.dK kvs))) ds ods
  | H, _, _ => H
def freeAll : Hp → List AK → Hp
  | H, [] => H
  | H, (d, kvs) :: ds => freeAll (upd H d (.dK kvs)) ds
theorem lockAll_other : ∀ {ds : List AK} {ods : List Obj} {H : Hp} {b : Addr}, b ∉ ds.map (·.1) → lockAll H ds ods b = H b
  | [], _, _, _, _ => rfl
  | (d, kvs) :: ds, [], _, _, _ => rfl
  | (d, kvs) :: ds, od :: ods, H, b, h => by
    rw [List.map_cons, List.mem_cons, not_or] at h
    show lockAll (upd H d _) ds ods b = _
    rw [lockAll_other h.2, upd_ne h.1]
theorem lockAll_at : ∀ {ds : List AK} {ods : List Obj} {H : Hp}, (ds.map (·.1)).Nodup → ods.length = ds.length → ∀ p ∈ ds, ∃ od, lockAll H ds ods p.1 = some (.frz od (.dK p.2))
  | [], _, _, _, _, p, h => by cases h
  | (d, kvs) :: ds, [], _, _, hl, _, _ => by cases hl
  | (d, kvs) :: ds, od :: ods, H, nd, hl, p, h => by
    rw [List.map_cons, List.nodup_cons] at nd
    rcases List.mem_cons.mp h with rfl | h
    · exact ⟨od, by show lockAll (upd H d _) ds ods d = _; rw [lockAll_other nd.1, upd_same]⟩
    · exact lockAll_at nd.2 (by simpa using hl) p h
theorem freeAll_other : ∀ {ds : List AK} {H : Hp} {b : Addr}, b ∉ ds.map (·.1) → freeAll H ds b = H b
  | [], _, _, _ => rfl
  | (d, kvs) :: ds, H, b, h => by
    rw [List.map_cons, List.mem_cons, not_or] at h
    show freeAll (upd H d _) ds b = _
    rw [freeAll_other h.2, upd_ne h.1]
section
variable {X : Cx} {pins : List (Addr × Obj)} {σ : L2.St} {s : Shared}
theorem inv_lockAll : ∀ {ds : List AK} {H : Hp}, Inv X pins σ H s → (ds.map (·.1)).Nodup → (∀ p ∈ ds, H p.1 = some (.dK p.2)) → ∃ ods : List Obj, ods.length = ds.length ∧ Inv X pins σ (lockAll H ds ods) s
  | [], H, I, _, _ => ⟨[], rfl, I⟩
  | (d, kvs) :: ds, H, I, nd, h => by
    rw [List.map_cons, List.nodup_cons] at nd
    obtain ⟨od, I1⟩ := I.lock (h _ List.mem_cons_self) (by exact True.intro)
    obtain ⟨ods, hl, I2⟩ := inv_lockAll (ds := ds) I1 nd.2 fun p hp => by
      rw [upd_ne (fun e => nd.1 (List.mem_map.mpr ⟨p, hp, e⟩))]
      exact h p (List.mem_cons_of_mem _ hp)
    exact ⟨od :: ods, by rw [List.length_cons, hl, List.length_cons], I2⟩
theorem inv_freeAll : ∀ {ds : List AK} {H : Hp}, Inv X pins σ H s → (ds.map (·.1)).Nodup → (∀ p ∈ ds, (∀ o' u', X.H_0 p.1 ≠ some (.frz o' u')) ∧ ∃ od, H p.1 = some (.frz od (.dK p.2))) → Inv X pins σ (freeAll H ds) s
  | [], H, I, _, _ => I
  | (d, kvs) :: ds, H, I, nd, h => by
    rw [List.map_cons, List.nodup_cons] at nd
    obtain ⟨n, od, e⟩ := h _ List.mem_cons_self
    refine inv_freeAll (ds := ds) (I.unlock e n) nd.2 fun p hp => ?_
    obtain ⟨n', od', e'⟩ := h p (List.mem_cons_of_mem _ hp)
    exact ⟨n', od', by rw [upd_ne (fun e => nd.1 (List.mem_map.mpr ⟨p, hp, e⟩))]; exact e'⟩
end
def iListL (K : PySem.W.Frag) (tl : TE) : TI := fun σ H R => tl σ H fun x H1 => ∃ (a : Addr) (ds : List AK), x = .ref a ∧ SqL K H1 a (ds.map fun p => V.ref p.1) ∧ a ∉ ds.map (·.1) ∧ (ds.map (·.1)).Nodup ∧ (∀ p ∈ ds, H1 p.1 = some (.dK p.2)) ∧ ∀ ods : List Obj, ods.length = ds.length → R (Itl K a) (lockAll H1 ds ods)
theorem pi_listL {X : Cx} {tg l : Expr} {tl : TE} (hl : PE X l tl) : PI X tg l (iListL X.K tl) := by
  refine ⟨fun pins s σ H R I h => ?_⟩
  refine thn (hl.run pins s σ H _ I h) fun v s1 ⟨x, H1, I1, r1, q1⟩ => ?_
  obtain ⟨a, ds, e, hq, ha, nd, hds, q⟩ := q1
  subst e
  cases r1
  obtain ⟨its, rv, p, hz⟩ := I1.list hq
  obtain ⟨ods, ol, I2⟩ := inv_lockAll I1 nd hds
  refine wpAny_pyIter_list p.isList ?_
  refine ⟨s1.heap.objs.size, [s1.heap.objs.size], _, _, lockAll H1 ds ods, rfl, I2.kept (t' := s1.toks) fun b o e => Heap.get?_push_of_some _ e, turn_list a _, ⟨_, Heap.get?_push_size _ rfl, rfl, rfl⟩, fun b hb => ?_, q ods ol⟩
  have e : b = s1.heap.objs.size := by simpa using hb
  subst e
  exact I2.fpOk (Nat.le_refl _) (I2.hok.fresh (Nat.le_refl _))
theorem kpiLL {X : Cx} {tg l : Expr} {tl : TE} (K : PySem.W.Frag) (hl : PE X l tl) (h : X.K = K := by rfl) : PI X tg l (iListL K tl) := by subst h; exact pi_listL hl
def tUnl (t : TE) : TE := fun σ H Q => t σ H fun v H' => ∃ ds : List AK, (ds.map (·.1)).Nodup ∧ (∀ p ∈ ds, H p.1 = none ∧ ∃ od, H' p.1 = some (.frz od (.dK p.2))) ∧ Q v (freeAll H' ds)
theorem pe_unl {X : Cx} {e : Expr} {t : TE} (h : PE X e t) : PE X e (tUnl t) := by
  refine ⟨fun pins s σ H Q I hw => ?_⟩
  refine thn (h.run pins s σ _ _ I hw) fun v s1 ⟨x, H1, I2, r, ds, nd, hds, q⟩ => ?_
  refine ⟨x, _, inv_freeAll I2 nd fun p hp => ⟨fun o' u' e => ?_, (hds p hp).2⟩, r, q⟩
  have z := I.base.frzs p.1 o' u' e
  rw [(hds p hp).1] at z
  cases z
end My

/-! d.pop(k), k a tuple that is there -/
namespace My
section
open PySem PySem.W PySem.Calls PyProof.Rows PyProof.V PySem.Spec DT
section
variable {prog : Program} {w : World} {K : Type} [DecidableEq K] {knd : HeapKind prog w K}
theorem my_meetsPop1 {d b : Addr} {k : K} (hd : (d == sysModules) = false) :
    MeetsIn prog w (Builtin.«dict.pop» ⟨[.ref d, .ref b], []⟩) (fun A R s => ∃ xs p, knd.room A.in1 ∧ knd.is s.heap k b ∧ s.heap.DictOfH knd d xs ∧ xs.length ≤ sizeLine ∧ atKey xs k = some p ∧
      ∀ h' tk, h'.DictOfH knd d (DT.dropH xs k) → Heap.SameBut d s.heap h' → R (.ok (.ret p.2)) { s with heap := h', toks := tk }) :=
  .of_wp fun A R s ⟨xs, p, hu, hkey, hm, hsz, hat, hsome⟩ => by
    obtain ⟨o, es, ep, ho, hc, hdat, he, his, hn⟩ := id hm
    have hes : es.size = xs.length := size_of_entries he
    have hpart : (keyPart (Value.ref b)).isSome = false := rfl
    unfold Builtin.«dict.pop»
    refine wpAny_bind ?_
    unfold Builtin.Dict.keyAndDefault
    refine wpAny_bind (wpAny_notOrdered_dict hm.typeIs ?_)
    show wpAny _ _ (pure (d, Value.ref b, none)) _ _ s
    refine wpAny_pure ?_
    simp only [hpart, Bool.false_eq_true, if_false]
    refine wpAny_bind (wpAny_dictEntries ho hdat (wpAny_bind (wpAny_pure ?_)))
    cases hem : es.isEmpty with
    | true =>
      have h0 : xs = [] := by
        have z : es.size = 0 := by simpa using hem
        exact List.length_eq_zero_iff.mp (by omega)
      rw [h0] at hat
      cases hat
    | false =>
      simp only [Bool.false_eq_true, if_false]
      refine wpAny_bind (DT.takeH hu hkey hm hsz (fun hno => ?_) fun p' e hp hev h' hm' hs' => ?_)
      · rw [hat] at hno; cases hno
      · rw [hat] at hp
        cases hp
        simp only [Option.isNone_some, Bool.false_eq_true, if_false]
        exact wpAny_bind (wpAny_letGo (wpAny_pure ⟨e.val, rfl, by rw [hev]; exact hsome h' _ hm' hs'⟩))
end
end
end My
namespace My
open PySem L2
def rPopT1 : V → List V → Hp → VK → Prop := fun x xs H Q => ∃ (a : Addr) (kvs : List (List L2.Key × V)) (k : List L2.Key) (b : Addr) (v : V), x = .ref a ∧ xs = [.ref b] ∧ H a = some (.dT kvs) ∧ H b = some (.tup (k.map kV)) ∧ valV kvs k = some v ∧ Q v (upd H a (.dT (dropK kvs k)))
open PySem.Spec PyProof.Rows in
theorem mt_popT1 {X : Cx} (hu : X.A.units + 1 < cLine) : MtR X "dict.pop" rPopT1 := by
  intro pins s σ H x xs v us Q I rx rxs h
  obtain ⟨a, kvs, k, b, v0, rfl, rfl, ha, hb, ev, q⟩ := h
  cases rx
  obtain ⟨u1, rfl, r1⟩ := rxs.one
  cases r1
  obtain ⟨z, hd, xs', rel, dd⟩ := dt_of I.hok ha
  have hz : xs'.length ≤ sizeLine := by rw [← Paired.length rel]; exact z
  have r := rel.val k
  rw [ev] at r
  cases hp : atKey xs' k with
  | none => rw [hp] at r; exact (show False from r).elim
  | some p =>
    rw [hp] at r
    have rv : RelV v0 p.2 := r
    refine call_meetsIn PySem.F.slot_dict_pop dd.typeIs PySem.F.entry_dict_pop (PySem.F.args_dict_pop_2 _ _) (my_meetsPop1 (knd := tupleKind (mixKind X.prog X.w)) (k := k) hd)
      ⟨xs', p, tupleKind_room_in1 hu, key_of I.hok hb, dd, hz, hp, fun h' tk dd' hs => ?_⟩
    obtain ⟨o, es, ep, hq, h2, h3, h4, _, h5⟩ := dd'
    have I2 : Inv X pins σ (upd H a (.dT (dropK kvs k))) { s with heap := h', toks := tk } :=
      d_write I (by rw [ha]; exact True.intro) hs ⟨o, hq⟩ ⟨Nat.le_trans (dropK_le kvs k) z, hd, _, (L2.DX.KT_drop k rel).keeps (fun c ys ec => (by rw [upd_ne (ne_of ec ha (fun z => nomatch z))]; exact ec)), o, es, ep, hq, h2, h3, h4, h5⟩
    show EP X pins σ Q p.2 _
    exact ⟨v0, _, I2, rv, q⟩
end My

namespace My
open PySem L2
def topS (i : Nat) : Stmt := PySem.Challenge.pw_steadhold_k32_frames_by_shares.main.body.getD i (.Pass ⟨0, 0, 0, 0⟩)
structure Txt (K : PySem.W.Frag) (mg : Str → Option Value) (C_Frames C_NotValid : Addr) : Prop where
  b_abs : mg "abs" = none
  b_all : mg "all" = none
  b_any : mg "any" = none
  b_bool : mg "bool" = none
  b_int : mg "int" = none
  b_isinstance : mg "isinstance" = none
  b_len : mg "len" = none
  b_list : mg "list" = none
  b_max : mg "max" = none
  b_min : mg "min" = none
  b_range : mg "range" = none
  b_sum : mg "sum" = none
  c_ENVIRONMENTS : ∃ t, mg "ENVIRONMENTS" = some (.int 4 t)
  c_PATIENCE : ∃ t, mg "PATIENCE" = some (.int 2 t)
  c_TOP : ∃ t, mg "TOP" = some (.int 4294967295 t)
  c_WORDS : ∃ t, mg "WORDS" = some (.int 8 t)
  c__LEAST_FRAMES : ∃ t, mg "_LEAST_FRAMES" = some (.int 8 t)
  c__MOST_FRAMES : ∃ t, mg "_MOST_FRAMES" = some (.int 64 t)
  x_NotValid : Exn K mg "NotValid" C_NotValid
  o_Frames : Cls K C_Frames
  n_Frames__words : NoAttr K C_Frames "_words"
  n_Frames__shares : NoAttr K C_Frames "_shares"
  n_Frames__rights : NoAttr K C_Frames "_rights"
  n_Frames__offers : NoAttr K C_Frames "_offers"
  n_Frames__asked : NoAttr K C_Frames "_asked"
  n_Frames__ends_to_wait : NoAttr K C_Frames "_ends_to_wait"
  n_Frames__taken : NoAttr K C_Frames "_taken"
end My

namespace My
open PySem L2
local macro_rules | `(tactic| walk_at "ne") => `(tactic| first | assumption | exact Ne.symm (by assumption) | exact ne_of_none (by assumption) (by assumption) | exact Ne.symm (ne_of_none (by assumption) (by assumption)))
local macro_rules | `(tactic| walk_at "hp") => `(tactic| first | assumption | with_reducible exact upd_same | (with_reducible refine Eq.trans (upd_ne ?_) ?_; rotate_left; walk_at "hp"; walk_at "ne"))
local macro_rules | `(tactic| walk_at "cnd") => `(tactic| first | omega | (show (0 : Int) < _; omega) | exact ⟨by omega, by omega⟩ | exact Or.inl ⟨by omega, by omega⟩ | exact Or.inr ⟨by omega, by omega⟩ | exact ⟨by omega, by omega, by decide⟩ | exact ⟨by omega, by omega, by omega⟩)
local macro_rules | `(tactic| walk_at "at") => `(tactic| first | exact atC 0 rfl rfl | exact atC 1 rfl rfl | exact atC 2 rfl rfl | exact atC 3 rfl rfl | exact atC 4 rfl rfl | exact atC 5 rfl rfl | exact atC 6 rfl rfl | exact atC 7 rfl rfl)
local macro_rules | `(tactic| walk_at "ix") => `(tactic| first | exact ixC 0 rfl (Nat.le_of_ble_eq_true rfl) | exact ixC 1 rfl (Nat.le_of_ble_eq_true rfl) | exact ixC 2 rfl (Nat.le_of_ble_eq_true rfl) | exact ixC 3 rfl (Nat.le_of_ble_eq_true rfl) | exact ixC 4 rfl (Nat.le_of_ble_eq_true rfl) | exact ixC 5 rfl (Nat.le_of_ble_eq_true rfl))
local macro_rules | `(tactic| walk_at "st") => `(tactic| first
  | refine ⟨_, rfl, ?_⟩
  | refine ⟨_, _, rfl, rfl, (by walk_at "cnd" : (_ : Prop)), ?_⟩
  | refine ⟨_, _, rfl, rfl, ?_⟩
  | refine ⟨rfl, ?_⟩
  | refine Or.inl ⟨_, rfl, ?_⟩
  | refine ⟨_, _, _, _, rfl, rfl, by exact SqL.of (by walk_at "hp"), by walk_at "at", ?_⟩
  | refine ⟨_, _, _, _, rfl, rfl, by exact SqT.of (by walk_at "hp"), by walk_at "at", ?_⟩
  | refine ⟨_, _, _, _, rfl, rfl, by walk_at "hp", by walk_at "ix", ?_⟩
  | refine ⟨_, _, rfl, Or.inl (by exact SqL.of (by walk_at "hp")), ?_⟩
  | refine ⟨_, _, rfl, Or.inr (by exact SqT.of (by walk_at "hp")), ?_⟩)
local macro_rules | `(tactic| walk_at "so") => `(tactic| first
  | refine ⟨_, _, _, _, _, rfl, by walk_at "hp", by assumption, by assumption, rfl, ?_⟩
  | refine ⟨_, _, _, _, rfl, by walk_at "hp", by assumption, by assumption, Nat.le_of_ble_eq_true rfl, ?_⟩
  | refine ⟨_, _, _, rfl, by walk_at "hp", rfl, ?_⟩
  | walk_at "st")
local macro_rules | `(tactic| walk_at "ro") => `(tactic| repeat walk_at "so")
local macro_rules | `(tactic| walk_at "run") => `(tactic| repeat walk_at "st")

/-! the tape -/
def Tape (H : Hp) (a s : Addr) : Prop := ∃ (ns : List Int) (i r z : Int), H a = some (.lst [.ref s, .int i, .int r, .int z]) ∧ H s = some (.lst (ns.map V.int)) ∧ 0 ≤ i ∧ 0 ≤ r ∧ 0 ≤ z ∧ z < 2147483647
def spNext : Sp := fun vs H Q _ => ∃ (a t : Addr) (many : Int), vs = [.ref a, .int many] ∧ 0 < many ∧ many < 1000000 ∧ Tape H a t ∧ ∀ v H', 0 ≤ v → v < many → Tape H' a t → Chg a H H' → Q (.int v) H'
theorem Tape.lst {H : Hp} {a t : Addr} (h : Tape H a t) : ∃ xs, H a = some (.lst xs) := by
  obtain ⟨ns, i, r, z, ha, _⟩ := h
  exact ⟨_, ha⟩
theorem Tape.at {H : Hp} {a t p : Addr} (h : Tape H a t) (hp : H p = none) : p ≠ a := by
  obtain ⟨ns, i, r, z, ha, _⟩ := h
  exact (ne_of_none ha hp).symm
theorem Tape.at2 {H : Hp} {a t p : Addr} (h : Tape H a t) (hp : H p = none) : p ≠ t := by
  obtain ⟨ns, i, r, z, ha, hs, _⟩ := h
  exact (ne_of_none hs hp).symm
theorem Tape.same {H H' : Hp} {a t : Addr} (h : Tape H a t) (s : Same H H') : Tape H' a t := by
  obtain ⟨ns, i, r, z, ha, hs, q⟩ := h
  exact ⟨ns, i, r, z, s _ _ ha, s _ _ hs, q⟩
theorem Tape.upd {H : Hp} {a t W : Addr} {o : HO} (h : Tape H a t) (n1 : W ≠ a) (n2 : W ≠ t) : Tape (L2.upd H W o) a t := by
  obtain ⟨ns, i, r, z, ha, hs, q⟩ := h
  exact ⟨ns, i, r, z, by rw [upd_ne n1.symm]; exact ha, by rw [upd_ne n2.symm]; exact hs, q⟩
theorem Tape.ts {H H' : Hp} {a t : Addr} (h : Tape H a t) (c : Chg a H H') : TS H H' := by
  obtain ⟨xs, e⟩ := h.lst
  exact c.ts e
section
variable {P : Program} {w : World} {K : PySem.W.Frag} {mg : Str → Option Value} {base : Heap} {C_Frames C_NotValid : Addr}
abbrev s_law_next : Stmt := topS 21
abbrev ns_law_next : List Str := ["tape", "many", "rest", "cell"]
theorem sc_law_next : FnScope ns_law_next ["tape", "many"] (defScope s_law_next) := ⟨rfl, rfl, rfl, by decide +kernel, rfl, by decide +kernel, by decide +kernel⟩

theorem ok_law_next {f : Addr} {fd : FuncData} (F : Fun K "_law_next" "_law_next" s_law_next f fd) (T : Txt K mg C_Frames C_NotValid) : FnOk P w K mg base CX0 1 f fd ["tape", "many"] spNext := by
  refine F.ok sc_law_next (fun vs H Q E h => ?_) (fun cdv A outer s H vs Q E hr h => ?_)
  · obtain ⟨a, s, many, rfl, _⟩ := h
    rfl
  · obtain ⟨a, s, many, rfl, m0, m1, ⟨ns, i, r, z, ha, hs, i0, r0, z0, z1⟩, k⟩ := h
    have nsa : s ≠ a := ne_of hs ha (by intro q; cases ns <;> cases q)
    refine ⟨_, (pss_cons (ps_set (i := 2) sc_law_next.nd rfl (Or.inl rfl) (pe_ix (kIxL K) (pv 0) pe_int (fun _ _ => rfl)))
  (pss_cons (ps_if (pt_cmpR op_gt (pv 2) pe_int (nomark _)) (pss_cons (ps_asg (pe_op op_fdiv (pv 2) (pv 1)) (pg_sub (pv 0) pe_int set_list))
  (pss_one (ps_ret (pe_op op_mod (pe_callTy call_int1 (by rfl) T.b_int (by decide +kernel) (pa_cons (pv 2) pa_nil)) (pv 1))))) pss_nil)
  (pss_cons (ps_set (i := 3) sc_law_next.nd rfl (Or.inl rfl) pe_int)
  (C8.pss_cut (ps_if (pt_cmpR op_lt (pe_ix (kIxL K) (pv 0) pe_int (fun _ _ => rfl)) (pe_callB (kLen K) (by rfl) T.b_len (by decide +kernel) (pa_cons (pe_ix (kIxL K) (pv 0) pe_int (fun _ _ => rfl)) pa_nil)) (nomark _)) (pss_cons (ps_set (i := 3) sc_law_next.nd rfl (Or.inl rfl) (pe_callB call_abs (by rfl) T.b_abs (by decide +kernel) (pa_cons (pe_ix (kIxL K) (pe_ix (kIxL K) (pv 0) pe_int (fun _ _ => rfl)) (pe_ix (kIxL K) (pv 0) pe_int (fun _ _ => rfl)) (fun _ _ => rfl)) pa_nil)))
  (pss_one (ps_augS (pv 0) pe_int (kGetL K) pe_int ip_add set_list))) pss_nil)
  (pss_cons (ps_if (pt_cmpR op_ge (pv 3) (pe_op op_pow pe_int pe_int) (nomark _)) (pss_cons (ps_asg (pe_op op_fdiv (pv 3) (pv 1)) (pg_sub (pv 0) pe_int set_list))
  (pss_one (ps_ret (pe_op op_mod (pe_callTy call_int1 (by rfl) T.b_int (by decide +kernel) (pa_cons (pv 3) pa_nil)) (pv 1))))) pss_nil)
  (pss_cons (ps_asg (pe_op op_mod (pe_callTy call_int1 (by rfl) T.b_int (by decide +kernel) (pa_cons (pe_op op_add (pe_op op_add (pe_op op_mul (pe_ix (kIxL K) (pv 0) pe_int (fun _ _ => rfl)) pe_int) (pe_op op_mul (pv 3) pe_int)) pe_int) pa_nil)) pe_int) (pg_sub (pv 0) pe_int set_list))
  (pss_one (ps_ret (pe_op op_mod (pe_callTy call_int1 (by rfl) T.b_int (by decide +kernel) (pa_cons (pe_op op_fdiv (pe_op op_mod (pe_op op_mul (pe_ix (kIxL K) (pv 0) pe_int (fun _ _ => rfl)) pe_int) pe_int) pe_int) pa_nil)) (pv 1)))))))))), ?_⟩
    -- rest = tape[2]; if rest > 0
    walk_at "run"
    refine iteD (fun h1 => ?_) (fun h1 => ?_)
    · walk_at "run"
      exact k _ _ (Int.emod_nonneg _ (by omega)) (Int.emod_lt_of_pos _ m0) ⟨ns, i, r / many, z, upd_same, by rw [upd_ne nsa]; exact hs, i0, Int.ediv_nonneg r0 (by omega), z0, z1⟩ Chg.upd
    · -- cell = 0; if tape[1] < len(tape[0])
      refine ⟨fun σ H1 => ∃ cell i', σ = [some (.ref a), some (.int many), some (.int r), some (.int cell)] ∧ 0 ≤ cell ∧ 0 ≤ i' ∧ H1 a = some (.lst [.ref s, .int i', .int r, .int z]) ∧ H1 s = some (.lst (ns.map V.int)) ∧ Chg a H H1, ?_, ?_⟩
      · walk_at "run"
        refine iteD (fun h2 => ?_) (fun h2 => ?_)
        · have hi : i.toNat < ns.length := by simpa using (show i.toNat < (ns.map V.int).length by omega)
          walk_at "run"
          refine ⟨_, _, _, _, rfl, rfl, SqL.of hs, atC i.toNat (by omega) (by rw [List.getElem?_map, List.getElem?_eq_getElem hi]; rfl), ?_⟩
          walk_at "run"
          exact ⟨_, i + 1, rfl, by split <;> omega, by omega, upd_same, by rw [upd_ne nsa]; exact hs, Chg.upd⟩
        · exact ⟨0, i, rfl, by omega, i0, ha, hs, Chg.refl _ _⟩
      · rintro σ H1 ⟨cell, i', rfl, c0, i0', ha1, hs1, ch⟩
        walk_at "run"
        refine iteD (fun h3 => ?_) (fun h3 => ?_)
        · walk_at "run"
          exact k _ _ (Int.emod_nonneg _ (by omega)) (Int.emod_lt_of_pos _ m0) ⟨ns, i', cell / many, z, upd_same, by rw [upd_ne nsa]; exact hs1, i0', Int.ediv_nonneg c0 (by omega), z0, z1⟩ (ch.trans Chg.upd)
        · walk_at "run"
          exact k _ _ (Int.emod_nonneg _ (by omega)) (Int.emod_lt_of_pos _ m0) ⟨ns, i', r, _, upd_same, by rw [upd_ne nsa]; exact hs1, i0', r0, Int.emod_nonneg _ (by decide), Int.emod_lt_of_pos _ (by decide)⟩ (ch.trans Chg.upd)
end

section
variable {P : Program} {w : World} {K : PySem.W.Frag} {mg : Str → Option Value} {base : Heap} {C_Frames C_NotValid : Addr}
abbrev s_is_at_least : Stmt := topS 1
abbrev ns_is_at_least : List Str := ["value", "least"]
theorem sc_is_at_least : FnScope ns_is_at_least ["value", "least"] (defScope s_is_at_least) := ⟨rfl, rfl, rfl, by decide +kernel, rfl, by decide +kernel, by decide +kernel⟩

theorem ok_is_at_least {f : Addr} {fd : FuncData} (F : Fun K "is_at_least" "is_at_least" s_is_at_least f fd) (T : Txt K mg C_Frames C_NotValid) : FnOk P w K mg base CX0 1 f fd ["value", "least"] spGe := by
  refine F.ok sc_is_at_least (fun vs H Q E h => ?_) (fun cdv A outer s H vs Q E hr h => ?_)
  · obtain ⟨v, d, lo, rfl, _⟩ := h
    rfl
  · obtain ⟨v, d, lo, rfl, hd, k⟩ := h
    refine ⟨_, (pss_one (ps_ret (pe_and (pe_callB (kIsi K) (by rfl) T.b_isinstance (by decide +kernel) (pa_cons (pv 0) (pa_cons (pe_bltn (v := .ty "int") (by rfl) T.b_int (by decide +kernel) rfl) pa_nil))) (pe_and (pe_not (pe_callB (kIsi K) (by rfl) T.b_isinstance (by decide +kernel) (pa_cons (pv 0) (pa_cons (pe_bltn (v := .ty "bool") (by rfl) T.b_bool (by decide +kernel) rfl) pa_nil)))) (pe_one (pe_cmpR op_ge (pv 0) (pv 1) (nomark _))))))), ?_⟩
    refine ⟨_, rfl, _, _, _, _, _, rfl, .ty _, hd.ty, kit_ty (kitInt d), _, rfl, ?_⟩
    cases hd with
    | int i =>
      refine iteT ⟨_, rfl, _, _, _, _, _, rfl, .ty _, (Dt.int i).ty, kit_ty (kitBool (.int i)), _, rfl, _, rfl, iteT ?_⟩
      walk_at "run"
      exact k
    | bl b => exact iteT ⟨_, rfl, _, _, _, _, _, rfl, .ty _, (Dt.bl b).ty, kit_ty (kitBool (.bool b)), _, rfl, _, rfl, iteF k⟩
    | non => exact iteF k
    | str x => exact iteF k
    | lst a b => exact iteF k
    | tup a b => exact iteF k
abbrev s_is_between : Stmt := topS 2
abbrev ns_is_between : List Str := ["value", "least", "most"]
theorem sc_is_between : FnScope ns_is_between ["value", "least", "most"] (defScope s_is_between) := ⟨rfl, rfl, rfl, by decide +kernel, rfl, by decide +kernel, by decide +kernel⟩

theorem ok_is_between {f : Addr} {fd : FuncData} (F : Fun K "is_between" "is_between" s_is_between f fd) (T : Txt K mg C_Frames C_NotValid) (D_is_at_least : Dfn P w K mg base CX0 1 "is_at_least" ["value", "least"] spGe) : FnOk P w K mg base CX0 2 f fd ["value", "least", "most"] spBtw := by
  refine F.ok sc_is_between (fun vs H Q E h => ?_) (fun cdv A outer s H vs Q E hr h => ?_)
  · obtain ⟨v, d, lo, hi, rfl, _⟩ := h
    rfl
  · obtain ⟨v, d, lo, hi, rfl, hd, k⟩ := h
    refine ⟨_, (pss_one (ps_ret (pe_and (pe_dcall D_is_at_least (hr.mono (by decide)) (by rfl) pass0 (pa_cons (pv 0) (pa_cons (pv 1) pa_nil))) (pe_one (pe_cmpR op_le (pv 0) (pv 2) (nomark _)))))), ?_⟩
    refine ⟨_, rfl, _, rfl, _, d, _, rfl, hd, _, rfl, iteB (fun e => ?_) (fun e => ?_)⟩
    · cases hd with
      | int i =>
        walk_at "run"
        have e' : decide (lo ≤ i) = true := e
        have k' : Q (.bl (decide (lo ≤ i) && decide (i ≤ hi))) H := k
        rw [e', Bool.true_and] at k'
        exact k'
      | bl b => cases e
      | non => cases e
      | str x => cases e
      | lst a b => cases e
      | tup a b => cases e
    · have e2 : isI d lo hi = false := by
        cases d with
        | int i =>
          have e' : decide (lo ≤ i) = false := e
          show (decide (lo ≤ i) && decide (i ≤ hi)) = false
          rw [e', Bool.false_and]
        | _ => rfl
      rw [e2] at k
      exact k
abbrev s_is_index : Stmt := topS 3
abbrev ns_is_index : List Str := ["value", "many"]
theorem sc_is_index : FnScope ns_is_index ["value", "many"] (defScope s_is_index) := ⟨rfl, rfl, rfl, by decide +kernel, rfl, by decide +kernel, by decide +kernel⟩

theorem ok_is_index {f : Addr} {fd : FuncData} (F : Fun K "is_index" "is_index" s_is_index f fd) (T : Txt K mg C_Frames C_NotValid) (D_is_between : Dfn P w K mg base CX0 2 "is_between" ["value", "least", "most"] spBtw) : FnOk P w K mg base CX0 3 f fd ["value", "many"] spIdx := by
  refine F.ok sc_is_index (fun vs H Q E h => ?_) (fun cdv A outer s H vs Q E hr h => ?_)
  · obtain ⟨v, d, n, rfl, _⟩ := h
    rfl
  · obtain ⟨v, d, n, rfl, hd, k⟩ := h
    refine ⟨_, (pss_one (ps_ret (pe_dcall D_is_between (hr.mono (by decide)) (by rfl) pass0 (pa_cons (pv 0) (pa_cons pe_int (pa_cons (pe_op op_sub (pv 1) pe_int) pa_nil)))))), ?_⟩
    walk_at "run"
    exact ⟨_, d, _, _, rfl, hd, k⟩
end

end My

namespace My
open PySem L2
local macro_rules | `(tactic| walk_at "ne") => `(tactic| first | assumption | exact Ne.symm (by assumption) | exact ne_of_none (by assumption) (by assumption) | exact Ne.symm (ne_of_none (by assumption) (by assumption)))
local macro_rules | `(tactic| walk_at "hp") => `(tactic| first | assumption | with_reducible exact upd_same | (with_reducible refine Eq.trans (upd_ne ?_) ?_; rotate_left; walk_at "hp"; walk_at "ne"))
local macro_rules | `(tactic| walk_at "cnd") => `(tactic| first | omega | (show (0 : Int) < _; omega) | exact ⟨by omega, by omega⟩ | exact Or.inl ⟨by omega, by omega⟩ | exact Or.inr ⟨by omega, by omega⟩ | exact ⟨by omega, by omega, by decide⟩ | exact ⟨by omega, by omega, by omega⟩)
local macro_rules | `(tactic| walk_at "at") => `(tactic| first | exact atC 0 rfl rfl | exact atC 1 rfl rfl | exact atC 2 rfl rfl | exact atC 3 rfl rfl | exact atC 4 rfl rfl | exact atC 5 rfl rfl | exact atC 6 rfl rfl | exact atC 7 rfl rfl)
local macro_rules | `(tactic| walk_at "ix") => `(tactic| first | exact ixC 0 rfl (Nat.le_of_ble_eq_true rfl) | exact ixC 1 rfl (Nat.le_of_ble_eq_true rfl) | exact ixC 2 rfl (Nat.le_of_ble_eq_true rfl) | exact ixC 3 rfl (Nat.le_of_ble_eq_true rfl) | exact ixC 4 rfl (Nat.le_of_ble_eq_true rfl) | exact ixC 5 rfl (Nat.le_of_ble_eq_true rfl))
local macro_rules | `(tactic| walk_at "st") => `(tactic| first
  | refine ⟨_, rfl, ?_⟩
  | refine ⟨_, _, rfl, rfl, (by walk_at "cnd" : (_ : Prop)), ?_⟩
  | refine ⟨_, _, rfl, rfl, ?_⟩
  | refine ⟨rfl, ?_⟩
  | refine Or.inl ⟨_, rfl, ?_⟩
  | refine ⟨_, _, _, _, rfl, rfl, by exact SqL.of (by walk_at "hp"), by walk_at "at", ?_⟩
  | refine ⟨_, _, _, _, rfl, rfl, by exact SqT.of (by walk_at "hp"), by walk_at "at", ?_⟩
  | refine ⟨_, _, _, _, rfl, rfl, by walk_at "hp", by walk_at "ix", ?_⟩
  | refine ⟨_, _, rfl, Or.inl (by exact SqL.of (by walk_at "hp")), ?_⟩
  | refine ⟨_, _, rfl, Or.inr (by exact SqT.of (by walk_at "hp")), ?_⟩)
local macro_rules | `(tactic| walk_at "so") => `(tactic| first
  | refine ⟨_, _, _, _, _, rfl, by walk_at "hp", by assumption, by assumption, rfl, ?_⟩
  | refine ⟨_, _, _, _, rfl, by walk_at "hp", by assumption, by assumption, Nat.le_of_ble_eq_true rfl, ?_⟩
  | refine ⟨_, _, _, rfl, by walk_at "hp", rfl, ?_⟩
  | walk_at "st")
local macro_rules | `(tactic| walk_at "ro") => `(tactic| repeat walk_at "so")
local macro_rules | `(tactic| walk_at "run") => `(tactic| repeat walk_at "st")

/-! ### what the frames hold: the mathematics -/
abbrev RL := List (Nat × Bool)
def rS (b : Bool) : Str := if b then "rw" else "r"
def rV (b : Bool) : V := .str (rS b)
def vN (n : Nat) : V := .int (n : Int)
def entR (l : RL) : List (Key × V) := l.map fun p => (.inl (p.1 : Int), rV p.2)
def getR (l : RL) (f : Nat) : Option Bool := (l.find? fun p => decide (p.1 = f)).map (·.2)
theorem keyI {a b : Nat} : (((Sum.inl (a : Int) : Key)) = .inl (b : Int)) ↔ a = b := by
  constructor
  · intro h
    injection h with h
    exact Int.ofNat.inj h
  · rintro rfl; rfl
theorem valR (f : Nat) : ∀ l : RL, valV (entR l) (.inl (f : Int)) = (getR l f).map rV
  | [] => rfl
  | p :: l => by
    have ih := valR f l
    show valV ((.inl (p.1 : Int), rV p.2) :: entR l) (.inl (f : Int)) = _
    unfold getR
    by_cases e : p.1 = f
    · rw [valV_pos (keyI.mpr e), List.find?_cons_of_pos (by simp [e])]; rfl
    · rw [valV_neg (fun q => e (keyI.mp q)), List.find?_cons_of_neg (by simp [e])]
      exact ih
theorem entR_keys (l : RL) : ((entR l).map fun kv => kV kv.1) = (l.map (·.1)).map vN := by
  unfold entR
  rw [List.map_map, List.map_map]; rfl
/-- things that stand in a list of references, one for one -/
def Each {α : Type} (rel : Hp → Addr → α → Prop) (H : Hp) (ds : List Addr) (ls : List α) : Prop := ds.length = ls.length ∧ ∀ (j : Nat) (d : Addr) (l : α), ds[j]? = some d → ls[j]? = some l → rel H d l
theorem Each.at {α : Type} {rel : Hp → Addr → α → Prop} {H : Hp} {ds : List Addr} {ls : List α} {j : Nat} {l : α} (h : Each rel H ds ls) (e : ls[j]? = some l) : ∃ d, ds[j]? = some d ∧ rel H d l := by
  have hl := (List.getElem?_eq_some_iff.mp e).1
  obtain ⟨d, hd⟩ : ∃ d, ds[j]? = some d := ⟨_, List.getElem?_eq_getElem (by rw [h.1]; exact hl)⟩
  exact ⟨d, hd, h.2 j d l hd e⟩
theorem Each.mono {α : Type} {rel rel' : Hp → Addr → α → Prop} {H H' : Hp} {ds : List Addr} {ls : List α} (h : Each rel H ds ls) (f : ∀ d l, d ∈ ds → rel H d l → rel' H' d l) : Each rel' H' ds ls :=
  ⟨h.1, fun j d l a b => f d l (List.mem_of_getElem? a) (h.2 j d l a b)⟩
def RtD (H : Hp) (d : Addr) (l : RL) : Prop := H d = some (.dK (entR l))
def NsL (H : Hp) (d : Addr) (l : List Nat) : Prop := H d = some (.lst (l.map vN))
/-- offers of an environment: a dict from frames to dicts from environments to rights -/
def entO (l : List (Nat × RL)) (is : List Addr) : List (Key × V) := (l.zip is).map fun p => (.inl (p.1.1 : Int), .ref p.2)
def OfD (H : Hp) (d : Addr) (q : List Addr × List (Nat × RL)) : Prop := H d = some (.dK (entO q.2 q.1)) ∧ Each (fun H i (p : Nat × RL) => RtD H i p.2) H q.1 q.2
structure FS where
  m : Nat
  sh : List Nat
  ask : List Nat
  wt : List Nat
  rt : List RL
  of : List (List (Nat × RL))
  tk : List (List Nat)
  wd : List (List Nat)
structure FOk (s : FS) : Prop where
  sh4 : s.sh.length = 4
  ask4 : s.ask.length = 4
  wt4 : s.wt.length = 4
  rt4 : s.rt.length = 4
  of4 : s.of.length = 4
  tk4 : s.tk.length = 4
  wdm : s.wd.length = s.m
  m64 : s.m ≤ 64
/-- frames, as they stand: P holds of all that is theirs -/
structure FA where
  (dx W S R O A E T : Addr)
  (wds rds ods tks : List Addr)
  ids : List (List Addr)
def FA.own (a : FA) (x : Addr) : List Addr := [x, a.W, a.S, a.R, a.O, a.A, a.E, a.T] ++ (a.wds ++ (a.rds ++ (a.ods ++ (a.tks ++ a.ids.flatten))))
structure Fr (C : Addr) (P : Addr → Prop) (H : Hp) (x : Addr) (a : FA) (s : FS) : Prop where
  ok : FOk s
  nd : (a.own x).Nodup
  mine : ∀ b ∈ a.own x, P b
  ins : H x = some (.ins C a.dx [("_words", .ref a.W), ("_shares", .ref a.S), ("_rights", .ref a.R), ("_offers", .ref a.O), ("_asked", .ref a.A), ("_ends_to_wait", .ref a.E), ("_taken", .ref a.T)])
  w : H a.W = some (.lst (a.wds.map V.ref))
  ws : Each NsL H a.wds s.wd
  hs : NsL H a.S s.sh
  r : H a.R = some (.lst (a.rds.map V.ref))
  rs : Each RtD H a.rds s.rt
  o : H a.O = some (.lst (a.ods.map V.ref))
  il : a.ids.length = s.of.length
  os : Each OfD H a.ods (a.ids.zip s.of)
  ha : NsL H a.A s.ask
  he : NsL H a.E s.wt
  t : H a.T = some (.lst (a.tks.map V.ref))
  ts : Each NsL H a.tks s.tk
def isF (s : FS) (d : PyData) : Bool := isI d 0 ((s.m : Int) - 1)
def isE (d : PyData) : Bool := isI d 0 3
def natD : PyData → Nat
  | .int i => i.toNat
  | _ => 0
def spEnv : Sp := fun vs H Q _ => ∃ v d, vs = [v] ∧ Dt H v d ∧ Q (.bl (isE d)) H
def spIsF (C : Addr) : Sp := fun vs H Q _ => ∃ P x a s v d, vs = [.ref x, v] ∧ Fr C P H x a s ∧ Dt H v d ∧ Q (.bl (isF s d)) H
def rightOf (s : FS) (e f : PyData) : Option Bool := if isE e = true ∧ isF s f = true then getR (s.rt.getD (natD e) []) (natD f) else none
def optR : Option Bool → V
  | none => .non
  | some b => rV b
def spRight (C : Addr) : Sp := fun vs H Q _ => ∃ P x a s v d u e, vs = [.ref x, v, u] ∧ Fr C P H x a s ∧ Dt H v d ∧ Dt H u e ∧ Q (optR (rightOf s d e)) H
def heldOf (s : FS) (e : PyData) : List Nat := if isE e = true then (s.rt.getD (natD e) []).map (·.1) else []
def spHold (C : Addr) : Sp := fun vs H Q _ => ∃ P x a s v d, vs = [.ref x, v] ∧ Fr C P H x a s ∧ Dt H v d ∧ ∀ p H', Same H H' → H p = none → NsL H' p (heldOf s d) → Q (.ref p) H'
theorem isI_nat {d : PyData} {n : Int} (h : isI d 0 n = true) : ∃ k : Nat, d = .int (k : Int) ∧ (k : Int) ≤ n := by
  cases d with
  | int i =>
    have h' : (decide ((0 : Int) ≤ i) && decide (i ≤ n)) = true := h
    rw [Bool.and_eq_true, decide_eq_true_eq, decide_eq_true_eq] at h'
    obtain ⟨k, rfl⟩ := Int.eq_ofNat_of_zero_le h'.1
    exact ⟨k, rfl, h'.2⟩
  | _ => cases h
section
variable {P : Program} {w : World} {K : PySem.W.Frag} {mg : Str → Option Value} {base : Heap} {C_Frames C_NotValid : Addr}
abbrev s_is_environment : Stmt := topS 9
abbrev ns_is_environment : List Str := ["value"]
theorem sc_is_environment : FnScope ns_is_environment ["value"] (defScope s_is_environment) := ⟨rfl, rfl, rfl, by decide +kernel, rfl, by decide +kernel, by decide +kernel⟩

theorem ok_is_environment {f : Addr} {fd : FuncData} (F : Fun K "is_environment" "is_environment" s_is_environment f fd) (T : Txt K mg C_Frames C_NotValid) (D_is_index : Dfn P w K mg base CX0 3 "is_index" ["value", "many"] spIdx) : FnOk P w K mg base CX0 4 f fd ["value"] spEnv := by
  refine F.ok sc_is_environment (fun vs H Q E h => ?_) (fun cdv A outer s H vs Q E hr h => ?_)
  · obtain ⟨v, d, rfl, _⟩ := h
    rfl
  · obtain ⟨v, d, rfl, hd, k⟩ := h
    refine ⟨_, (pss_one (ps_ret (pe_dcall D_is_index (hr.mono (by decide)) (by rfl) pass0 (pa_cons (pv 0) (pa_cons (pe_gint (by rfl) T.c_ENVIRONMENTS) pa_nil))))), ?_⟩
    walk_at "run"
    exact ⟨_, d, _, rfl, hd, k⟩
abbrev s_Frames_is_frame : Stmt := inClass (topS 19) 18
abbrev ns_Frames_is_frame : List Str := ["self", "value"]
theorem sc_Frames_is_frame : FnScope ns_Frames_is_frame ["self", "value"] (defScope s_Frames_is_frame) := ⟨rfl, rfl, rfl, by decide +kernel, rfl, by decide +kernel, by decide +kernel⟩

theorem ok_Frames_is_frame {f : Addr} {fd : FuncData} (F : Fun K "_is_frame" "Frames._is_frame" s_Frames_is_frame f fd) (T : Txt K mg C_Frames C_NotValid) (D_is_index : Dfn P w K mg base CX0 3 "is_index" ["value", "many"] spIdx) : FnOk P w K mg base CX0 4 f fd ["self", "value"] (spIsF C_Frames) := by
  have ho_Frames := T.o_Frames; have hn_Frames__words := T.n_Frames__words; have hn_Frames__shares := T.n_Frames__shares; have hn_Frames__rights := T.n_Frames__rights; have hn_Frames__offers := T.n_Frames__offers; have hn_Frames__asked := T.n_Frames__asked; have hn_Frames__ends_to_wait := T.n_Frames__ends_to_wait; have hn_Frames__taken := T.n_Frames__taken
  refine F.ok sc_Frames_is_frame (fun vs H Q E h => ?_) (fun cdv A outer s H vs Q E hr h => ?_)
  · obtain ⟨P', x, a, s, v, d, rfl, _⟩ := h
    rfl
  · obtain ⟨P', x, a, s', v, d, rfl, fr, hd, k⟩ := h
    refine ⟨_, (pss_one (ps_ret (pe_dcall D_is_index (hr.mono (by decide)) (by rfl) pass0 (pa_cons (pv 1) (pa_cons (pe_callB (kLen K) (by rfl) T.b_len (by decide +kernel) (pa_cons (kFld K (pv 0) rfl) pa_nil)) pa_nil))))), ?_⟩
    have h1 := fr.ins
    have h2 := fr.w
    have wl : (a.wds.map V.ref).length = s'.m := by rw [List.length_map, fr.ws.1, fr.ok.wdm]
    walk_at "ro"
    refine ⟨v, d, _, rfl, hd, ?_⟩
    rw [wl]
    exact k
abbrev s_Frames_right : Stmt := inClass (topS 19) 6
abbrev ns_Frames_right : List Str := ["self", "environment", "frame"]
theorem sc_Frames_right : FnScope ns_Frames_right ["self", "environment", "frame"] (defScope s_Frames_right) := ⟨rfl, rfl, rfl, by decide +kernel, rfl, by decide +kernel, by decide +kernel⟩

theorem ok_Frames_right {f : Addr} {fd : FuncData} (F : Fun K "right" "Frames.right" s_Frames_right f fd) (T : Txt K mg C_Frames C_NotValid) (D_is_environment : Dfn P w K mg base CX0 4 "is_environment" ["value"] spEnv) (D_Frames_is_frame : Mth P w K mg base CX0 4 C_Frames "_is_frame" ["self", "value"] (spIsF C_Frames)) : FnOk P w K mg base CX0 5 f fd ["self", "environment", "frame"] (spRight C_Frames) := by
  have ho_Frames := T.o_Frames; have hn_Frames__words := T.n_Frames__words; have hn_Frames__shares := T.n_Frames__shares; have hn_Frames__rights := T.n_Frames__rights; have hn_Frames__offers := T.n_Frames__offers; have hn_Frames__asked := T.n_Frames__asked; have hn_Frames__ends_to_wait := T.n_Frames__ends_to_wait; have hn_Frames__taken := T.n_Frames__taken
  refine F.ok sc_Frames_right (fun vs H Q E h => ?_) (fun cdv A outer s H vs Q E hr h => ?_)
  · obtain ⟨P', x, a, s, v, d, u, e, rfl, _⟩ := h
    rfl
  · obtain ⟨P', x, a, s', v, d, u, e, rfl, fr, hd, he, k⟩ := h
    refine ⟨_, (pss_cons (ps_if (PW.pt (pw_or (pt_not (pt_val (pe_dcall D_is_environment (hr.mono (by decide)) (by rfl) pass0 (pa_cons (pv 1) pa_nil)))) (pw_or1 (pt_not (pt_val (pe_dmeth (pv 0) D_Frames_is_frame (hr.mono (by decide)) pass0 (pa_cons (pv 2) pa_nil))))))) (pss_one (ps_ret pe_non)) pss_nil)
  (pss_one (ps_ret (pe_dget1 (units1 hr) (pe_ix (kIxL K) (kFld K (pv 0) rfl) (pv 1) (fun _ _ => rfl)) (pv 2) ⟨rfl, rfl, rfl, rfl⟩)))), ?_⟩
    have h1 := fr.ins
    have h2 := fr.r
    have bad : rightOf s' d e = none → Q .non H := fun z => by rw [z] at k; exact k
    walk_at "ro"
    refine ⟨v, d, rfl, hd, _, rfl, ?_⟩
    cases e1 : isE d with
    | false => exact iteT (bad (by unfold rightOf; rw [e1]; rfl))
    | true =>
      refine iteF ?_
      walk_at "ro"
      refine ⟨P', x, a, s', u, e, rfl, fr, he, _, rfl, ?_⟩
      cases e2 : isF s' e with
      | false => exact iteT (bad (by unfold rightOf; rw [e1, e2]; rfl))
      | true =>
        refine iteF ?_
        obtain ⟨n, rfl, n3⟩ := isI_nat e1
        obtain ⟨g, rfl, _⟩ := isI_nat e2
        cases hd
        cases he
        have er : rightOf s' (.int (n : Int)) (.int (g : Int)) = getR (s'.rt.getD n []) g := by
          unfold rightOf
          rw [if_pos ⟨e1, e2⟩]; rfl
        rw [er] at k
        have n4 : n < s'.rt.length := by rw [fr.ok.rt4]; omega
        obtain ⟨dd, hdd, hdk⟩ := fr.rs.at (List.getElem?_eq_getElem n4)
        have eg : s'.rt.getD n [] = s'.rt[n] := by rw [List.getD_eq_getElem?_getD, List.getElem?_eq_getElem n4]; rfl
        rw [eg] at k
        walk_at "ro"
        refine ⟨_, _, _, _, rfl, rfl, SqL.of h2, atC n rfl (by rw [List.getElem?_map, hdd]; rfl), ?_⟩
        refine ⟨dd, rfl, .inl ⟨_, .inl hdk⟩, ?_⟩
        walk_at "ro"
        refine ⟨_, DGet.k (k := .inl (g : Int)) hdk, ?_⟩
        rw [valR]
        cases e3 : getR s'.rt[n] g with
        | none => rw [e3] at k; exact k
        | some b => rw [e3] at k; exact k
abbrev s_Frames_holdings : Stmt := inClass (topS 19) 7
abbrev ns_Frames_holdings : List Str := ["self", "environment"]
theorem sc_Frames_holdings : FnScope ns_Frames_holdings ["self", "environment"] (defScope s_Frames_holdings) := ⟨rfl, rfl, rfl, by decide +kernel, rfl, by decide +kernel, by decide +kernel⟩

theorem ok_Frames_holdings {f : Addr} {fd : FuncData} (F : Fun K "holdings" "Frames.holdings" s_Frames_holdings f fd) (T : Txt K mg C_Frames C_NotValid) (D_is_environment : Dfn P w K mg base CX0 4 "is_environment" ["value"] spEnv) : FnOk P w K mg base CX0 5 f fd ["self", "environment"] (spHold C_Frames) := by
  have ho_Frames := T.o_Frames; have hn_Frames__words := T.n_Frames__words; have hn_Frames__shares := T.n_Frames__shares; have hn_Frames__rights := T.n_Frames__rights; have hn_Frames__offers := T.n_Frames__offers; have hn_Frames__asked := T.n_Frames__asked; have hn_Frames__ends_to_wait := T.n_Frames__ends_to_wait; have hn_Frames__taken := T.n_Frames__taken
  refine F.ok sc_Frames_holdings (fun vs H Q E h => ?_) (fun cdv A outer s H vs Q E hr h => ?_)
  · obtain ⟨P', x, a, s, v, d, rfl, _⟩ := h
    rfl
  · obtain ⟨P', x, a, s', v, d, rfl, fr, hd, k⟩ := h
    refine ⟨_, (pss_cons (ps_if (pt_not (pt_val (pe_dcall D_is_environment (hr.mono (by decide)) (by rfl) pass0 (pa_cons (pv 1) pa_nil)))) (pss_one (ps_ret (pe_lst pa_nil))) pss_nil)
  (pss_one (ps_ret (pe_callTy (call_list_dK (by rfl)) (by rfl) T.b_list (by decide +kernel) (pa_cons (pe_ix (kIxL K) (kFld K (pv 0) rfl) (pv 1) (fun _ _ => rfl)) pa_nil))))), ?_⟩
    have h1 := fr.ins
    have h2 := fr.r
    walk_at "ro"
    refine ⟨v, d, rfl, hd, _, rfl, ?_⟩
    cases e1 : isE d with
    | false =>
      refine iteT ?_
      have er : heldOf s' d = [] := by unfold heldOf; rw [e1]; rfl
      rw [er] at k
      exact ⟨szl rfl, fun p hp => k p _ (Same.new hp) hp upd_same⟩
    | true =>
      refine iteF ?_
      obtain ⟨n, rfl, n3⟩ := isI_nat e1
      cases hd
      have n4 : n < s'.rt.length := by rw [fr.ok.rt4]; omega
      obtain ⟨dd, hdd, hdk⟩ := fr.rs.at (List.getElem?_eq_getElem n4)
      have er : heldOf s' (.int (n : Int)) = s'.rt[n].map (·.1) := by
        unfold heldOf
        rw [if_pos e1]
        show (s'.rt.getD n []).map (·.1) = _
        rw [List.getD_eq_getElem?_getD, List.getElem?_eq_getElem n4]; rfl
      rw [er] at k
      walk_at "ro"
      refine ⟨_, _, _, _, rfl, rfl, SqL.of h2, atC n rfl (by rw [List.getElem?_map, hdd]; rfl), ?_⟩
      refine ⟨dd, _, rfl, hdk, fun p hp => ?_⟩
      rw [entR_keys]
      exact k p _ (Same.new hp) hp upd_same
end
end My

namespace My
open PySem L2
local macro_rules | `(tactic| walk_at "ne") => `(tactic| first | assumption | exact Ne.symm (by assumption) | exact ne_of_none (by assumption) (by assumption) | exact Ne.symm (ne_of_none (by assumption) (by assumption)))
local macro_rules | `(tactic| walk_at "hp") => `(tactic| first | assumption | with_reducible exact upd_same | (with_reducible refine Eq.trans (upd_ne ?_) ?_; rotate_left; walk_at "hp"; walk_at "ne"))
local macro_rules | `(tactic| walk_at "cnd") => `(tactic| first | omega | (show (0 : Int) < _; omega) | exact ⟨by omega, by omega⟩ | exact Or.inl ⟨by omega, by omega⟩ | exact Or.inr ⟨by omega, by omega⟩ | exact ⟨by omega, by omega, by decide⟩ | exact ⟨by omega, by omega, by omega⟩)
local macro_rules | `(tactic| walk_at "at") => `(tactic| first | exact atC 0 rfl rfl | exact atC 1 rfl rfl | exact atC 2 rfl rfl | exact atC 3 rfl rfl | exact atC 4 rfl rfl | exact atC 5 rfl rfl | exact atC 6 rfl rfl | exact atC 7 rfl rfl)
local macro_rules | `(tactic| walk_at "ix") => `(tactic| first | exact ixC 0 rfl (Nat.le_of_ble_eq_true rfl) | exact ixC 1 rfl (Nat.le_of_ble_eq_true rfl) | exact ixC 2 rfl (Nat.le_of_ble_eq_true rfl) | exact ixC 3 rfl (Nat.le_of_ble_eq_true rfl) | exact ixC 4 rfl (Nat.le_of_ble_eq_true rfl) | exact ixC 5 rfl (Nat.le_of_ble_eq_true rfl))
local macro_rules | `(tactic| walk_at "st") => `(tactic| first
  | refine ⟨_, rfl, ?_⟩
  | refine ⟨_, _, rfl, rfl, (by walk_at "cnd" : (_ : Prop)), ?_⟩
  | refine ⟨_, _, rfl, rfl, ?_⟩
  | refine ⟨rfl, ?_⟩
  | refine Or.inl ⟨_, rfl, ?_⟩
  | refine ⟨_, _, _, _, rfl, rfl, by exact SqL.of (by walk_at "hp"), by walk_at "at", ?_⟩
  | refine ⟨_, _, _, _, rfl, rfl, by exact SqT.of (by walk_at "hp"), by walk_at "at", ?_⟩
  | refine ⟨_, _, _, _, rfl, rfl, by walk_at "hp", by walk_at "ix", ?_⟩
  | refine ⟨_, _, rfl, Or.inl (by exact SqL.of (by walk_at "hp")), ?_⟩
  | refine ⟨_, _, rfl, Or.inr (by exact SqT.of (by walk_at "hp")), ?_⟩)
local macro_rules | `(tactic| walk_at "so") => `(tactic| first
  | refine ⟨_, _, _, _, _, rfl, by walk_at "hp", by assumption, by assumption, rfl, ?_⟩
  | refine ⟨_, _, _, _, rfl, by walk_at "hp", by assumption, by assumption, Nat.le_of_ble_eq_true rfl, ?_⟩
  | refine ⟨_, _, _, rfl, by walk_at "hp", rfl, ?_⟩
  | walk_at "st")
local macro_rules | `(tactic| walk_at "ro") => `(tactic| repeat walk_at "so")
local macro_rules | `(tactic| walk_at "run") => `(tactic| repeat walk_at "st")

def shareOf (s : FS) (e : PyData) : Nat := if isE e = true then s.sh.getD (natD e) 0 else 0
def askOf (s : FS) (e : PyData) : Nat := if isE e = true then s.ask.getD (natD e) 0 else 0
def chargeOf (s : FS) (e : PyData) : Nat := (heldOf s e).length
def leftOf (s : FS) : Int := (s.m : Int) - ((s.rt.map List.length).sum : Nat)
def spNat1 (C : Addr) (g : FS → PyData → Nat) : Sp := fun vs H Q _ => ∃ P x a s v d, vs = [.ref x, v] ∧ Fr C P H x a s ∧ Dt H v d ∧ ∀ H', Same H H' → Q (.int (g s d : Nat)) H'
def heldBy (s : FS) (g : Nat) : Bool := s.rt.any fun l => (getR l g).isSome
def spTaken (C : Addr) : Sp := fun vs H Q _ => ∃ P x a s v, ∃ n : Nat, vs = [.ref x, v] ∧ v = .int (n : Int) ∧ n < 4 ∧ Fr C P H x a s ∧ ∀ p H', Same H H' → H p = none → NsL H' p (s.tk.getD n []) → Q (.ref p) H'
def spHeld (C : Addr) : Sp := fun vs H Q _ => ∃ P x a s, ∃ g : Nat, vs = [.ref x, .int (g : Int)] ∧ Fr C P H x a s ∧ ∀ H', Same H H' → Q (.bl (heldBy s g)) H'
def spLeft (C : Addr) : Sp := fun vs H Q _ => ∃ P x a s, vs = [.ref x] ∧ Fr C P H x a s ∧ ∀ H', Same H H' → Q (.int (leftOf s)) H'
theorem getVN' {ws : List Nat} {i : Nat} (h : i < ws.length) : (ws.map vN)[i]? = some (.int (ws.getD i 0 : Nat)) := by
  rw [List.getElem?_map, List.getElem?_eq_getElem h, List.getD_eq_getElem?_getD, List.getElem?_eq_getElem h]; rfl
theorem sum_nat : ∀ ns : List Nat, (ns.map fun n : Nat => (n : Int)).sum = ((ns.sum : Nat) : Int)
  | [] => rfl
  | n :: ns => by
    rw [List.map_cons, List.sum_cons, sum_nat ns, List.sum_cons]
    omega
theorem vN_map (ns : List Nat) : (ns.map fun n : Nat => (n : Int)).map V.int = ns.map vN := by rw [List.map_map]; rfl
section
variable {P : Program} {w : World} {K : PySem.W.Frag} {mg : Str → Option Value} {base : Heap} {C_Frames C_NotValid : Addr}
abbrev s_Frames_share : Stmt := inClass (topS 19) 9
abbrev ns_Frames_share : List Str := ["self", "environment"]
theorem sc_Frames_share : FnScope ns_Frames_share ["self", "environment"] (defScope s_Frames_share) := ⟨rfl, rfl, rfl, by decide +kernel, rfl, by decide +kernel, by decide +kernel⟩

theorem ok_Frames_share {f : Addr} {fd : FuncData} (F : Fun K "share" "Frames.share" s_Frames_share f fd) (T : Txt K mg C_Frames C_NotValid) (D_is_environment : Dfn P w K mg base CX0 4 "is_environment" ["value"] spEnv) : FnOk P w K mg base CX0 5 f fd ["self", "environment"] (spNat1 C_Frames shareOf) := by
  have ho_Frames := T.o_Frames; have hn_Frames__words := T.n_Frames__words; have hn_Frames__shares := T.n_Frames__shares; have hn_Frames__rights := T.n_Frames__rights; have hn_Frames__offers := T.n_Frames__offers; have hn_Frames__asked := T.n_Frames__asked; have hn_Frames__ends_to_wait := T.n_Frames__ends_to_wait; have hn_Frames__taken := T.n_Frames__taken
  refine F.ok sc_Frames_share (fun vs H Q E h => ?_) (fun cdv A outer s H vs Q E hr h => ?_)
  · obtain ⟨P', x, a, s, v, d, rfl, _⟩ := h
    rfl
  · obtain ⟨P', x, a, s', v, d, rfl, fr, hd, k⟩ := h
    refine ⟨_, (pss_cons (ps_if (pt_not (pt_val (pe_dcall D_is_environment (hr.mono (by decide)) (by rfl) pass0 (pa_cons (pv 1) pa_nil)))) (pss_one (ps_ret pe_int)) pss_nil)
  (pss_one (ps_ret (pe_ix (kIxL K) (kFld K (pv 0) rfl) (pv 1) (fun _ _ => rfl))))), ?_⟩
    have h1 := fr.ins
    have h2 : H a.S = some (.lst (s'.sh.map vN)) := fr.hs
    walk_at "ro"
    refine ⟨v, d, rfl, hd, _, rfl, ?_⟩
    have k := k H (Same.refl H)
    unfold shareOf at k
    cases e1 : isE d with
    | false =>
      rw [e1] at k
      exact iteT k
    | true =>
      refine iteF ?_
      rw [if_pos e1] at k
      obtain ⟨n, rfl, n3⟩ := isI_nat e1
      cases hd
      walk_at "ro"
      exact ⟨_, _, _, _, rfl, rfl, SqL.of h2, atC n rfl (getVN' (by rw [fr.ok.sh4]; omega)), k⟩
abbrev s_Frames_asked : Stmt := inClass (topS 19) 15
abbrev ns_Frames_asked : List Str := ["self", "environment"]
theorem sc_Frames_asked : FnScope ns_Frames_asked ["self", "environment"] (defScope s_Frames_asked) := ⟨rfl, rfl, rfl, by decide +kernel, rfl, by decide +kernel, by decide +kernel⟩

theorem ok_Frames_asked {f : Addr} {fd : FuncData} (F : Fun K "asked" "Frames.asked" s_Frames_asked f fd) (T : Txt K mg C_Frames C_NotValid) (D_is_environment : Dfn P w K mg base CX0 4 "is_environment" ["value"] spEnv) : FnOk P w K mg base CX0 5 f fd ["self", "environment"] (spNat1 C_Frames askOf) := by
  have ho_Frames := T.o_Frames; have hn_Frames__words := T.n_Frames__words; have hn_Frames__shares := T.n_Frames__shares; have hn_Frames__rights := T.n_Frames__rights; have hn_Frames__offers := T.n_Frames__offers; have hn_Frames__asked := T.n_Frames__asked; have hn_Frames__ends_to_wait := T.n_Frames__ends_to_wait; have hn_Frames__taken := T.n_Frames__taken
  refine F.ok sc_Frames_asked (fun vs H Q E h => ?_) (fun cdv A outer s H vs Q E hr h => ?_)
  · obtain ⟨P', x, a, s, v, d, rfl, _⟩ := h
    rfl
  · obtain ⟨P', x, a, s', v, d, rfl, fr, hd, k⟩ := h
    refine ⟨_, (pss_cons (ps_if (pt_not (pt_val (pe_dcall D_is_environment (hr.mono (by decide)) (by rfl) pass0 (pa_cons (pv 1) pa_nil)))) (pss_one (ps_ret pe_int)) pss_nil)
  (pss_one (ps_ret (pe_ix (kIxL K) (kFld K (pv 0) rfl) (pv 1) (fun _ _ => rfl))))), ?_⟩
    have h1 := fr.ins
    have h2 : H a.A = some (.lst (s'.ask.map vN)) := fr.ha
    walk_at "ro"
    refine ⟨v, d, rfl, hd, _, rfl, ?_⟩
    have k := k H (Same.refl H)
    unfold askOf at k
    cases e1 : isE d with
    | false =>
      rw [e1] at k
      exact iteT k
    | true =>
      refine iteF ?_
      rw [if_pos e1] at k
      obtain ⟨n, rfl, n3⟩ := isI_nat e1
      cases hd
      walk_at "ro"
      exact ⟨_, _, _, _, rfl, rfl, SqL.of h2, atC n rfl (getVN' (by rw [fr.ok.ask4]; omega)), k⟩
abbrev s_Frames_charge : Stmt := inClass (topS 19) 8
abbrev ns_Frames_charge : List Str := ["self", "environment"]
theorem sc_Frames_charge : FnScope ns_Frames_charge ["self", "environment"] (defScope s_Frames_charge) := ⟨rfl, rfl, rfl, by decide +kernel, rfl, by decide +kernel, by decide +kernel⟩

theorem ok_Frames_charge {f : Addr} {fd : FuncData} (F : Fun K "charge" "Frames.charge" s_Frames_charge f fd) (T : Txt K mg C_Frames C_NotValid) (D_Frames_holdings : Mth P w K mg base CX0 5 C_Frames "holdings" ["self", "environment"] (spHold C_Frames)) : FnOk P w K mg base CX0 6 f fd ["self", "environment"] (spNat1 C_Frames chargeOf) := by
  have ho_Frames := T.o_Frames; have hn_Frames__words := T.n_Frames__words; have hn_Frames__shares := T.n_Frames__shares; have hn_Frames__rights := T.n_Frames__rights; have hn_Frames__offers := T.n_Frames__offers; have hn_Frames__asked := T.n_Frames__asked; have hn_Frames__ends_to_wait := T.n_Frames__ends_to_wait; have hn_Frames__taken := T.n_Frames__taken
  refine F.ok sc_Frames_charge (fun vs H Q E h => ?_) (fun cdv A outer s H vs Q E hr h => ?_)
  · obtain ⟨P', x, a, s, v, d, rfl, _⟩ := h
    rfl
  · obtain ⟨P', x, a, s', v, d, rfl, fr, hd, k⟩ := h
    refine ⟨_, (pss_one (ps_ret (pe_callB (kLen K) (by rfl) T.b_len (by decide +kernel) (pa_cons (pe_dmeth (pv 0) D_Frames_holdings (hr.mono (by decide)) pass0 (pa_cons (pv 1) pa_nil)) pa_nil)))), ?_⟩
    have h1 := fr.ins
    walk_at "ro"
    refine ⟨P', x, a, s', v, d, rfl, fr, hd, fun p H' sm _ hp => ?_⟩
    have hp : H' p = some (.lst ((heldOf s' d).map vN)) := hp
    refine ⟨_, _, rfl, .inl (SqL.of hp), ?_⟩
    have k := k H' sm
    unfold chargeOf at k
    rw [List.length_map]
    exact k
abbrev s_Frames_taken : Stmt := inClass (topS 19) 17
abbrev ns_Frames_taken : List Str := ["self", "environment"]
theorem sc_Frames_taken : FnScope ns_Frames_taken ["self", "environment"] (defScope s_Frames_taken) := ⟨rfl, rfl, rfl, by decide +kernel, rfl, by decide +kernel, by decide +kernel⟩

theorem ok_Frames_taken {f : Addr} {fd : FuncData} (F : Fun K "taken" "Frames.taken" s_Frames_taken f fd) (T : Txt K mg C_Frames C_NotValid) (D_is_environment : Dfn P w K mg base CX0 4 "is_environment" ["value"] spEnv) : FnOk P w K mg base CX0 5 f fd ["self", "environment"] (spTaken C_Frames) := by
  have ho_Frames := T.o_Frames; have hn_Frames__words := T.n_Frames__words; have hn_Frames__shares := T.n_Frames__shares; have hn_Frames__rights := T.n_Frames__rights; have hn_Frames__offers := T.n_Frames__offers; have hn_Frames__asked := T.n_Frames__asked; have hn_Frames__ends_to_wait := T.n_Frames__ends_to_wait; have hn_Frames__taken := T.n_Frames__taken
  refine F.ok sc_Frames_taken (fun vs H Q E h => ?_) (fun cdv A outer s H vs Q E hr h => ?_)
  · obtain ⟨P', x, a, s, v, n, rfl, _⟩ := h
    rfl
  · obtain ⟨P', x, a, s', v, n, rfl, rfl, n4, fr, k⟩ := h
    refine ⟨_, (pss_cons (ps_if (pt_not (pt_val (pe_dcall D_is_environment (hr.mono (by decide)) (by rfl) pass0 (pa_cons (pv 1) pa_nil)))) (pss_one (ps_ret (pe_lst pa_nil))) pss_nil)
  (pss_one (ps_ret (pe_callTy (kListOf K) (by rfl) T.b_list (by decide +kernel) (pa_cons (pe_ix (kIxL K) (kFld K (pv 0) rfl) (pv 1) (fun _ _ => rfl)) pa_nil))))), ?_⟩
    have h1 := fr.ins
    have h2 := fr.t
    walk_at "ro"
    refine ⟨_, _, rfl, .int _, _, rfl, ?_⟩
    have e1 : isE (.int (n : Int)) = true := by
      show (decide ((0 : Int) ≤ (n : Int)) && decide ((n : Int) ≤ 3)) = true
      rw [decide_eq_true (by omega), decide_eq_true (by omega)]; rfl
    rw [e1]
    refine iteF ?_
    have nt : n < s'.tk.length := by rw [fr.ok.tk4]; omega
    obtain ⟨dd, hdd, hdk⟩ := fr.ts.at (List.getElem?_eq_getElem nt)
    have eg : s'.tk.getD n [] = s'.tk[n] := by rw [List.getD_eq_getElem?_getD, List.getElem?_eq_getElem nt]; rfl
    rw [eg] at k
    have hdk : H dd = some (.lst (s'.tk[n].map vN)) := hdk
    walk_at "ro"
    refine ⟨_, _, _, _, rfl, rfl, SqL.of h2, atC n rfl (by rw [List.getElem?_map, hdd]; rfl), ?_⟩
    exact ⟨dd, _, rfl, .inl (SqL.of hdk), fun p hp => k p _ (Same.new hp) hp upd_same⟩
abbrev s_Frames_left : Stmt := inClass (topS 19) 10
abbrev ns_Frames_left : List Str := ["self", "rights"]
theorem sc_Frames_left : FnScope ns_Frames_left ["self"] (defScope s_Frames_left) := ⟨rfl, rfl, rfl, by decide +kernel, rfl, by decide +kernel, by decide +kernel⟩

theorem ok_Frames_left {f : Addr} {fd : FuncData} (F : Fun K "left" "Frames.left" s_Frames_left f fd) (T : Txt K mg C_Frames C_NotValid) : FnOk P w K mg base CX0 1 f fd ["self"] (spLeft C_Frames) := by
  have ho_Frames := T.o_Frames; have hn_Frames__words := T.n_Frames__words; have hn_Frames__shares := T.n_Frames__shares; have hn_Frames__rights := T.n_Frames__rights; have hn_Frames__offers := T.n_Frames__offers; have hn_Frames__asked := T.n_Frames__asked; have hn_Frames__ends_to_wait := T.n_Frames__ends_to_wait; have hn_Frames__taken := T.n_Frames__taken
  refine F.ok sc_Frames_left (fun vs H Q E h => ?_) (fun cdv A outer s H vs Q E hr h => ?_)
  · obtain ⟨P', x, a, s, rfl, _⟩ := h
    rfl
  · obtain ⟨P', x, a, s', rfl, fr, k⟩ := h
    refine ⟨_, (pss_one (ps_ret (pe_op op_sub (pe_callB (kLen K) (by rfl) T.b_len (by decide +kernel) (pa_cons (kFld K (pv 0) rfl) pa_nil)) (pe_callB (kSum K rfl) (by rfl) T.b_sum (by decide +kernel) (pa_cons (pe_lc (own := [("rights", 1)]) (by rfl) sc_Frames_left.nd (kpiL K (kFld K (pv 0) rfl)) (blkOk_by (N := ns_Frames_left) (sc := defScope s_Frames_left) (by decide +kernel)) (fun _ _ _ _ _ => (pg_name (i := 1) sc_Frames_left.nd rfl (Or.inl rfl))) (fun _ _ _ _ _ => pts_nil) (fun _ _ _ _ _ => (pe_callB call_lenD (by rfl) T.b_len (by decide +kernel) (pa_cons (pv 1) pa_nil)))) pa_nil))))), ?_⟩
    have h1 := fr.ins
    have h2 := fr.w
    have h3 := fr.r
    have wl : (a.wds.map V.ref).length = s'.m := by rw [List.length_map, fr.ws.1, fr.ok.wdm]
    have rl : a.rds.length = s'.rt.length := fr.rs.1
    walk_at "ro"
    refine ⟨⟨_, SqL.of h3⟩, fun D hD => ?_⟩
    refine lcL (xs := a.rds.map V.ref) ((s'.rt.map List.length).map vN) (by simp [rl]) (by rw [List.length_map, rl, fr.ok.rt4]; decide) h3 hD ?_ ?_
    · intro j y z H2 Q' hy hz s2 q
      have hj : j < s'.rt.length := by
        have := (List.getElem?_eq_some_iff.mp hy).1
        rw [List.length_map, rl] at this
        exact this
      obtain ⟨dd, hdd, hdk⟩ := fr.rs.at (List.getElem?_eq_getElem hj)
      have ey : y = .ref dd := by
        rw [List.getElem?_map, hdd] at hy
        exact (Option.some.inj hy).symm
      have ez : z = .int (s'.rt[j].length : Nat) := by
        rw [List.getElem?_map, List.getElem?_map, List.getElem?_eq_getElem hj] at hz
        exact (Option.some.inj hz).symm
      subst ey ez
      refine ⟨rfl, ?_⟩
      walk_at "ro"
      refine ⟨dd, _, rfl, s2 _ _ hdk, ?_⟩
      have e : (entR s'.rt[j]).length = s'.rt[j].length := by unfold entR; rw [List.length_map]
      rw [e]
      exact q H2 (Same.refl _)
    · intro H2 s2 d2
      walk_at "ro"
      refine ⟨D, (s'.rt.map List.length).map fun n : Nat => (n : Int), rfl, SqL.of (by rw [vN_map]; exact d2), ?_⟩
      rw [sum_nat, wl]
      exact ⟨_, _, rfl, rfl, k H2 s2⟩
abbrev s_Frames_is_held : Stmt := inClass (topS 19) 19
abbrev ns_Frames_is_held : List Str := ["self", "frame", "rights"]
theorem sc_Frames_is_held : FnScope ns_Frames_is_held ["self", "frame"] (defScope s_Frames_is_held) := ⟨rfl, rfl, rfl, by decide +kernel, rfl, by decide +kernel, by decide +kernel⟩

theorem ok_Frames_is_held {f : Addr} {fd : FuncData} (F : Fun K "_is_held" "Frames._is_held" s_Frames_is_held f fd) (T : Txt K mg C_Frames C_NotValid) : FnOk P w K mg base CX0 1 f fd ["self", "frame"] (spHeld C_Frames) := by
  have ho_Frames := T.o_Frames; have hn_Frames__words := T.n_Frames__words; have hn_Frames__shares := T.n_Frames__shares; have hn_Frames__rights := T.n_Frames__rights; have hn_Frames__offers := T.n_Frames__offers; have hn_Frames__asked := T.n_Frames__asked; have hn_Frames__ends_to_wait := T.n_Frames__ends_to_wait; have hn_Frames__taken := T.n_Frames__taken
  refine F.ok sc_Frames_is_held (fun vs H Q E h => ?_) (fun cdv A outer s H vs Q E hr h => ?_)
  · obtain ⟨P', x, a, s, g, rfl, _⟩ := h
    rfl
  · obtain ⟨P', x, a, s', g, rfl, fr, k⟩ := h
    refine ⟨_, (pss_one (ps_ret (pe_callB (kAny K rfl) (by rfl) T.b_any (by decide +kernel) (pa_cons (pe_lc (own := [("rights", 2)]) (by rfl) sc_Frames_is_held.nd (kpiL K (kFld K (pv 0) rfl)) (blkOk_by (N := ns_Frames_is_held) (sc := defScope s_Frames_is_held) (by decide +kernel)) (fun _ _ _ _ _ => (pg_name (i := 2) sc_Frames_is_held.nd rfl (Or.inl rfl))) (fun _ _ _ _ _ => pts_nil) (fun _ _ _ _ _ => (pe_cmp (pc_din (units1 hr) (pv 1) (pv 2))))) pa_nil)))), ?_⟩
    have h1 := fr.ins
    have h3 := fr.r
    have rl : a.rds.length = s'.rt.length := fr.rs.1
    walk_at "ro"
    refine ⟨⟨_, SqL.of h3⟩, fun D hD => ?_⟩
    refine lcL (xs := a.rds.map V.ref) ((s'.rt.map fun l => (getR l g).isSome).map V.bl) (by simp [rl]) (by rw [List.length_map, rl, fr.ok.rt4]; decide) h3 hD ?_ ?_
    · intro j y z H2 Q' hy hz s2 q
      have hj : j < s'.rt.length := by
        have := (List.getElem?_eq_some_iff.mp hy).1
        rw [List.length_map, rl] at this
        exact this
      obtain ⟨dd, hdd, hdk⟩ := fr.rs.at (List.getElem?_eq_getElem hj)
      have ey : y = .ref dd := by
        rw [List.getElem?_map, hdd] at hy
        exact (Option.some.inj hy).symm
      have ez : z = .bl (getR s'.rt[j] g).isSome := by
        rw [List.getElem?_map, List.getElem?_map, List.getElem?_eq_getElem hj] at hz
        exact (Option.some.inj hz).symm
      subst ey ez
      refine ⟨rfl, ?_⟩
      walk_at "ro"
      refine ⟨dd, _, rfl, DGet.k (k := .inl (g : Int)) (s2 _ _ hdk), ?_⟩
      have e : (valV (entR s'.rt[j]) (.inl (g : Int))).isSome = (getR s'.rt[j] g).isSome := by
        rw [valR]
        cases getR s'.rt[j] g <;> rfl
      rw [e]
      exact q H2 (Same.refl _)
    · intro H2 s2 d2
      walk_at "ro"
      refine ⟨_, _, rfl, SqL.of d2, ?_⟩
      have k := k H2 s2
      unfold heldBy at k
      rw [List.any_map]
      exact k
end
end My

namespace My
open PySem L2
local macro_rules | `(tactic| walk_at "ne") => `(tactic| first | assumption | exact Ne.symm (by assumption) | exact ne_of_none (by assumption) (by assumption) | exact Ne.symm (ne_of_none (by assumption) (by assumption)))
local macro_rules | `(tactic| walk_at "hp") => `(tactic| first | assumption | with_reducible exact upd_same | (with_reducible refine Eq.trans (upd_ne ?_) ?_; rotate_left; walk_at "hp"; walk_at "ne"))
local macro_rules | `(tactic| walk_at "cnd") => `(tactic| first | omega | (show (0 : Int) < _; omega) | exact ⟨by omega, by omega⟩ | exact Or.inl ⟨by omega, by omega⟩ | exact Or.inr ⟨by omega, by omega⟩ | exact ⟨by omega, by omega, by decide⟩ | exact ⟨by omega, by omega, by omega⟩)
local macro_rules | `(tactic| walk_at "at") => `(tactic| first | exact atC 0 rfl rfl | exact atC 1 rfl rfl | exact atC 2 rfl rfl | exact atC 3 rfl rfl | exact atC 4 rfl rfl | exact atC 5 rfl rfl | exact atC 6 rfl rfl | exact atC 7 rfl rfl)
local macro_rules | `(tactic| walk_at "ix") => `(tactic| first | exact ixC 0 rfl (Nat.le_of_ble_eq_true rfl) | exact ixC 1 rfl (Nat.le_of_ble_eq_true rfl) | exact ixC 2 rfl (Nat.le_of_ble_eq_true rfl) | exact ixC 3 rfl (Nat.le_of_ble_eq_true rfl) | exact ixC 4 rfl (Nat.le_of_ble_eq_true rfl) | exact ixC 5 rfl (Nat.le_of_ble_eq_true rfl))
local macro_rules | `(tactic| walk_at "st") => `(tactic| first
  | refine ⟨_, rfl, ?_⟩
  | refine ⟨_, _, rfl, rfl, (by walk_at "cnd" : (_ : Prop)), ?_⟩
  | refine ⟨_, _, rfl, rfl, ?_⟩
  | refine ⟨rfl, ?_⟩
  | refine Or.inl ⟨_, rfl, ?_⟩
  | refine ⟨_, _, _, _, rfl, rfl, by exact SqL.of (by walk_at "hp"), by walk_at "at", ?_⟩
  | refine ⟨_, _, _, _, rfl, rfl, by exact SqT.of (by walk_at "hp"), by walk_at "at", ?_⟩
  | refine ⟨_, _, _, _, rfl, rfl, by walk_at "hp", by walk_at "ix", ?_⟩
  | refine ⟨_, _, rfl, Or.inl (by exact SqL.of (by walk_at "hp")), ?_⟩
  | refine ⟨_, _, rfl, Or.inr (by exact SqT.of (by walk_at "hp")), ?_⟩)
local macro_rules | `(tactic| walk_at "so") => `(tactic| first
  | refine ⟨_, _, _, _, _, rfl, by walk_at "hp", by assumption, by assumption, rfl, ?_⟩
  | refine ⟨_, _, _, _, rfl, by walk_at "hp", by assumption, by assumption, Nat.le_of_ble_eq_true rfl, ?_⟩
  | refine ⟨_, _, _, rfl, by walk_at "hp", rfl, ?_⟩
  | walk_at "st")
local macro_rules | `(tactic| walk_at "ro") => `(tactic| repeat walk_at "so")
local macro_rules | `(tactic| walk_at "run") => `(tactic| repeat walk_at "st")

def freeT (s : FS) (n : Nat) : List Nat := (List.range n).filter fun f => !heldBy s f
theorem freeT_snoc (s : FS) (n : Nat) : freeT s (n + 1) = freeT s n ++ (if heldBy s n = true then [] else [n]) := by
  unfold freeT
  rw [List.range_succ, List.filter_append]
  congr 1
  cases e : heldBy s n <;> simp [e]
theorem freeT_len (s : FS) (n : Nat) : (freeT s n).length ≤ n := by
  refine Nat.le_trans (List.length_filter_le _ _) ?_
  rw [List.length_range]
  exact Nat.le_refl _
def spFree (C : Addr) : Sp := fun vs H Q _ => ∃ P x a s, vs = [.ref x] ∧ Fr C P H x a s ∧ ∀ p H', Same H H' → H p = none → NsL H' p (freeT s s.m) → Q (.ref p) H'
def unchOf (s : FS) (e : PyData) : Nat := shareOf s e - chargeOf s e
def eD (n : Nat) : PyData := .int (n : Int)
def lackOf (s : FS) : Nat := ((List.range 4).map fun n => unchOf s (eD n)).sum
def moreOf (s : FS) (e : PyData) : Bool := decide (0 < unchOf s e) || decide ((lackOf s : Int) < leftOf s)
def spMore (C : Addr) : Sp := fun vs H Q _ => ∃ P x a s v d, vs = [.ref x, v] ∧ Fr C P H x a s ∧ Dt H v d ∧ ∀ H', Same H H' → Q (.bl (moreOf s d)) H'
theorem Each.same {α : Type} {rel : Hp → Addr → α → Prop} {H H' : Hp} {ds : List Addr} {ls : List α} (h : Each rel H ds ls) (f : ∀ d l, rel H d l → rel H' d l) : Each rel H' ds ls := h.mono fun d l _ r => f d l r
theorem Fr.same {C : Addr} {P : Addr → Prop} {H H' : Hp} {x : Addr} {a : FA} {s : FS} (h : Fr C P H x a s) (m : Same H H') : Fr C P H' x a s :=
  ⟨h.ok, h.nd, h.mine, m _ _ h.ins, m _ _ h.w, h.ws.same fun _ _ r => m _ _ r, m _ _ h.hs, m _ _ h.r, h.rs.same fun _ _ r => m _ _ r, m _ _ h.o, h.il, h.os.same fun _ _ ⟨r1, r2⟩ => ⟨m _ _ r1, r2.same fun _ _ r => m _ _ r⟩, m _ _ h.ha, m _ _ h.he, m _ _ h.t, h.ts.same fun _ _ r => m _ _ r⟩
section
variable {P : Program} {w : World} {K : PySem.W.Frag} {mg : Str → Option Value} {base : Heap} {C_Frames C_NotValid : Addr}
abbrev s_Frames_free : Stmt := inClass (topS 19) 11
abbrev ns_Frames_free : List Str := ["self", "frame"]
theorem sc_Frames_free : FnScope ns_Frames_free ["self"] (defScope s_Frames_free) := ⟨rfl, rfl, rfl, by decide +kernel, rfl, by decide +kernel, by decide +kernel⟩

theorem ok_Frames_free {f : Addr} {fd : FuncData} (F : Fun K "free" "Frames.free" s_Frames_free f fd) (T : Txt K mg C_Frames C_NotValid) (D_Frames_is_held : Mth P w K mg base CX0 1 C_Frames "_is_held" ["self", "frame"] (spHeld C_Frames)) : FnOk P w K mg base CX0 2 f fd ["self"] (spFree C_Frames) := by
  have ho_Frames := T.o_Frames; have hn_Frames__words := T.n_Frames__words; have hn_Frames__shares := T.n_Frames__shares; have hn_Frames__rights := T.n_Frames__rights; have hn_Frames__offers := T.n_Frames__offers; have hn_Frames__asked := T.n_Frames__asked; have hn_Frames__ends_to_wait := T.n_Frames__ends_to_wait; have hn_Frames__taken := T.n_Frames__taken
  refine F.ok sc_Frames_free (fun vs H Q E h => ?_) (fun cdv A outer s H vs Q E hr h => ?_)
  · obtain ⟨P', x, a, s, rfl, _⟩ := h
    rfl
  · obtain ⟨P', x, a, s', rfl, fr, k⟩ := h
    refine ⟨_, (pss_one (ps_ret (pe_lc (own := [("frame", 1)]) (by rfl) sc_Frames_free.nd (pi_range1 (by rfl) T.b_range (pa_cons (pe_callB (kLen K) (by rfl) T.b_len (by decide +kernel) (pa_cons (kFld K (pv 0) rfl) pa_nil)) pa_nil)) (blkOk_by (N := ns_Frames_free) (sc := defScope s_Frames_free) (by decide +kernel)) (fun _ _ _ _ _ => (pg_name (i := 1) sc_Frames_free.nd rfl (Or.inl rfl))) (fun _ _ _ _ _ => (pts_one (pt_not (pt_val (pe_dmeth (pv 0) D_Frames_is_held (hr.mono (by decide)) pass0 (pa_cons (pv 1) pa_nil)))))) (fun _ _ _ _ _ => (pv 1))))), ?_⟩
    have h1 := fr.ins
    have h2 := fr.w
    have wl : (a.wds.map V.ref).length = s'.m := by rw [List.length_map, fr.ws.1, fr.ok.wdm]
    have m64 := fr.ok.m64
    walk_at "ro"
    refine ⟨by omega, by omega, fun D hD => ?_⟩
    refine lc_range (lo := 0) (n := (((a.wds.map V.ref).length : Int) - 0).toNat) (fun j Hx => Hx D = some (.lst ((freeT s' j).map vN)) ∧ Same H Hx) ⟨upd_same, Same.new hD⟩ ?_ ?_
    · rintro j Hx hj ⟨hx1, sx⟩
      have fl := freeT_len s' j
      have h1x := sx _ _ h1
      refine ⟨rfl, ?_⟩
      walk_at "ro"
      refine ⟨P', x, a, s', j, by rw [Int.zero_add]; rfl, fr.same sx, fun H4 s4 => ?_⟩
      refine ⟨_, rfl, ?_⟩
      have hx4 := s4 _ _ hx1
      have sx4 := sx.trans s4
      cases e : heldBy s' j with
      | true =>
        refine iteF ?_
        refine ⟨?_, sx4⟩
        rw [freeT_snoc, e, if_pos rfl, List.append_nil]
        exact hx4
      | false =>
        refine iteT ?_
        walk_at "ro"
        refine ⟨_, hx4, szt (by rw [List.length_map]; omega), ?_, Same.mut sx4 hD⟩
        rw [upd_same, freeT_snoc, e, Int.zero_add, List.map_append]; rfl
    · rintro Hx ⟨hx1, sx⟩
      rw [show (((a.wds.map V.ref).length : Int) - 0).toNat = s'.m by omega] at hx1
      exact k D Hx sx hD hx1
abbrev s_Frames_uncharged : Stmt := inClass (topS 19) 22
abbrev ns_Frames_uncharged : List Str := ["self", "environment"]
theorem sc_Frames_uncharged : FnScope ns_Frames_uncharged ["self", "environment"] (defScope s_Frames_uncharged) := ⟨rfl, rfl, rfl, by decide +kernel, rfl, by decide +kernel, by decide +kernel⟩

theorem ok_Frames_uncharged {f : Addr} {fd : FuncData} (F : Fun K "_uncharged" "Frames._uncharged" s_Frames_uncharged f fd) (T : Txt K mg C_Frames C_NotValid) (D_Frames_share : Mth P w K mg base CX0 5 C_Frames "share" ["self", "environment"] (spNat1 C_Frames shareOf)) (D_Frames_charge : Mth P w K mg base CX0 6 C_Frames "charge" ["self", "environment"] (spNat1 C_Frames chargeOf)) : FnOk P w K mg base CX0 7 f fd ["self", "environment"] (spNat1 C_Frames unchOf) := by
  have ho_Frames := T.o_Frames; have hn_Frames__words := T.n_Frames__words; have hn_Frames__shares := T.n_Frames__shares; have hn_Frames__rights := T.n_Frames__rights; have hn_Frames__offers := T.n_Frames__offers; have hn_Frames__asked := T.n_Frames__asked; have hn_Frames__ends_to_wait := T.n_Frames__ends_to_wait; have hn_Frames__taken := T.n_Frames__taken
  refine F.ok sc_Frames_uncharged (fun vs H Q E h => ?_) (fun cdv A outer s H vs Q E hr h => ?_)
  · obtain ⟨P', x, a, s, v, d, rfl, _⟩ := h
    rfl
  · obtain ⟨P', x, a, s', v, d, rfl, fr, hd, k⟩ := h
    refine ⟨_, (pss_one (ps_ret (pe_callB (call_max2 rfl) (by rfl) T.b_max (by decide +kernel) (pa_cons pe_int (pa_cons (pe_op op_sub (pe_dmeth (pv 0) D_Frames_share (hr.mono (by decide)) pass0 (pa_cons (pv 1) pa_nil)) (pe_dmeth (pv 0) D_Frames_charge (hr.mono (by decide)) pass0 (pa_cons (pv 1) pa_nil))) pa_nil))))), ?_⟩
    have h1 := fr.ins
    walk_at "ro"
    refine ⟨P', x, a, s', v, d, rfl, fr, hd, fun H1 s1 => ?_⟩
    have h11 := s1 _ _ h1
    walk_at "ro"
    refine ⟨P', x, a, s', v, d, rfl, fr.same s1, hd.same s1, fun H2 s2 => ?_⟩
    have k := k H2 (s1.trans s2)
    unfold unchOf at k
    refine ⟨_, _, rfl, rfl, ?_⟩
    refine ⟨_, _, rfl, ?_⟩
    have e : (if (shareOf s' d : Int) - (chargeOf s' d : Int) > 0 then (shareOf s' d : Int) - (chargeOf s' d : Int) else 0) = ((shareOf s' d - chargeOf s' d : Nat) : Int) := by
      split <;> omega
    rw [e]
    exact k
abbrev s_Frames_may_hold_more : Stmt := inClass (topS 19) 21
abbrev ns_Frames_may_hold_more : List Str := ["self", "environment", "other"]
theorem sc_Frames_may_hold_more : FnScope ns_Frames_may_hold_more ["self", "environment"] (defScope s_Frames_may_hold_more) := ⟨rfl, rfl, rfl, by decide +kernel, rfl, by decide +kernel, by decide +kernel⟩

theorem ok_Frames_may_hold_more {f : Addr} {fd : FuncData} (F : Fun K "_may_hold_more" "Frames._may_hold_more" s_Frames_may_hold_more f fd) (T : Txt K mg C_Frames C_NotValid) (D_Frames_uncharged : Mth P w K mg base CX0 7 C_Frames "_uncharged" ["self", "environment"] (spNat1 C_Frames unchOf)) (D_Frames_left : Mth P w K mg base CX0 1 C_Frames "left" ["self"] (spLeft C_Frames)) : FnOk P w K mg base CX0 8 f fd ["self", "environment"] (spMore C_Frames) := by
  have ho_Frames := T.o_Frames; have hn_Frames__words := T.n_Frames__words; have hn_Frames__shares := T.n_Frames__shares; have hn_Frames__rights := T.n_Frames__rights; have hn_Frames__offers := T.n_Frames__offers; have hn_Frames__asked := T.n_Frames__asked; have hn_Frames__ends_to_wait := T.n_Frames__ends_to_wait; have hn_Frames__taken := T.n_Frames__taken
  refine F.ok sc_Frames_may_hold_more (fun vs H Q E h => ?_) (fun cdv A outer s H vs Q E hr h => ?_)
  · obtain ⟨P', x, a, s, v, d, rfl, _⟩ := h
    rfl
  · obtain ⟨P', x, a, s', v, d, rfl, fr, hd, k⟩ := h
    refine ⟨_, (pss_cons (ps_if (pt_cmpR op_gt (pe_dmeth (pv 0) D_Frames_uncharged (hr.mono (by decide)) pass0 (pa_cons (pv 1) pa_nil)) pe_int (nomark _)) (pss_one (ps_ret pe_bl)) pss_nil)
  (pss_one (ps_ret (pe_cmpR op_gt (pe_dmeth0 (pv 0) D_Frames_left (hr.mono (by decide)) pass0 ) (pe_callB (kSum K rfl) (by rfl) T.b_sum (by decide +kernel) (pa_cons (pe_lc (own := [("other", 2)]) (by rfl) sc_Frames_may_hold_more.nd (pi_range1 (by rfl) T.b_range (pa_cons (pe_gint (by rfl) T.c_ENVIRONMENTS) pa_nil)) (blkOk_by (N := ns_Frames_may_hold_more) (sc := defScope s_Frames_may_hold_more) (by decide +kernel)) (fun _ _ _ _ _ => (pg_name (i := 2) sc_Frames_may_hold_more.nd rfl (Or.inl rfl))) (fun _ _ _ _ _ => pts_nil) (fun _ _ _ _ _ => (pe_dmeth (pv 0) D_Frames_uncharged (hr.mono (by decide)) pass0 (pa_cons (pv 2) pa_nil)))) pa_nil)) (nomark _))))), ?_⟩
    have h1 := fr.ins
    walk_at "ro"
    refine ⟨P', x, a, s', v, d, rfl, fr, hd, fun H1 s1 => ?_⟩
    walk_at "ro"
    unfold moreOf at k
    refine iteD (fun e1 => ?_) (fun e1 => ?_)
    · have k := k H1 s1
      rw [decide_eq_true (by omega : 0 < unchOf s' d)] at k
      exact k
    · have h11 := s1 _ _ h1
      walk_at "ro"
      refine ⟨P', x, a, s', rfl, fr.same s1, fun H2 s2 => ?_⟩
      have s02 := s1.trans s2
      walk_at "ro"
      refine ⟨by decide, by decide, fun D hD => ?_⟩
      refine lc_range (lo := 0) (n := ((4 : Int) - 0).toNat) (fun j Hx => Hx D = some (.lst (((List.range j).map fun n => unchOf s' (eD n)).map vN)) ∧ Same H2 Hx) ⟨upd_same, Same.new hD⟩ ?_ ?_
      · rintro j Hx hj ⟨hx1, sx⟩
        have hj : j < 4 := hj
        have h1x := sx _ _ (s02 _ _ h1)
        refine ⟨rfl, ?_⟩
        walk_at "ro"
        refine ⟨P', x, a, s', _, eD j, rfl, fr.same (s02.trans sx), by rw [Int.zero_add]; exact .int _, fun H4 s4 => ?_⟩
        refine ⟨_, s4 _ _ hx1, szt (by rw [List.length_map, List.length_map, List.length_range]; omega), ?_, Same.mut (sx.trans s4) hD⟩
        rw [upd_same, List.range_succ, List.map_append, List.map_append]; rfl
      · rintro Hx ⟨hx1, sx⟩
        walk_at "ro"
        refine ⟨D, ((List.range 4).map fun n => unchOf s' (eD n)).map fun n : Nat => (n : Int), rfl, SqL.of (by rw [vN_map]; exact hx1), ?_⟩
        rw [sum_nat]
        have k := k Hx (s02.trans sx)
        rw [decide_eq_false (by omega : ¬ 0 < unchOf s' d), Bool.false_or] at k
        refine ⟨_, _, rfl, rfl, ?_⟩
        exact k
end
end My

namespace My
open PySem L2
local macro_rules | `(tactic| walk_at "ne") => `(tactic| first | assumption | exact Ne.symm (by assumption) | exact ne_of_none (by assumption) (by assumption) | exact Ne.symm (ne_of_none (by assumption) (by assumption)))
local macro_rules | `(tactic| walk_at "hp") => `(tactic| first | assumption | with_reducible exact upd_same | (with_reducible refine Eq.trans (upd_ne ?_) ?_; rotate_left; walk_at "hp"; walk_at "ne"))
local macro_rules | `(tactic| walk_at "cnd") => `(tactic| first | omega | (show (0 : Int) < _; omega) | exact ⟨by omega, by omega⟩ | exact Or.inl ⟨by omega, by omega⟩ | exact Or.inr ⟨by omega, by omega⟩ | exact ⟨by omega, by omega, by decide⟩ | exact ⟨by omega, by omega, by omega⟩)
local macro_rules | `(tactic| walk_at "at") => `(tactic| first | exact atC 0 rfl rfl | exact atC 1 rfl rfl | exact atC 2 rfl rfl | exact atC 3 rfl rfl | exact atC 4 rfl rfl | exact atC 5 rfl rfl | exact atC 6 rfl rfl | exact atC 7 rfl rfl)
local macro_rules | `(tactic| walk_at "ix") => `(tactic| first | exact ixC 0 rfl (Nat.le_of_ble_eq_true rfl) | exact ixC 1 rfl (Nat.le_of_ble_eq_true rfl) | exact ixC 2 rfl (Nat.le_of_ble_eq_true rfl) | exact ixC 3 rfl (Nat.le_of_ble_eq_true rfl) | exact ixC 4 rfl (Nat.le_of_ble_eq_true rfl) | exact ixC 5 rfl (Nat.le_of_ble_eq_true rfl))
local macro_rules | `(tactic| walk_at "st") => `(tactic| first
  | refine ⟨_, rfl, ?_⟩
  | refine ⟨_, _, rfl, rfl, (by walk_at "cnd" : (_ : Prop)), ?_⟩
  | refine ⟨_, _, rfl, rfl, ?_⟩
  | refine ⟨rfl, ?_⟩
  | refine Or.inl ⟨_, rfl, ?_⟩
  | refine ⟨_, _, _, _, rfl, rfl, by exact SqL.of (by walk_at "hp"), by walk_at "at", ?_⟩
  | refine ⟨_, _, _, _, rfl, rfl, by exact SqT.of (by walk_at "hp"), by walk_at "at", ?_⟩
  | refine ⟨_, _, _, _, rfl, rfl, by walk_at "hp", by walk_at "ix", ?_⟩
  | refine ⟨_, _, rfl, Or.inl (by exact SqL.of (by walk_at "hp")), ?_⟩
  | refine ⟨_, _, rfl, Or.inr (by exact SqT.of (by walk_at "hp")), ?_⟩)
local macro_rules | `(tactic| walk_at "so") => `(tactic| first
  | refine ⟨_, _, _, _, _, rfl, by walk_at "hp", by assumption, by assumption, rfl, ?_⟩
  | refine ⟨_, _, _, _, rfl, by walk_at "hp", by assumption, by assumption, Nat.le_of_ble_eq_true rfl, ?_⟩
  | refine ⟨_, _, _, rfl, by walk_at "hp", rfl, ?_⟩
  | walk_at "st")
local macro_rules | `(tactic| walk_at "ro") => `(tactic| repeat walk_at "so")
local macro_rules | `(tactic| walk_at "run") => `(tactic| repeat walk_at "st")

def getO (l : List (Nat × RL)) (f : Nat) : Option RL := (l.find? fun p => decide (p.1 = f)).map (·.2)
theorem valO {H : Hp} (f : Nat) : ∀ {l : List (Nat × RL)} {is : List Addr}, Each (fun H i (p : Nat × RL) => RtD H i p.2) H is l → (∃ i rl, valV (entO l is) (.inl (f : Int)) = some (.ref i) ∧ getO l f = some rl ∧ RtD H i rl ∧ i ∈ is) ∨ (valV (entO l is) (.inl (f : Int)) = none ∧ getO l f = none)
  | [], is, _ => .inr ⟨by unfold entO; rw [List.zip_nil_left]; rfl, rfl⟩
  | p :: l, [], h => by cases h.1
  | p :: l, i :: is, h => by
    have h' : Each (fun H i (p : Nat × RL) => RtD H i p.2) H is l := ⟨by simpa using h.1, fun j d q a b => h.2 (j + 1) d q (by simpa using a) (by simpa using b)⟩
    have h0 := h.2 0 i p rfl rfl
    have e0 : entO (p :: l) (i :: is) = (.inl (p.1 : Int), .ref i) :: entO l is := rfl
    rw [e0]
    unfold getO
    by_cases e : p.1 = f
    · rw [valV_pos (keyI.mpr e), List.find?_cons_of_pos (by simp [e])]
      exact .inl ⟨i, p.2, rfl, rfl, h0, List.mem_cons_self⟩
    · rw [valV_neg (fun q => e (keyI.mp q)), List.find?_cons_of_neg (by simp [e])]
      rcases valO f h' with ⟨i', rl, a, b, c, d⟩ | h
      · exact .inl ⟨i', rl, a, b, c, List.mem_cons_of_mem _ d⟩
      · exact .inr h
def offOf (s : FS) (w f o : PyData) : Option Bool := if isE w = true ∧ isE o = true ∧ isF s f = true then getR ((getO (s.of.getD (natD w) []) (natD f)).getD []) (natD o) else none
def spOff (C : Addr) : Sp := fun vs H Q _ => ∃ P x a s v d u e z g, vs = [.ref x, v, u, z] ∧ Fr C P H x a s ∧ Dt H v d ∧ Dt H u e ∧ Dt H z g ∧ ∀ H', Same H H' → Q (optR (offOf s d e g)) H'
section
variable {P : Program} {w : World} {K : PySem.W.Frag} {mg : Str → Option Value} {base : Heap} {C_Frames C_NotValid : Addr}
abbrev s_Frames_offered : Stmt := inClass (topS 19) 20
abbrev ns_Frames_offered : List Str := ["self", "owner", "frame", "other"]
theorem sc_Frames_offered : FnScope ns_Frames_offered ["self", "owner", "frame", "other"] (defScope s_Frames_offered) := ⟨rfl, rfl, rfl, by decide +kernel, rfl, by decide +kernel, by decide +kernel⟩

theorem ok_Frames_offered {f : Addr} {fd : FuncData} (F : Fun K "_offered" "Frames._offered" s_Frames_offered f fd) (T : Txt K mg C_Frames C_NotValid) (D_is_environment : Dfn P w K mg base CX0 4 "is_environment" ["value"] spEnv) (D_Frames_is_frame : Mth P w K mg base CX0 4 C_Frames "_is_frame" ["self", "value"] (spIsF C_Frames)) : FnOk P w K mg base CX0 5 f fd ["self", "owner", "frame", "other"] (spOff C_Frames) := by
  have ho_Frames := T.o_Frames; have hn_Frames__words := T.n_Frames__words; have hn_Frames__shares := T.n_Frames__shares; have hn_Frames__rights := T.n_Frames__rights; have hn_Frames__offers := T.n_Frames__offers; have hn_Frames__asked := T.n_Frames__asked; have hn_Frames__ends_to_wait := T.n_Frames__ends_to_wait; have hn_Frames__taken := T.n_Frames__taken
  refine F.ok sc_Frames_offered (fun vs H Q E h => ?_) (fun cdv A outer s H vs Q E hr h => ?_)
  · obtain ⟨P', x, a, s, v, d, u, e, z, g, rfl, _⟩ := h
    rfl
  · obtain ⟨P', x, a, s', v, d, u, e, z, g, rfl, fr, hd, he, hg, k⟩ := h
    refine ⟨_, (pss_cons (ps_if (PW.pt (pw_or (pt_not (pt_val (pe_dcall D_is_environment (hr.mono (by decide)) (by rfl) pass0 (pa_cons (pv 1) pa_nil)))) (pw_or (pt_not (pt_val (pe_dcall D_is_environment (hr.mono (by decide)) (by rfl) pass0 (pa_cons (pv 3) pa_nil)))) (pw_or1 (pt_not (pt_val (pe_dmeth (pv 0) D_Frames_is_frame (hr.mono (by decide)) pass0 (pa_cons (pv 2) pa_nil)))))))) (pss_one (ps_ret pe_non)) pss_nil)
  (pss_one (ps_ret (pe_dget1 (units1 hr) (pe_dget2 (units1 hr) (pe_ix (kIxL K) (kFld K (pv 0) rfl) (pv 1) (fun _ _ => rfl)) (pv 2) pe_dnewK ⟨rfl, rfl, rfl, rfl⟩) (pv 3) ⟨rfl, rfl, rfl, rfl⟩)))), ?_⟩
    have h1 := fr.ins
    have h2 := fr.o
    have bad : offOf s' d e g = none → Q .non H := fun q => by
      have k := k H (Same.refl H)
      rw [q] at k
      exact k
    walk_at "ro"
    refine ⟨v, d, rfl, hd, _, rfl, ?_⟩
    cases e1 : isE d with
    | false => exact iteT (bad (by unfold offOf; rw [e1]; rfl))
    | true =>
      refine iteF ?_
      walk_at "ro"
      refine ⟨z, g, rfl, hg, _, rfl, ?_⟩
      cases e2 : isE g with
      | false => exact iteT (bad (by unfold offOf; rw [e1, e2]; rfl))
      | true =>
        refine iteF ?_
        walk_at "ro"
        refine ⟨P', x, a, s', u, e, rfl, fr, he, _, rfl, ?_⟩
        cases e3 : isF s' e with
        | false => exact iteT (bad (by unfold offOf; rw [e1, e2, e3]; rfl))
        | true =>
          refine iteF ?_
          obtain ⟨n, rfl, n3⟩ := isI_nat e1
          obtain ⟨o, rfl, o3⟩ := isI_nat e2
          obtain ⟨t, rfl, _⟩ := isI_nat e3
          cases hd
          cases he
          cases hg
          have er : offOf s' (.int (n : Int)) (.int (t : Int)) (.int (o : Int)) = getR ((getO (s'.of.getD n []) t).getD []) o := by
            unfold offOf
            rw [if_pos ⟨e1, e2, e3⟩]; rfl
          rw [er] at k
          have n4 : n < s'.of.length := by rw [fr.ok.of4]; omega
          have nz : (a.ids.zip s'.of)[n]? = some (a.ids[n]'(by rw [fr.il]; exact n4), s'.of[n]) := by
            rw [List.getElem?_zip_eq_some]
            exact ⟨List.getElem?_eq_getElem _, List.getElem?_eq_getElem _⟩
          obtain ⟨dd, hdd, hdk, hdi⟩ := fr.os.at nz
          have eg : s'.of.getD n [] = s'.of[n] := by rw [List.getD_eq_getElem?_getD, List.getElem?_eq_getElem n4]; rfl
          rw [eg] at k
          walk_at "ro"
          refine ⟨_, _, _, _, rfl, rfl, SqL.of h2, atC n rfl (by rw [List.getElem?_map, hdd]; rfl), ?_⟩
          refine ⟨dd, rfl, .inl ⟨_, .inl hdk⟩, ?_⟩
          walk_at "ro"
          refine fun q hq => ?_
          have sq := Same.new (o := .dK []) hq
          refine ⟨_, DGet.k (k := .inl (t : Int)) (sq _ _ hdk), ?_⟩
          rcases valO t hdi with ⟨i, rl, a1, a2, a3, _⟩ | ⟨a1, a2⟩
          · rw [a1]
            rw [a2] at k
            refine ⟨i, rfl, .inl ⟨_, .inl (sq _ _ a3)⟩, ?_⟩
            walk_at "ro"
            refine ⟨_, DGet.k (k := .inl (o : Int)) (sq _ _ a3), ?_⟩
            rw [valR]
            have k := k _ sq
            show Q (((getR rl o).map rV).getD .non) _
            have k : Q (optR (getR rl o)) _ := k
            cases e5 : getR rl o with
            | none => rw [e5] at k; exact k
            | some b => rw [e5] at k; exact k
          · rw [a1]
            rw [a2] at k
            refine ⟨q, rfl, .inl ⟨_, .inl upd_same⟩, ?_⟩
            walk_at "ro"
            refine ⟨_, DGet.k (k := .inl (o : Int)) upd_same, ?_⟩
            exact k _ sq
end
end My

namespace My
open PySem L2
local macro_rules | `(tactic| walk_at "ne") => `(tactic| first | assumption | exact Ne.symm (by assumption) | exact ne_of_none (by assumption) (by assumption) | exact Ne.symm (ne_of_none (by assumption) (by assumption)))
local macro_rules | `(tactic| walk_at "hp") => `(tactic| first | assumption | with_reducible exact upd_same | (with_reducible refine Eq.trans (upd_ne ?_) ?_; rotate_left; walk_at "hp"; walk_at "ne"))
local macro_rules | `(tactic| walk_at "cnd") => `(tactic| first | omega | (show (0 : Int) < _; omega) | exact ⟨by omega, by omega⟩ | exact Or.inl ⟨by omega, by omega⟩ | exact Or.inr ⟨by omega, by omega⟩ | exact ⟨by omega, by omega, by decide⟩ | exact ⟨by omega, by omega, by omega⟩)
local macro_rules | `(tactic| walk_at "at") => `(tactic| first | exact atC 0 rfl rfl | exact atC 1 rfl rfl | exact atC 2 rfl rfl | exact atC 3 rfl rfl | exact atC 4 rfl rfl | exact atC 5 rfl rfl | exact atC 6 rfl rfl | exact atC 7 rfl rfl)
local macro_rules | `(tactic| walk_at "ix") => `(tactic| first | exact ixC 0 rfl (Nat.le_of_ble_eq_true rfl) | exact ixC 1 rfl (Nat.le_of_ble_eq_true rfl) | exact ixC 2 rfl (Nat.le_of_ble_eq_true rfl) | exact ixC 3 rfl (Nat.le_of_ble_eq_true rfl) | exact ixC 4 rfl (Nat.le_of_ble_eq_true rfl) | exact ixC 5 rfl (Nat.le_of_ble_eq_true rfl))
local macro_rules | `(tactic| walk_at "st") => `(tactic| first
  | refine ⟨_, rfl, ?_⟩
  | refine ⟨_, _, rfl, rfl, (by walk_at "cnd" : (_ : Prop)), ?_⟩
  | refine ⟨_, _, rfl, rfl, ?_⟩
  | refine ⟨rfl, ?_⟩
  | refine Or.inl ⟨_, rfl, ?_⟩
  | refine ⟨_, _, _, _, rfl, rfl, by exact SqL.of (by walk_at "hp"), by walk_at "at", ?_⟩
  | refine ⟨_, _, _, _, rfl, rfl, by exact SqT.of (by walk_at "hp"), by walk_at "at", ?_⟩
  | refine ⟨_, _, _, _, rfl, rfl, by walk_at "hp", by walk_at "ix", ?_⟩
  | refine ⟨_, _, rfl, Or.inl (by exact SqL.of (by walk_at "hp")), ?_⟩
  | refine ⟨_, _, rfl, Or.inr (by exact SqT.of (by walk_at "hp")), ?_⟩)
local macro_rules | `(tactic| walk_at "so") => `(tactic| first
  | refine ⟨_, _, _, _, _, rfl, by walk_at "hp", by assumption, by assumption, rfl, ?_⟩
  | refine ⟨_, _, _, _, rfl, by walk_at "hp", by assumption, by assumption, Nat.le_of_ble_eq_true rfl, ?_⟩
  | refine ⟨_, _, _, rfl, by walk_at "hp", rfl, ?_⟩
  | walk_at "st")
local macro_rules | `(tactic| walk_at "ro") => `(tactic| repeat walk_at "so")
local macro_rules | `(tactic| walk_at "run") => `(tactic| repeat walk_at "st")

/-! ### single changes -/
theorem nd_ne {xs ys : List Addr} (h : (xs ++ ys).Nodup) {a b : Addr} (ha : a ∈ xs) (hb : b ∈ ys) : a ≠ b := (List.nodup_append.mp h).2.2 a ha b hb
theorem Each.upd {α : Type} {rel : Hp → Addr → α → Prop} {H : Hp} {p : Addr} {o : HO} {ds : List Addr} {ls : List α} (h : Each rel H ds ls) (n : p ∉ ds) (f : ∀ d l, d ≠ p → rel H d l → rel (L2.upd H p o) d l) : Each rel (L2.upd H p o) ds ls :=
  ⟨h.1, fun j d l a b => f d l (fun e => n (by rw [← e]; exact List.mem_of_getElem? a)) (h.2 j d l a b)⟩
/-- one thing of the list changes -/
theorem Each.put {α : Type} {rel : Hp → Addr → α → Prop} {H : Hp} {p : Addr} {o : HO} {ds : List Addr} {ls : List α} {e : Nat} {l' : α} (h : Each rel H ds ls) (nd : ds.Nodup) (he : ds[e]? = some p) (f : ∀ d l, d ≠ p → rel H d l → rel (L2.upd H p o) d l) (g : rel (L2.upd H p o) p l') : Each rel (L2.upd H p o) ds (ls.set e l') := by
  refine ⟨by rw [List.length_set]; exact h.1, fun j d l a b => ?_⟩
  by_cases q : e = j
  · subst q
    rw [he] at a
    cases a
    have hl : e < ls.length := by rw [← h.1]; exact (List.getElem?_eq_some_iff.mp he).1
    rw [List.getElem?_set_self hl] at b
    cases b
    exact g
  · rw [List.getElem?_set_ne q] at b
    refine f d l (fun z => q ?_) (h.2 j d l a b)
    subst z
    exact (List.getElem?_inj (List.getElem?_eq_some_iff.mp he).1 nd).mp (he.trans a.symm)
theorem RtD.upd {H : Hp} {p : Addr} {o : HO} {d : Addr} {l : RL} (n : d ≠ p) (h : RtD H d l) : RtD (L2.upd H p o) d l := by
  unfold RtD at h ⊢
  rw [upd_ne n]; exact h
theorem NsL.upd {H : Hp} {p : Addr} {o : HO} {d : Addr} {l : List Nat} (n : d ≠ p) (h : NsL H d l) : NsL (L2.upd H p o) d l := by
  unfold NsL at h ⊢
  rw [upd_ne n]; exact h
theorem OfD.upd {H : Hp} {p : Addr} {o : HO} {d : Addr} {q : List Addr × List (Nat × RL)} (n : d ≠ p) (ni : p ∉ q.1) (h : OfD H d q) : OfD (L2.upd H p o) d q :=
  ⟨by rw [upd_ne n]; exact h.1, h.2.upd ni fun d l m r => RtD.upd m r⟩
/-- the zip of two lists, one place changed in both -/
theorem zip_set {α β : Type} : ∀ (xs : List α) (ys : List β) (e : Nat) (a : α) (b : β), (xs.set e a).zip (ys.set e b) = (xs.zip ys).set e (a, b)
  | [], _, _, _, _ => by simp
  | _ :: _, [], e, _, _ => by cases e <;> simp
  | x :: xs, y :: ys, 0, a, b => rfl
  | x :: xs, y :: ys, e + 1, a, b => by
    show (x, y) :: ((xs.set e a).zip (ys.set e b)) = (x, y) :: ((xs.zip ys).set e (a, b))
    rw [zip_set xs ys e a b]
/-- what is theirs, in parts -/
theorem own_parts {a : FA} {x : Addr} (h : (a.own x).Nodup) : ([x, a.W, a.S, a.R, a.O, a.A, a.E, a.T] : List Addr).Nodup ∧ a.wds.Nodup ∧ a.rds.Nodup ∧ a.ods.Nodup ∧ a.tks.Nodup ∧ a.ids.flatten.Nodup := by
  unfold FA.own at h
  obtain ⟨h0, h1, _⟩ := List.nodup_append.mp h
  obtain ⟨h2, h3, _⟩ := List.nodup_append.mp h1
  obtain ⟨h4, h5, _⟩ := List.nodup_append.mp h3
  obtain ⟨h6, h7, _⟩ := List.nodup_append.mp h5
  obtain ⟨h8, h9, _⟩ := List.nodup_append.mp h7
  exact ⟨h0, h2, h4, h6, h8, h9⟩
/-- the rights of one environment change -/
theorem Fr.setR {C : Addr} {P : Addr → Prop} {H : Hp} {x : Addr} {a : FA} {s : FS} (h : Fr C P H x a s) {e : Nat} {d : Addr} (hd : a.rds[e]? = some d) (l : RL) : Fr C P (L2.upd H d (.dK (entR l))) x a { s with rt := s.rt.set e l } := by
  have hm : d ∈ a.rds := List.mem_of_getElem? hd
  have nd := h.nd
  have parts := own_parts nd
  unfold FA.own at nd
  obtain ⟨h0, h1, n0⟩ := List.nodup_append.mp nd
  obtain ⟨h2, h3, n2⟩ := List.nodup_append.mp h1
  obtain ⟨h4, h5, n4⟩ := List.nodup_append.mp h3
  have m1 : ∀ b, b ∈ ([x, a.W, a.S, a.R, a.O, a.A, a.E, a.T] : List Addr) → b ≠ d := fun b hb => n0 b hb d (List.mem_append_right _ (List.mem_append_left _ hm))
  have w1 : d ∉ a.wds := fun q => n2 d q d (List.mem_append_left _ hm) rfl
  have o1 : d ∉ a.ods := fun q => n4 d hm d (List.mem_append_left _ q) rfl
  have t1 : d ∉ a.tks := fun q => n4 d hm d (List.mem_append_right _ (List.mem_append_left _ q)) rfl
  have i1 : d ∉ a.ids.flatten := fun q => n4 d hm d (List.mem_append_right _ (List.mem_append_right _ q)) rfl
  have k := h.ok
  refine ⟨⟨k.sh4, k.ask4, k.wt4, by rw [List.length_set]; exact k.rt4, k.of4, k.tk4, k.wdm, k.m64⟩, h.nd, h.mine, ?_, ?_, h.ws.upd w1 fun _ _ m r => NsL.upd m r, NsL.upd (m1 _ (by simp)) h.hs, ?_, h.rs.put parts.2.2.1 hd (fun _ _ m r => RtD.upd m r) upd_same, ?_, h.il, ?_, NsL.upd (m1 _ (by simp)) h.ha, NsL.upd (m1 _ (by simp)) h.he, ?_, h.ts.upd t1 fun _ _ m r => NsL.upd m r⟩
  · rw [upd_ne (m1 _ (by simp))]; exact h.ins
  · rw [upd_ne (m1 _ (by simp))]; exact h.w
  · rw [upd_ne (m1 _ (by simp))]; exact h.r
  · rw [upd_ne (m1 _ (by simp))]; exact h.o
  · refine ⟨h.os.1, fun j b q hb hq => OfD.upd (fun z => o1 (by rw [← z]; exact List.mem_of_getElem? hb)) (fun z => i1 ?_) (h.os.2 j b q hb hq)⟩
    obtain ⟨h8, _⟩ := List.getElem?_zip_eq_some.mp hq
    exact List.mem_flatten.mpr ⟨q.1, List.mem_of_getElem? h8, z⟩
  · rw [upd_ne (m1 _ (by simp))]; exact h.t
/-- A changes -/
theorem Fr.setA {C : Addr} {P : Addr → Prop} {H : Hp} {x : Addr} {a : FA} {s : FS} (h : Fr C P H x a s) (l : List Nat) (hl : l.length = 4) : Fr C P (L2.upd H a.A (.lst (l.map vN))) x a { s with ask := l } := by
  have nd := h.nd
  have parts := own_parts nd
  unfold FA.own at nd
  obtain ⟨h0, h1, n0⟩ := List.nodup_append.mp nd
  have z : a.A ∈ ([x, a.W, a.S, a.R, a.O, a.A, a.E, a.T] : List Addr) := by simp
  have out : ∀ b, b ∈ a.wds ++ (a.rds ++ (a.ods ++ (a.tks ++ a.ids.flatten))) → b ≠ a.A := fun b hb e => n0 _ z b hb e.symm
  have w1 : a.A ∉ a.wds := fun q => out _ (List.mem_append_left _ q) rfl
  have r1 : a.A ∉ a.rds := fun q => out _ (List.mem_append_right _ (List.mem_append_left _ q)) rfl
  have o1 : a.A ∉ a.ods := fun q => out _ (List.mem_append_right _ (List.mem_append_right _ (List.mem_append_left _ q))) rfl
  have t1 : a.A ∉ a.tks := fun q => out _ (List.mem_append_right _ (List.mem_append_right _ (List.mem_append_right _ (List.mem_append_left _ q)))) rfl
  have i1 : a.A ∉ a.ids.flatten := fun q => out _ (List.mem_append_right _ (List.mem_append_right _ (List.mem_append_right _ (List.mem_append_right _ q)))) rfl
  have k := h.ok
  simp only [List.nodup_cons, List.mem_cons, List.not_mem_nil, or_false, not_or] at h0
  obtain ⟨⟨x1, x2, x3, x4, x5, x6, x7⟩, ⟨y1, y2, y3, y4, y5, y6⟩, ⟨z1, z2, z3, z4, z5⟩, ⟨u1, u2, u3, u4⟩, ⟨v1, v2, v3⟩, ⟨q1, q2⟩, q3, _⟩ := h0
  refine ⟨⟨k.sh4, hl, k.wt4, k.rt4, k.of4, k.tk4, k.wdm, k.m64⟩, h.nd, h.mine, ?_, ?_, h.ws.upd w1 fun _ _ m r => NsL.upd m r, ?_, ?_, h.rs.upd r1 fun _ _ m r => RtD.upd m r, ?_, h.il, ?_, ?_, ?_, ?_, h.ts.upd t1 fun _ _ m r => NsL.upd m r⟩
  · rw [upd_ne (by assumption)]; exact h.ins
  · rw [upd_ne (by first | assumption | exact Ne.symm (by assumption))]; exact h.w
  · exact NsL.upd (by first | assumption | exact Ne.symm (by assumption)) h.hs
  · rw [upd_ne (by first | assumption | exact Ne.symm (by assumption))]; exact h.r
  · rw [upd_ne (by first | assumption | exact Ne.symm (by assumption))]; exact h.o
  · refine ⟨h.os.1, fun j b q hb hq => OfD.upd (fun z => o1 (by rw [← z]; exact List.mem_of_getElem? hb)) (fun z => i1 ?_) (h.os.2 j b q hb hq)⟩
    obtain ⟨h8, _⟩ := List.getElem?_zip_eq_some.mp hq
    exact List.mem_flatten.mpr ⟨q.1, List.mem_of_getElem? h8, z⟩
  · first | exact upd_same | exact NsL.upd (by first | assumption | exact Ne.symm (by assumption)) h.ha
  · first | exact upd_same | exact NsL.upd (by first | assumption | exact Ne.symm (by assumption)) h.he
  · rw [upd_ne (by first | assumption | exact Ne.symm (by assumption))]; exact h.t
/-- E changes -/
theorem Fr.setE {C : Addr} {P : Addr → Prop} {H : Hp} {x : Addr} {a : FA} {s : FS} (h : Fr C P H x a s) (l : List Nat) (hl : l.length = 4) : Fr C P (L2.upd H a.E (.lst (l.map vN))) x a { s with wt := l } := by
  have nd := h.nd
  have parts := own_parts nd
  unfold FA.own at nd
  obtain ⟨h0, h1, n0⟩ := List.nodup_append.mp nd
  have z : a.E ∈ ([x, a.W, a.S, a.R, a.O, a.A, a.E, a.T] : List Addr) := by simp
  have out : ∀ b, b ∈ a.wds ++ (a.rds ++ (a.ods ++ (a.tks ++ a.ids.flatten))) → b ≠ a.E := fun b hb e => n0 _ z b hb e.symm
  have w1 : a.E ∉ a.wds := fun q => out _ (List.mem_append_left _ q) rfl
  have r1 : a.E ∉ a.rds := fun q => out _ (List.mem_append_right _ (List.mem_append_left _ q)) rfl
  have o1 : a.E ∉ a.ods := fun q => out _ (List.mem_append_right _ (List.mem_append_right _ (List.mem_append_left _ q))) rfl
  have t1 : a.E ∉ a.tks := fun q => out _ (List.mem_append_right _ (List.mem_append_right _ (List.mem_append_right _ (List.mem_append_left _ q)))) rfl
  have i1 : a.E ∉ a.ids.flatten := fun q => out _ (List.mem_append_right _ (List.mem_append_right _ (List.mem_append_right _ (List.mem_append_right _ q)))) rfl
  have k := h.ok
  simp only [List.nodup_cons, List.mem_cons, List.not_mem_nil, or_false, not_or] at h0
  obtain ⟨⟨x1, x2, x3, x4, x5, x6, x7⟩, ⟨y1, y2, y3, y4, y5, y6⟩, ⟨z1, z2, z3, z4, z5⟩, ⟨u1, u2, u3, u4⟩, ⟨v1, v2, v3⟩, ⟨q1, q2⟩, q3, _⟩ := h0
  refine ⟨⟨k.sh4, k.ask4, hl, k.rt4, k.of4, k.tk4, k.wdm, k.m64⟩, h.nd, h.mine, ?_, ?_, h.ws.upd w1 fun _ _ m r => NsL.upd m r, ?_, ?_, h.rs.upd r1 fun _ _ m r => RtD.upd m r, ?_, h.il, ?_, ?_, ?_, ?_, h.ts.upd t1 fun _ _ m r => NsL.upd m r⟩
  · rw [upd_ne (by assumption)]; exact h.ins
  · rw [upd_ne (by first | assumption | exact Ne.symm (by assumption))]; exact h.w
  · exact NsL.upd (by first | assumption | exact Ne.symm (by assumption)) h.hs
  · rw [upd_ne (by first | assumption | exact Ne.symm (by assumption))]; exact h.r
  · rw [upd_ne (by first | assumption | exact Ne.symm (by assumption))]; exact h.o
  · refine ⟨h.os.1, fun j b q hb hq => OfD.upd (fun z => o1 (by rw [← z]; exact List.mem_of_getElem? hb)) (fun z => i1 ?_) (h.os.2 j b q hb hq)⟩
    obtain ⟨h8, _⟩ := List.getElem?_zip_eq_some.mp hq
    exact List.mem_flatten.mpr ⟨q.1, List.mem_of_getElem? h8, z⟩
  · first | exact upd_same | exact NsL.upd (by first | assumption | exact Ne.symm (by assumption)) h.ha
  · first | exact upd_same | exact NsL.upd (by first | assumption | exact Ne.symm (by assumption)) h.he
  · rw [upd_ne (by first | assumption | exact Ne.symm (by assumption))]; exact h.t
/-- the offers of one environment change; their inner dicts stand already -/
theorem Fr.setO {C : Addr} {P P' : Addr → Prop} {H : Hp} {x : Addr} {a : FA} {s : FS} (h : Fr C P H x a s) {e : Nat} {d : Addr} (hd : a.ods[e]? = some d) (l : List (Nat × RL)) (is : List Addr) (hi : Each (fun H i (p : Nat × RL) => RtD H i p.2) H is l) (nd : (({ a with ids := a.ids.set e is } : FA).own x).Nodup) (mine : ∀ b ∈ ({ a with ids := a.ids.set e is } : FA).own x, P' b) :
    Fr C P' (L2.upd H d (.dK (entO l is))) x { a with ids := a.ids.set e is } { s with of := s.of.set e l } := by
  have hm : d ∈ a.ods := List.mem_of_getElem? hd
  have parts := own_parts h.nd
  have nd' := nd
  unfold FA.own at nd'
  obtain ⟨h0, h1, n0⟩ := List.nodup_append.mp nd'
  obtain ⟨h2, h3, n2⟩ := List.nodup_append.mp h1
  obtain ⟨h4, h5, n4⟩ := List.nodup_append.mp h3
  obtain ⟨h6, h7, n6⟩ := List.nodup_append.mp h5
  have nd0 := h.nd
  unfold FA.own at nd0
  obtain ⟨_, g1, _⟩ := List.nodup_append.mp nd0
  obtain ⟨_, g3, _⟩ := List.nodup_append.mp g1
  obtain ⟨_, g5, _⟩ := List.nodup_append.mp g3
  obtain ⟨_, _, k6⟩ := List.nodup_append.mp g5
  have i0 : d ∉ a.ids.flatten := fun q => k6 d hm d (List.mem_append_right _ q) rfl
  have m1 : ∀ b, b ∈ ([x, a.W, a.S, a.R, a.O, a.A, a.E, a.T] : List Addr) → b ≠ d := fun b hb => n0 b hb d (List.mem_append_right _ (List.mem_append_right _ (List.mem_append_left _ hm)))
  have w1 : d ∉ a.wds := fun q => n2 d q d (List.mem_append_right _ (List.mem_append_left _ hm)) rfl
  have r1 : d ∉ a.rds := fun q => n4 d q d (List.mem_append_left _ hm) rfl
  have t1 : d ∉ a.tks := fun q => n6 d hm d (List.mem_append_left _ q) rfl
  have he : e < s.of.length := by
    have q := h.os.1
    rw [List.length_zip, h.il, Nat.min_self] at q
    rw [← q]
    exact (List.getElem?_eq_some_iff.mp hd).1
  have hi1 : is ∈ a.ids.set e is := List.mem_set (by rw [h.il]; exact he) _
  have d1 : d ∉ is := fun q => n6 d hm d (List.mem_append_right _ (List.mem_flatten.mpr ⟨is, hi1, q⟩)) rfl
  have k := h.ok
  refine ⟨⟨k.sh4, k.ask4, k.wt4, k.rt4, by rw [List.length_set]; exact k.of4, k.tk4, k.wdm, k.m64⟩, nd, mine, ?_, ?_, h.ws.upd w1 fun _ _ m r => NsL.upd m r, NsL.upd (m1 _ (by simp)) h.hs, ?_, h.rs.upd r1 fun _ _ m r => RtD.upd m r, ?_, by rw [List.length_set, List.length_set]; exact h.il, ?_, NsL.upd (m1 _ (by simp)) h.ha, NsL.upd (m1 _ (by simp)) h.he, ?_, h.ts.upd t1 fun _ _ m r => NsL.upd m r⟩
  · rw [upd_ne (m1 _ (by simp))]; exact h.ins
  · rw [upd_ne (m1 _ (by simp))]; exact h.w
  · rw [upd_ne (m1 _ (by simp))]; exact h.r
  · rw [upd_ne (m1 _ (by simp))]; exact h.o
  · show Each OfD _ a.ods ((a.ids.set e is).zip (s.of.set e l))
    rw [zip_set]
    refine ⟨by rw [List.length_set]; exact h.os.1, fun j b q hb hq => ?_⟩
    by_cases z : e = j
    · subst z
      rw [hd] at hb
      cases hb
      rw [List.getElem?_set_self (by rw [List.length_zip, h.il, Nat.min_self]; exact he)] at hq
      cases hq
      exact ⟨upd_same, hi.upd d1 fun _ _ m r => RtD.upd m r⟩
    · rw [List.getElem?_set_ne z] at hq
      refine OfD.upd (fun y => z ?_) (fun y => i0 ?_) (h.os.2 j b q hb hq)
      · subst y
        exact (List.getElem?_inj (List.getElem?_eq_some_iff.mp hd).1 parts.2.2.2.1).mp (hd.trans hb.symm)
      · obtain ⟨h8, _⟩ := List.getElem?_zip_eq_some.mp hq
        exact List.mem_flatten.mpr ⟨q.1, List.mem_of_getElem? h8, y⟩
  · rw [upd_ne (m1 _ (by simp))]; exact h.t
end My

namespace My
open PySem L2
local macro_rules | `(tactic| walk_at "ne") => `(tactic| first | assumption | exact Ne.symm (by assumption) | exact ne_of_none (by assumption) (by assumption) | exact Ne.symm (ne_of_none (by assumption) (by assumption)))
local macro_rules | `(tactic| walk_at "hp") => `(tactic| first | assumption | with_reducible exact upd_same | (with_reducible refine Eq.trans (upd_ne ?_) ?_; rotate_left; walk_at "hp"; walk_at "ne"))
local macro_rules | `(tactic| walk_at "cnd") => `(tactic| first | omega | (show (0 : Int) < _; omega) | exact ⟨by omega, by omega⟩ | exact Or.inl ⟨by omega, by omega⟩ | exact Or.inr ⟨by omega, by omega⟩ | exact ⟨by omega, by omega, by decide⟩ | exact ⟨by omega, by omega, by omega⟩)
local macro_rules | `(tactic| walk_at "at") => `(tactic| first | exact atC 0 rfl rfl | exact atC 1 rfl rfl | exact atC 2 rfl rfl | exact atC 3 rfl rfl | exact atC 4 rfl rfl | exact atC 5 rfl rfl | exact atC 6 rfl rfl | exact atC 7 rfl rfl)
local macro_rules | `(tactic| walk_at "ix") => `(tactic| first | exact ixC 0 rfl (Nat.le_of_ble_eq_true rfl) | exact ixC 1 rfl (Nat.le_of_ble_eq_true rfl) | exact ixC 2 rfl (Nat.le_of_ble_eq_true rfl) | exact ixC 3 rfl (Nat.le_of_ble_eq_true rfl) | exact ixC 4 rfl (Nat.le_of_ble_eq_true rfl) | exact ixC 5 rfl (Nat.le_of_ble_eq_true rfl))
local macro_rules | `(tactic| walk_at "st") => `(tactic| first
  | refine ⟨_, rfl, ?_⟩
  | refine ⟨_, _, rfl, rfl, (by walk_at "cnd" : (_ : Prop)), ?_⟩
  | refine ⟨_, _, rfl, rfl, ?_⟩
  | refine ⟨rfl, ?_⟩
  | refine Or.inl ⟨_, rfl, ?_⟩
  | refine ⟨_, _, _, _, rfl, rfl, by exact SqL.of (by walk_at "hp"), by walk_at "at", ?_⟩
  | refine ⟨_, _, _, _, rfl, rfl, by exact SqT.of (by walk_at "hp"), by walk_at "at", ?_⟩
  | refine ⟨_, _, _, _, rfl, rfl, by walk_at "hp", by walk_at "ix", ?_⟩
  | refine ⟨_, _, rfl, Or.inl (by exact SqL.of (by walk_at "hp")), ?_⟩
  | refine ⟨_, _, rfl, Or.inr (by exact SqT.of (by walk_at "hp")), ?_⟩)
local macro_rules | `(tactic| walk_at "so") => `(tactic| first
  | refine ⟨_, _, _, _, _, rfl, by walk_at "hp", by assumption, by assumption, rfl, ?_⟩
  | refine ⟨_, _, _, _, rfl, by walk_at "hp", by assumption, by assumption, Nat.le_of_ble_eq_true rfl, ?_⟩
  | refine ⟨_, _, _, rfl, by walk_at "hp", rfl, ?_⟩
  | walk_at "st")
local macro_rules | `(tactic| walk_at "ro") => `(tactic| repeat walk_at "so")
local macro_rules | `(tactic| walk_at "run") => `(tactic| repeat walk_at "st")

def ChgP (P : Addr → Prop) (H H' : Hp) : Prop := ∀ b o, ¬ P b → H b = some o → H' b = some o
theorem ChgP.upd {P : Addr → Prop} {H H1 : Hp} {p : Addr} {o : HO} (h : ChgP P H H1) (hp : P p) : ChgP P H (L2.upd H1 p o) := fun b u n e => by
  rw [upd_ne (fun z => n (by rw [z]; exact hp))]
  exact h b u n e
def dropR (l : RL) (f : Nat) : RL := l.filter fun p => !decide (p.1 = f)
def dropO (l : List (Nat × RL)) (f : Nat) : List (Nat × RL) := l.filter fun p => !decide (p.1 = f)
def dropI (l : List (Nat × RL)) (is : List Addr) (f : Nat) : List Addr := ((l.zip is).filter fun p => !decide (p.1.1 = f)).map (·.2)
theorem dropK_cons (p : Key × V) (l : List (Key × V)) (k : Key) : dropK (p :: l) k = if p.1 = k then dropK l k else p :: dropK l k := by
  unfold dropK
  by_cases e : p.1 = k
  · rw [if_pos e, List.filter_cons_of_neg (by simp [e])]
  · rw [if_neg e, List.filter_cons_of_pos (by simp [e])]
theorem drop_entR (f : Nat) : ∀ l : RL, dropK (entR l) (.inl (f : Int)) = entR (dropR l f)
  | [] => rfl
  | p :: l => by
    show dropK ((.inl (p.1 : Int), rV p.2) :: entR l) (.inl (f : Int)) = entR (dropR (p :: l) f)
    rw [dropK_cons, drop_entR f l]
    unfold dropR
    by_cases e : p.1 = f
    · rw [if_pos (keyI.mpr e), List.filter_cons_of_neg (by simp [e])]
    · rw [if_neg (fun q => e (keyI.mp q)), List.filter_cons_of_pos (by simp [e])]; rfl
theorem drop_entO (f : Nat) : ∀ {l : List (Nat × RL)} {is : List Addr}, is.length = l.length → dropK (entO l is) (.inl (f : Int)) = entO (dropO l f) (dropI l is f)
  | [], _, _ => by unfold entO dropO; rw [List.zip_nil_left]; rfl
  | p :: l, [], h => by cases h
  | p :: l, i :: is, h => by
    have ih := drop_entO f (l := l) (is := is) (by simpa using h)
    show dropK ((.inl (p.1 : Int), .ref i) :: entO l is) (.inl (f : Int)) = entO (dropO (p :: l) f) (dropI (p :: l) (i :: is) f)
    rw [dropK_cons, ih]
    unfold dropO dropI
    by_cases e : p.1 = f
    · rw [if_pos (keyI.mpr e), List.filter_cons_of_neg (by simp [e]), List.zip_cons_cons, List.filter_cons_of_neg (by simp [e])]
    · rw [if_neg (fun q => e (keyI.mp q)), List.filter_cons_of_pos (by simp [e]), List.zip_cons_cons, List.filter_cons_of_pos (by simp [e])]; rfl
theorem dropI_sub (f : Nat) : ∀ (l : List (Nat × RL)) (is : List Addr), (dropI l is f).Sublist is
  | [], is => by unfold dropI; rw [List.zip_nil_left]; exact List.nil_sublist _
  | p :: l, [] => by unfold dropI; rw [List.zip_nil_right]; exact List.Sublist.refl _
  | p :: l, i :: is => by
    have ih := dropI_sub f l is
    unfold dropI at ih ⊢
    rw [List.zip_cons_cons]
    by_cases e : p.1 = f
    · rw [List.filter_cons_of_neg (by simp [e])]; exact ih.cons _
    · rw [List.filter_cons_of_pos (by simp [e])]; exact ih.cons₂ _
theorem drop_each {H : Hp} (f : Nat) : ∀ {l : List (Nat × RL)} {is : List Addr}, Each (fun H i (p : Nat × RL) => RtD H i p.2) H is l → Each (fun H i (p : Nat × RL) => RtD H i p.2) H (dropI l is f) (dropO l f)
  | [], is, h => by
    have e : is = [] := List.length_eq_zero_iff.mp h.1
    subst e
    exact h
  | p :: l, [], h => by cases h.1
  | p :: l, i :: is, h => by
    have h' : Each (fun H i (p : Nat × RL) => RtD H i p.2) H is l := ⟨by simpa using h.1, fun j d q a b => h.2 (j + 1) d q (by simpa using a) (by simpa using b)⟩
    have h0 := h.2 0 i p rfl rfl
    have ih := drop_each f h'
    unfold dropI dropO at ih ⊢
    rw [List.zip_cons_cons]
    by_cases e : p.1 = f
    · rw [List.filter_cons_of_neg (by simp [e]), List.filter_cons_of_neg (by simp [e])]; exact ih
    · rw [List.filter_cons_of_pos (by simp [e]), List.filter_cons_of_pos (by simp [e])]
      refine ⟨by rw [List.map_cons, List.length_cons, List.length_cons, ih.1], fun j d q a b => ?_⟩
      cases j with
      | zero =>
        have a' : i = d := Option.some.inj a
        have b' : p = q := Option.some.inj b
        subst a' b'
        exact h0
      | succ j => exact ih.2 j d q (by simpa using a) (by simpa using b)
theorem set_sub : ∀ {ids : List (List Addr)} {e : Nat} {is : List Addr}, (∀ o, ids[e]? = some o → is.Sublist o) → (ids.set e is).flatten.Sublist ids.flatten
  | [], _, _, _ => List.Sublist.refl _
  | o :: ids, 0, is, h => by
    show (is ++ ids.flatten).Sublist (o ++ ids.flatten)
    exact List.Sublist.append (h o rfl) (List.Sublist.refl _)
  | o :: ids, e + 1, is, h => by
    show (o ++ (ids.set e is).flatten).Sublist (o ++ ids.flatten)
    exact List.Sublist.append (List.Sublist.refl _) (set_sub fun o' ho => h o' (by simpa using ho))
theorem own_sub {a : FA} {x : Addr} {ids : List (List Addr)} (h : ids.flatten.Sublist a.ids.flatten) : (({ a with ids := ids } : FA).own x).Sublist (a.own x) := by
  unfold FA.own
  exact .append (.refl _) (.append (.refl _) (.append (.refl _) (.append (.refl _) (.append (.refl _) h))))
end My

namespace My
open PySem L2
local macro_rules | `(tactic| walk_at "ne") => `(tactic| first | assumption | exact Ne.symm (by assumption) | exact ne_of_none (by assumption) (by assumption) | exact Ne.symm (ne_of_none (by assumption) (by assumption)))
local macro_rules | `(tactic| walk_at "hp") => `(tactic| first | assumption | with_reducible exact upd_same | (with_reducible refine Eq.trans (upd_ne ?_) ?_; rotate_left; walk_at "hp"; walk_at "ne"))
local macro_rules | `(tactic| walk_at "cnd") => `(tactic| first | omega | (show (0 : Int) < _; omega) | exact ⟨by omega, by omega⟩ | exact Or.inl ⟨by omega, by omega⟩ | exact Or.inr ⟨by omega, by omega⟩ | exact ⟨by omega, by omega, by decide⟩ | exact ⟨by omega, by omega, by omega⟩)
local macro_rules | `(tactic| walk_at "at") => `(tactic| first | exact atC 0 rfl rfl | exact atC 1 rfl rfl | exact atC 2 rfl rfl | exact atC 3 rfl rfl | exact atC 4 rfl rfl | exact atC 5 rfl rfl | exact atC 6 rfl rfl | exact atC 7 rfl rfl)
local macro_rules | `(tactic| walk_at "ix") => `(tactic| first | exact ixC 0 rfl (Nat.le_of_ble_eq_true rfl) | exact ixC 1 rfl (Nat.le_of_ble_eq_true rfl) | exact ixC 2 rfl (Nat.le_of_ble_eq_true rfl) | exact ixC 3 rfl (Nat.le_of_ble_eq_true rfl) | exact ixC 4 rfl (Nat.le_of_ble_eq_true rfl) | exact ixC 5 rfl (Nat.le_of_ble_eq_true rfl))
local macro_rules | `(tactic| walk_at "st") => `(tactic| first
  | refine ⟨_, rfl, ?_⟩
  | refine ⟨_, _, rfl, rfl, (by walk_at "cnd" : (_ : Prop)), ?_⟩
  | refine ⟨_, _, rfl, rfl, ?_⟩
  | refine ⟨rfl, ?_⟩
  | refine Or.inl ⟨_, rfl, ?_⟩
  | refine ⟨_, _, _, _, rfl, rfl, by exact SqL.of (by walk_at "hp"), by walk_at "at", ?_⟩
  | refine ⟨_, _, _, _, rfl, rfl, by exact SqT.of (by walk_at "hp"), by walk_at "at", ?_⟩
  | refine ⟨_, _, _, _, rfl, rfl, by walk_at "hp", by walk_at "ix", ?_⟩
  | refine ⟨_, _, rfl, Or.inl (by exact SqL.of (by walk_at "hp")), ?_⟩
  | refine ⟨_, _, rfl, Or.inr (by exact SqT.of (by walk_at "hp")), ?_⟩)
local macro_rules | `(tactic| walk_at "so") => `(tactic| first
  | refine ⟨_, _, _, _, _, rfl, by walk_at "hp", by assumption, by assumption, rfl, ?_⟩
  | refine ⟨_, _, _, _, rfl, by walk_at "hp", by assumption, by assumption, Nat.le_of_ble_eq_true rfl, ?_⟩
  | refine ⟨_, _, _, rfl, by walk_at "hp", rfl, ?_⟩
  | walk_at "st")
local macro_rules | `(tactic| walk_at "ro") => `(tactic| repeat walk_at "so")
local macro_rules | `(tactic| walk_at "run") => `(tactic| repeat walk_at "st")

def endS (s : FS) (e f : Nat) : FS := { s with rt := s.rt.set e (dropR (s.rt.getD e []) f), of := s.of.set e (dropO (s.of.getD e []) f), ask := s.ask.set e (s.ask.getD e 0 - 1) }
theorem getO_none {l : List (Nat × RL)} {f : Nat} (h : getO l f = none) : dropO l f = l := by
  unfold getO at h
  unfold dropO
  rw [List.filter_eq_self]
  intro p hp
  have h' : l.find? (fun p => decide (p.1 = f)) = none := by
    cases e : l.find? (fun p => decide (p.1 = f)) with
    | none => rfl
    | some q => rw [e] at h; cases h
  have q := List.find?_eq_none.mp h' p hp
  simpa using q
theorem set_getD {α : Type} {l : List α} {e : Nat} {d : α} (h : e < l.length) : l.set e (l.getD e d) = l := by
  rw [List.getD_eq_getElem?_getD, List.getElem?_eq_getElem h]
  exact List.set_getElem_self h
def spEnd (C : Addr) : Sp := fun vs H Q _ => ∃ P x a s, ∃ e f : Nat, vs = [.ref x, .int (e : Int), .int (f : Int)] ∧ Fr C P H x a s ∧ e < 4 ∧ getR (s.rt.getD e []) f ≠ none ∧ ∀ a' H', Fr C P H' x a' (endS s e f) → ChgP P H H' → Q .non H'
section
variable {P : Program} {w : World} {K : PySem.W.Frag} {mg : Str → Option Value} {base : Heap} {C_Frames C_NotValid : Addr}
abbrev s_Frames_end : Stmt := inClass (topS 19) 23
abbrev ns_Frames_end : List Str := ["self", "environment", "frame"]
theorem sc_Frames_end : FnScope ns_Frames_end ["self", "environment", "frame"] (defScope s_Frames_end) := ⟨rfl, rfl, rfl, by decide +kernel, rfl, by decide +kernel, by decide +kernel⟩

theorem ok_Frames_end {f : Addr} {fd : FuncData} (F : Fun K "_end" "Frames._end" s_Frames_end f fd) (T : Txt K mg C_Frames C_NotValid) : FnOk P w K mg base CX0 1 f fd ["self", "environment", "frame"] (spEnd C_Frames) := by
  have ho_Frames := T.o_Frames; have hn_Frames__words := T.n_Frames__words; have hn_Frames__shares := T.n_Frames__shares; have hn_Frames__rights := T.n_Frames__rights; have hn_Frames__offers := T.n_Frames__offers; have hn_Frames__asked := T.n_Frames__asked; have hn_Frames__ends_to_wait := T.n_Frames__ends_to_wait; have hn_Frames__taken := T.n_Frames__taken
  refine F.ok sc_Frames_end (fun vs H Q E h => ?_) (fun cdv A outer s H vs Q E hr h => ?_)
  · obtain ⟨P', x, a, s, e, g, rfl, _⟩ := h
    rfl
  · obtain ⟨P', x, a, s', e, g, rfl, fr, e4, hg, k⟩ := h
    refine ⟨_, (pss_cons (ps_ddel (pe_ix (kIxL K) (kFld K (pv 0) rfl) (pv 1) (fun _ _ => rfl)) (pv 2))
  (pss_cons (ps_expr (pe_dpop2 (pe_ix (kIxL K) (kFld K (pv 0) rfl) (pv 1) (fun _ _ => rfl)) (pv 2) pe_non ⟨rfl, rfl, rfl, rfl⟩))
  (pss_one (ps_asg (pe_callB (call_max2 rfl) (by rfl) T.b_max (by decide +kernel) (pa_cons pe_int (pa_cons (pe_op op_sub (pe_ix (kIxL K) (kFld K (pv 0) rfl) (pv 1) (fun _ _ => rfl)) pe_int) pa_nil))) (pg_sub (kFld K (pv 0) rfl) (pv 1) set_list))))), ?_⟩
    have h1 := fr.ins
    have h2 := fr.r
    have n4 : e < s'.rt.length := by rw [fr.ok.rt4]; omega
    obtain ⟨dd, hdd, hdk⟩ := fr.rs.at (List.getElem?_eq_getElem n4)
    have eg : s'.rt.getD e [] = s'.rt[e] := by rw [List.getD_eq_getElem?_getD, List.getElem?_eq_getElem n4]; rfl
    have hdk : H dd = some (.dK (entR s'.rt[e])) := hdk
    walk_at "ro"
    refine ⟨_, _, _, _, rfl, rfl, SqL.of h2, atC e rfl (by rw [List.getElem?_map, hdd]; rfl), ?_⟩
    walk_at "ro"
    refine ⟨dd, _, .inl (g : Int), rfl, hdk, rfl, ?_, ?_⟩
    · rw [valR, ← eg]
      cases e5 : getR (s'.rt.getD e []) g with
      | none => exact absurd e5 hg
      | some b => rfl
    rw [drop_entR]
    have fr1 := fr.setR hdd (dropR s'.rt[e] g)
    have c1 : ChgP P' H (upd H dd (.dK (entR (dropR s'.rt[e] g)))) := ChgP.upd (fun _ _ _ h => h) (fr.mine dd (by unfold FA.own; exact List.mem_append_right _ (List.mem_append_right _ (List.mem_append_left _ (List.mem_of_getElem? hdd)))))
    generalize upd H dd (.dK (entR (dropR s'.rt[e] g))) = H1 at fr1 c1
    have h11 := fr1.ins
    have h21 := fr1.o
    have o4 : e < s'.of.length := by rw [fr.ok.of4]; omega
    have nz : (a.ids.zip s'.of)[e]? = some (a.ids[e]'(by rw [fr.il]; exact o4), s'.of[e]) := by
      rw [List.getElem?_zip_eq_some]
      exact ⟨List.getElem?_eq_getElem _, List.getElem?_eq_getElem _⟩
    obtain ⟨od, hod, hok, hoi⟩ := fr1.os.at nz
    have hok : H1 od = some (.dK (entO s'.of[e] (a.ids[e]'(by rw [fr.il]; exact o4)))) := hok
    have eo : s'.of.getD e [] = s'.of[e] := by rw [List.getD_eq_getElem?_getD, List.getElem?_eq_getElem o4]; rfl
    walk_at "ro"
    refine ⟨_, _, _, _, rfl, rfl, SqL.of h21, atC e rfl (by rw [List.getElem?_map, hod]; rfl), ?_⟩
    refine ⟨od, rfl, .inl ⟨_, .inl hok⟩, ?_⟩
    walk_at "ro"
    refine ⟨_, .inl (g : Int), hok, rfl, fun v hv => ?_, fun hv => ?_⟩
    · have hil : (a.ids[e]'(by rw [fr.il]; exact o4)).length = s'.of[e].length := hoi.1
      rw [drop_entO g hil]
      have sb := set_sub (ids := a.ids) (e := e) (is := dropI s'.of[e] (a.ids[e]'(by rw [fr.il]; exact o4)) g) fun o ho => by
        rw [List.getElem?_eq_getElem (by rw [fr.il]; exact o4)] at ho
        cases ho
        exact dropI_sub g _ _
      have os := own_sub (a := a) (x := x) sb
      have fr2 := fr1.setO hod (dropO s'.of[e] g) (dropI s'.of[e] (a.ids[e]'(by rw [fr.il]; exact o4)) g) (drop_each g hoi) (fr1.nd.sublist os) (fun b hb => fr1.mine b (os.subset hb))
      have c2 := c1.upd (o := .dK (entO (dropO s'.of[e] g) (dropI s'.of[e] (a.ids[e]'(by rw [fr.il]; exact o4)) g))) (fr.mine od (by unfold FA.own; exact List.mem_append_right _ (List.mem_append_right _ (List.mem_append_right _ (List.mem_append_left _ (List.mem_of_getElem? hod))))))
      generalize upd H1 od (.dK (entO (dropO s'.of[e] g) (dropI s'.of[e] (a.ids[e]'(by rw [fr.il]; exact o4)) g))) = H2 at fr2 c2
      have h12 := fr2.ins
      have h22 : H2 a.A = some (.lst (s'.ask.map vN)) := fr2.ha
      have al : e < s'.ask.length := by rw [fr.ok.ask4]; omega
      have hA : P' a.A := fr.mine a.A (by unfold FA.own; exact List.mem_append_left _ (by simp))
      walk_at "ro"
      refine ⟨_, _, _, _, rfl, rfl, SqL.of h22, atC e rfl (getVN' al), ?_⟩
      refine ⟨_, _, rfl, rfl, ?_⟩
      refine ⟨_, _, rfl, ?_⟩
      have em : (if ((s'.ask.getD e 0 : Nat) : Int) - 1 > 0 then ((s'.ask.getD e 0 : Nat) : Int) - 1 else 0) = ((s'.ask.getD e 0 - 1 : Nat) : Int) := by split <;> omega
      rw [em]
      walk_at "ro"
      refine ⟨_, _, _, e, rfl, rfl, h22, ixC e rfl (by rw [List.length_map]; exact al), ?_⟩
      have es : (s'.ask.map vN).set e (.int ((s'.ask.getD e 0 - 1 : Nat) : Int)) = (s'.ask.set e (s'.ask.getD e 0 - 1)).map vN := by rw [List.map_set]; rfl
      rw [es]
      have fr3 := fr2.setA (s'.ask.set e (s'.ask.getD e 0 - 1)) (by rw [List.length_set]; exact fr.ok.ask4)
      refine k { a with ids := a.ids.set e (dropI s'.of[e] (a.ids[e]'(by rw [fr.il]; exact o4)) g) } _ ?_ (c2.upd hA)
      unfold endS
      rw [eg, eo]
      exact fr3
    · have hn : getO s'.of[e] g = none := by
        rcases valO g hoi with ⟨i, rl, b1, _⟩ | ⟨_, b2⟩
        · have hv : valV (entO s'.of[e] (a.ids[e]'(by rw [fr.il]; exact o4))) (.inl (g : Int)) = none := hv
          rw [hv] at b1; cases b1
        · exact b2
      have fr2 : Fr C_Frames P' H1 x a { s' with rt := s'.rt.set e (dropR s'.rt[e] g), of := s'.of.set e (dropO s'.of[e] g) } := by
        rw [getO_none hn, List.set_getElem_self]
        exact fr1
      have c2 := c1
      generalize H1 = H2 at fr2 c2
      have h12 := fr2.ins
      have h22 : H2 a.A = some (.lst (s'.ask.map vN)) := fr2.ha
      have al : e < s'.ask.length := by rw [fr.ok.ask4]; omega
      have hA : P' a.A := fr.mine a.A (by unfold FA.own; exact List.mem_append_left _ (by simp))
      walk_at "ro"
      refine ⟨_, _, _, _, rfl, rfl, SqL.of h22, atC e rfl (getVN' al), ?_⟩
      refine ⟨_, _, rfl, rfl, ?_⟩
      refine ⟨_, _, rfl, ?_⟩
      have em : (if ((s'.ask.getD e 0 : Nat) : Int) - 1 > 0 then ((s'.ask.getD e 0 : Nat) : Int) - 1 else 0) = ((s'.ask.getD e 0 - 1 : Nat) : Int) := by split <;> omega
      rw [em]
      walk_at "ro"
      refine ⟨_, _, _, e, rfl, rfl, h22, ixC e rfl (by rw [List.length_map]; exact al), ?_⟩
      have es : (s'.ask.map vN).set e (.int ((s'.ask.getD e 0 - 1 : Nat) : Int)) = (s'.ask.set e (s'.ask.getD e 0 - 1)).map vN := by rw [List.map_set]; rfl
      rw [es]
      have fr3 := fr2.setA (s'.ask.set e (s'.ask.getD e 0 - 1)) (by rw [List.length_set]; exact fr.ok.ask4)
      refine k a _ ?_ (c2.upd hA)
      unfold endS
      rw [eg, eo]
      exact fr3
end
end My

namespace My
open PySem L2
local macro_rules | `(tactic| walk_at "ne") => `(tactic| first | assumption | exact Ne.symm (by assumption) | exact ne_of_none (by assumption) (by assumption) | exact Ne.symm (ne_of_none (by assumption) (by assumption)))
local macro_rules | `(tactic| walk_at "hp") => `(tactic| first | assumption | with_reducible exact upd_same | (with_reducible refine Eq.trans (upd_ne ?_) ?_; rotate_left; walk_at "hp"; walk_at "ne"))
local macro_rules | `(tactic| walk_at "cnd") => `(tactic| first | omega | (show (0 : Int) < _; omega) | exact ⟨by omega, by omega⟩ | exact Or.inl ⟨by omega, by omega⟩ | exact Or.inr ⟨by omega, by omega⟩ | exact ⟨by omega, by omega, by decide⟩ | exact ⟨by omega, by omega, by omega⟩)
local macro_rules | `(tactic| walk_at "at") => `(tactic| first | exact atC 0 rfl rfl | exact atC 1 rfl rfl | exact atC 2 rfl rfl | exact atC 3 rfl rfl | exact atC 4 rfl rfl | exact atC 5 rfl rfl | exact atC 6 rfl rfl | exact atC 7 rfl rfl)
local macro_rules | `(tactic| walk_at "ix") => `(tactic| first | exact ixC 0 rfl (Nat.le_of_ble_eq_true rfl) | exact ixC 1 rfl (Nat.le_of_ble_eq_true rfl) | exact ixC 2 rfl (Nat.le_of_ble_eq_true rfl) | exact ixC 3 rfl (Nat.le_of_ble_eq_true rfl) | exact ixC 4 rfl (Nat.le_of_ble_eq_true rfl) | exact ixC 5 rfl (Nat.le_of_ble_eq_true rfl))
local macro_rules | `(tactic| walk_at "st") => `(tactic| first
  | refine ⟨_, rfl, ?_⟩
  | refine ⟨_, _, rfl, rfl, (by walk_at "cnd" : (_ : Prop)), ?_⟩
  | refine ⟨_, _, rfl, rfl, ?_⟩
  | refine ⟨rfl, ?_⟩
  | refine Or.inl ⟨_, rfl, ?_⟩
  | refine ⟨_, _, _, _, rfl, rfl, by exact SqL.of (by walk_at "hp"), by walk_at "at", ?_⟩
  | refine ⟨_, _, _, _, rfl, rfl, by exact SqT.of (by walk_at "hp"), by walk_at "at", ?_⟩
  | refine ⟨_, _, _, _, rfl, rfl, by walk_at "hp", by walk_at "ix", ?_⟩
  | refine ⟨_, _, rfl, Or.inl (by exact SqL.of (by walk_at "hp")), ?_⟩
  | refine ⟨_, _, rfl, Or.inr (by exact SqT.of (by walk_at "hp")), ?_⟩)
local macro_rules | `(tactic| walk_at "so") => `(tactic| first
  | refine ⟨_, _, _, _, _, rfl, by walk_at "hp", by assumption, by assumption, rfl, ?_⟩
  | refine ⟨_, _, _, _, rfl, by walk_at "hp", by assumption, by assumption, Nat.le_of_ble_eq_true rfl, ?_⟩
  | refine ⟨_, _, _, rfl, by walk_at "hp", rfl, ?_⟩
  | walk_at "st")
local macro_rules | `(tactic| walk_at "ro") => `(tactic| repeat walk_at "so")
local macro_rules | `(tactic| walk_at "run") => `(tactic| repeat walk_at "st")

theorem isE_nat {e : Nat} (h : e < 4) : isE (.int (e : Int)) = true := by
  show (decide ((0 : Int) ≤ (e : Int)) && decide ((e : Int) ≤ 3)) = true
  rw [decide_eq_true (by omega), decide_eq_true (by omega)]; rfl
theorem isF_nat {s : FS} {f : Nat} (h : f < s.m) : isF s (.int (f : Int)) = true := by
  show (decide ((0 : Int) ≤ (f : Int)) && decide ((f : Int) ≤ (s.m : Int) - 1)) = true
  rw [decide_eq_true (by omega), decide_eq_true (by omega)]; rfl
theorem right_nat {s : FS} {e f : Nat} (he : e < 4) (hf : f < s.m) : rightOf s (.int (e : Int)) (.int (f : Int)) = getR (s.rt.getD e []) f := by
  unfold rightOf
  rw [if_pos ⟨isE_nat he, isF_nat hf⟩]; rfl
def spDrop (C : Addr) : Sp := fun vs H Q _ => ∃ P x a s, ∃ e f : Nat, vs = [.ref x, .int (e : Int), .int (f : Int)] ∧ Fr C P H x a s ∧ e < 4 ∧ f < s.m ∧ (getR (s.rt.getD e []) f = none → Q (.bl false) H) ∧ (getR (s.rt.getD e []) f ≠ none → ∀ a' H', Fr C P H' x a' (endS s e f) → ChgP P H H' → Q (.bl true) H')
section
variable {P : Program} {w : World} {K : PySem.W.Frag} {mg : Str → Option Value} {base : Heap} {C_Frames C_NotValid : Addr}
abbrev s_Frames_drop : Stmt := inClass (topS 19) 4
abbrev ns_Frames_drop : List Str := ["self", "environment", "frame"]
theorem sc_Frames_drop : FnScope ns_Frames_drop ["self", "environment", "frame"] (defScope s_Frames_drop) := ⟨rfl, rfl, rfl, by decide +kernel, rfl, by decide +kernel, by decide +kernel⟩

theorem ok_Frames_drop {f : Addr} {fd : FuncData} (F : Fun K "drop" "Frames.drop" s_Frames_drop f fd) (T : Txt K mg C_Frames C_NotValid) (D_Frames_right : Mth P w K mg base CX0 5 C_Frames "right" ["self", "environment", "frame"] (spRight C_Frames)) (D_Frames_end : Mth P w K mg base CX0 1 C_Frames "_end" ["self", "environment", "frame"] (spEnd C_Frames)) : FnOk P w K mg base CX0 6 f fd ["self", "environment", "frame"] (spDrop C_Frames) := by
  have ho_Frames := T.o_Frames; have hn_Frames__words := T.n_Frames__words; have hn_Frames__shares := T.n_Frames__shares; have hn_Frames__rights := T.n_Frames__rights; have hn_Frames__offers := T.n_Frames__offers; have hn_Frames__asked := T.n_Frames__asked; have hn_Frames__ends_to_wait := T.n_Frames__ends_to_wait; have hn_Frames__taken := T.n_Frames__taken
  refine F.ok sc_Frames_drop (fun vs H Q E h => ?_) (fun cdv A outer s H vs Q E hr h => ?_)
  · obtain ⟨P', x, a, s', e, g, rfl, _⟩ := h
    rfl
  · obtain ⟨P', x, a, s', e, g, rfl, fr, e4, gm, kn, ks⟩ := h
    refine ⟨_, (pss_cons (ps_if (pt_cmpR op_isN (pe_dmeth (pv 0) D_Frames_right (hr.mono (by decide)) pass0 (pa_cons (pv 1) (pa_cons (pv 2) pa_nil))) pe_non (nomark _)) (pss_one (ps_ret pe_bl)) pss_nil)
  (pss_cons (ps_expr (pe_dmeth (pv 0) D_Frames_end (hr.mono (by decide)) pass0 (pa_cons (pv 1) (pa_cons (pv 2) pa_nil))))
  (pss_one (ps_ret pe_bl)))), ?_⟩
    have h1 := fr.ins
    walk_at "ro"
    refine ⟨P', x, a, s', _, _, _, _, rfl, fr, .int _, .int _, ?_⟩
    rw [right_nat e4 gm]
    cases e5 : getR (s'.rt.getD e []) g with
    | none =>
      walk_at "ro"
      exact kn e5
    | some b =>
      have ne : getR (s'.rt.getD e []) g ≠ none := by rw [e5]; intro z; cases z
      walk_at "ro"
      refine ⟨P', x, a, s', e, g, rfl, fr, e4, ne, fun a' H' fr' c => ?_⟩
      walk_at "ro"
      exact ks ne a' H' fr' c
end
end My

namespace My
open PySem L2
local macro_rules | `(tactic| walk_at "ne") => `(tactic| first | assumption | exact Ne.symm (by assumption) | exact ne_of_none (by assumption) (by assumption) | exact Ne.symm (ne_of_none (by assumption) (by assumption)))
local macro_rules | `(tactic| walk_at "hp") => `(tactic| first | assumption | with_reducible exact upd_same | (with_reducible refine Eq.trans (upd_ne ?_) ?_; rotate_left; walk_at "hp"; walk_at "ne"))
local macro_rules | `(tactic| walk_at "cnd") => `(tactic| first | omega | (show (0 : Int) < _; omega) | exact ⟨by omega, by omega⟩ | exact Or.inl ⟨by omega, by omega⟩ | exact Or.inr ⟨by omega, by omega⟩ | exact ⟨by omega, by omega, by decide⟩ | exact ⟨by omega, by omega, by omega⟩)
local macro_rules | `(tactic| walk_at "at") => `(tactic| first | exact atC 0 rfl rfl | exact atC 1 rfl rfl | exact atC 2 rfl rfl | exact atC 3 rfl rfl | exact atC 4 rfl rfl | exact atC 5 rfl rfl | exact atC 6 rfl rfl | exact atC 7 rfl rfl)
local macro_rules | `(tactic| walk_at "ix") => `(tactic| first | exact ixC 0 rfl (Nat.le_of_ble_eq_true rfl) | exact ixC 1 rfl (Nat.le_of_ble_eq_true rfl) | exact ixC 2 rfl (Nat.le_of_ble_eq_true rfl) | exact ixC 3 rfl (Nat.le_of_ble_eq_true rfl) | exact ixC 4 rfl (Nat.le_of_ble_eq_true rfl) | exact ixC 5 rfl (Nat.le_of_ble_eq_true rfl))
local macro_rules | `(tactic| walk_at "st") => `(tactic| first
  | refine ⟨_, rfl, ?_⟩
  | refine ⟨_, _, rfl, rfl, (by walk_at "cnd" : (_ : Prop)), ?_⟩
  | refine ⟨_, _, rfl, rfl, ?_⟩
  | refine ⟨rfl, ?_⟩
  | refine Or.inl ⟨_, rfl, ?_⟩
  | refine ⟨_, _, _, _, rfl, rfl, by exact SqL.of (by walk_at "hp"), by walk_at "at", ?_⟩
  | refine ⟨_, _, _, _, rfl, rfl, by exact SqT.of (by walk_at "hp"), by walk_at "at", ?_⟩
  | refine ⟨_, _, _, _, rfl, rfl, by walk_at "hp", by walk_at "ix", ?_⟩
  | refine ⟨_, _, rfl, Or.inl (by exact SqL.of (by walk_at "hp")), ?_⟩
  | refine ⟨_, _, rfl, Or.inr (by exact SqT.of (by walk_at "hp")), ?_⟩)
local macro_rules | `(tactic| walk_at "so") => `(tactic| first
  | refine ⟨_, _, _, _, _, rfl, by walk_at "hp", by assumption, by assumption, rfl, ?_⟩
  | refine ⟨_, _, _, _, rfl, by walk_at "hp", by assumption, by assumption, Nat.le_of_ble_eq_true rfl, ?_⟩
  | refine ⟨_, _, _, rfl, by walk_at "hp", rfl, ?_⟩
  | walk_at "st")
local macro_rules | `(tactic| walk_at "ro") => `(tactic| repeat walk_at "so")
local macro_rules | `(tactic| walk_at "run") => `(tactic| repeat walk_at "st")

/-- the right of a frame becomes "r" -/
def thinR (l : RL) (f : Nat) : RL := l.map fun p => if p.1 = f then (p.1, false) else p
theorem thin_ent {l : RL} {f : Nat} (h : getR l f ≠ none) : putK (entR l) (.inl (f : Int)) (.str "r") = entR (thinR l f) := by
  have e : (entR l).any (fun kv => decide (kv.1 = .inl (f : Int))) = true := by
    rw [valV_any, valR]
    cases e5 : getR l f with
    | none => exact absurd e5 h
    | some b => rfl
  unfold putK
  rw [if_pos e]
  unfold entR thinR
  rw [List.map_map, List.map_map]
  congr 1
  funext p
  show (if (Sum.inl (p.1 : Int) : Key) = .inl (f : Int) then ((Sum.inl (p.1 : Int) : Key), V.str "r") else ((Sum.inl (p.1 : Int) : Key), rV p.2)) = _
  by_cases q : p.1 = f
  · rw [if_pos (keyI.mpr q)]
    show _ = ((Sum.inl (((if p.1 = f then (p.1, false) else p) : Nat × Bool).1 : Int) : Key), rV ((if p.1 = f then (p.1, false) else p) : Nat × Bool).2)
    rw [if_pos q]; rfl
  · rw [if_neg (fun z => q (keyI.mp z))]
    show _ = ((Sum.inl (((if p.1 = f then (p.1, false) else p) : Nat × Bool).1 : Int) : Key), rV ((if p.1 = f then (p.1, false) else p) : Nat × Bool).2)
    rw [if_neg q]
def thinS (s : FS) (e f : Nat) : FS := { s with rt := s.rt.set e (thinR (s.rt.getD e []) f) }
def spNarrow (C : Addr) : Sp := fun vs H Q _ => ∃ P x a s, ∃ e f : Nat, vs = [.ref x, .int (e : Int), .int (f : Int)] ∧ Fr C P H x a s ∧ e < 4 ∧ f < s.m ∧ (∀ (j : Nat) (h : j < s.rt.length), s.rt[j].length < 100000) ∧ (getR (s.rt.getD e []) f ≠ some true → Q (.bl false) H) ∧ (getR (s.rt.getD e []) f = some true → ∀ H', Fr C P H' x a (thinS s e f) → ChgP P H H' → Q (.bl true) H')
section
variable {P : Program} {w : World} {K : PySem.W.Frag} {mg : Str → Option Value} {base : Heap} {C_Frames C_NotValid : Addr}
abbrev s_Frames_narrow : Stmt := inClass (topS 19) 5
abbrev ns_Frames_narrow : List Str := ["self", "environment", "frame"]
theorem sc_Frames_narrow : FnScope ns_Frames_narrow ["self", "environment", "frame"] (defScope s_Frames_narrow) := ⟨rfl, rfl, rfl, by decide +kernel, rfl, by decide +kernel, by decide +kernel⟩

theorem ok_Frames_narrow {f : Addr} {fd : FuncData} (F : Fun K "narrow" "Frames.narrow" s_Frames_narrow f fd) (T : Txt K mg C_Frames C_NotValid) (D_Frames_right : Mth P w K mg base CX0 5 C_Frames "right" ["self", "environment", "frame"] (spRight C_Frames)) : FnOk P w K mg base CX0 6 f fd ["self", "environment", "frame"] (spNarrow C_Frames) := by
  have ho_Frames := T.o_Frames; have hn_Frames__words := T.n_Frames__words; have hn_Frames__shares := T.n_Frames__shares; have hn_Frames__rights := T.n_Frames__rights; have hn_Frames__offers := T.n_Frames__offers; have hn_Frames__asked := T.n_Frames__asked; have hn_Frames__ends_to_wait := T.n_Frames__ends_to_wait; have hn_Frames__taken := T.n_Frames__taken
  refine F.ok sc_Frames_narrow (fun vs H Q E h => ?_) (fun cdv A outer s H vs Q E hr h => ?_)
  · obtain ⟨P', x, a, s', e, g, rfl, _⟩ := h
    rfl
  · obtain ⟨P', x, a, s', e, g, rfl, fr, e4, gm, hsz, kn, ks⟩ := h
    refine ⟨_, (pss_cons (ps_if (pt_cmpR op_ne (pe_dmeth (pv 0) D_Frames_right (hr.mono (by decide)) pass0 (pa_cons (pv 1) (pa_cons (pv 2) pa_nil))) pe_str (nomark _)) (pss_one (ps_ret pe_bl)) pss_nil)
  (pss_cons (ps_dput (units1 hr) (pe_ix (kIxL K) (kFld K (pv 0) rfl) (pv 1) (fun _ _ => rfl)) (pv 2) pe_str rfl)
  (pss_one (ps_ret pe_bl)))), ?_⟩
    have h1 := fr.ins
    have h2 := fr.r
    walk_at "ro"
    refine ⟨P', x, a, s', _, _, _, _, rfl, fr, .int _, .int _, ?_⟩
    rw [right_nat e4 gm]
    cases e5 : getR (s'.rt.getD e []) g with
    | none =>
      walk_at "ro"
      exact kn (by rw [e5]; intro z; cases z)
    | some b =>
      cases b with
      | false =>
        walk_at "ro"
        exact kn (by rw [e5]; intro z; cases z)
      | true =>
        have ne : getR (s'.rt.getD e []) g ≠ none := by rw [e5]; intro z; cases z
        have n4 : e < s'.rt.length := by rw [fr.ok.rt4]; omega
        obtain ⟨dd, hdd, hdk⟩ := fr.rs.at (List.getElem?_eq_getElem n4)
        have eg : s'.rt.getD e [] = s'.rt[e] := by rw [List.getD_eq_getElem?_getD, List.getElem?_eq_getElem n4]; rfl
        rw [eg] at ne
        have hdk : H dd = some (.dK (entR s'.rt[e])) := hdk
        have lt : (entR s'.rt[e]).length < sizeLine := by
          unfold entR
          rw [List.length_map]
          exact szt (hsz e n4)
        walk_at "ro"
        refine ⟨_, _, _, _, rfl, rfl, SqL.of h2, atC e rfl (by rw [List.getElem?_map, hdd]; rfl), ?_⟩
        have rl : (entR s'.rt[e]).length < sizeLine := lt
        walk_at "ro"
        refine ⟨dd, _, rfl, DPut.k (k := .inl (g : Int)) hdk rl, ?_⟩
        rw [thin_ent ne]
        have fr1 := fr.setR hdd (thinR s'.rt[e] g)
        have c1 : ChgP P' H (upd H dd (.dK (entR (thinR s'.rt[e] g)))) := ChgP.upd (fun _ _ _ h => h) (fr.mine dd (by unfold FA.own; exact List.mem_append_right _ (List.mem_append_right _ (List.mem_append_left _ (List.mem_of_getElem? hdd)))))
        walk_at "ro"
        refine ks e5 _ ?_ c1
        unfold thinS
        rw [eg]
        exact fr1
end
end My

namespace My
open PySem L2
local macro_rules | `(tactic| walk_at "ne") => `(tactic| first | assumption | exact Ne.symm (by assumption) | exact ne_of_none (by assumption) (by assumption) | exact Ne.symm (ne_of_none (by assumption) (by assumption)))
local macro_rules | `(tactic| walk_at "hp") => `(tactic| first | assumption | with_reducible exact upd_same | (with_reducible refine Eq.trans (upd_ne ?_) ?_; rotate_left; walk_at "hp"; walk_at "ne"))
local macro_rules | `(tactic| walk_at "cnd") => `(tactic| first | omega | (show (0 : Int) < _; omega) | exact ⟨by omega, by omega⟩ | exact Or.inl ⟨by omega, by omega⟩ | exact Or.inr ⟨by omega, by omega⟩ | exact ⟨by omega, by omega, by decide⟩ | exact ⟨by omega, by omega, by omega⟩)
local macro_rules | `(tactic| walk_at "at") => `(tactic| first | exact atC 0 rfl rfl | exact atC 1 rfl rfl | exact atC 2 rfl rfl | exact atC 3 rfl rfl | exact atC 4 rfl rfl | exact atC 5 rfl rfl | exact atC 6 rfl rfl | exact atC 7 rfl rfl)
local macro_rules | `(tactic| walk_at "ix") => `(tactic| first | exact ixC 0 rfl (Nat.le_of_ble_eq_true rfl) | exact ixC 1 rfl (Nat.le_of_ble_eq_true rfl) | exact ixC 2 rfl (Nat.le_of_ble_eq_true rfl) | exact ixC 3 rfl (Nat.le_of_ble_eq_true rfl) | exact ixC 4 rfl (Nat.le_of_ble_eq_true rfl) | exact ixC 5 rfl (Nat.le_of_ble_eq_true rfl))
local macro_rules | `(tactic| walk_at "st") => `(tactic| first
  | refine ⟨_, rfl, ?_⟩
  | refine ⟨_, _, rfl, rfl, (by walk_at "cnd" : (_ : Prop)), ?_⟩
  | refine ⟨_, _, rfl, rfl, ?_⟩
  | refine ⟨rfl, ?_⟩
  | refine Or.inl ⟨_, rfl, ?_⟩
  | refine ⟨_, _, _, _, rfl, rfl, by exact SqL.of (by walk_at "hp"), by walk_at "at", ?_⟩
  | refine ⟨_, _, _, _, rfl, rfl, by exact SqT.of (by walk_at "hp"), by walk_at "at", ?_⟩
  | refine ⟨_, _, _, _, rfl, rfl, by walk_at "hp", by walk_at "ix", ?_⟩
  | refine ⟨_, _, rfl, Or.inl (by exact SqL.of (by walk_at "hp")), ?_⟩
  | refine ⟨_, _, rfl, Or.inr (by exact SqT.of (by walk_at "hp")), ?_⟩)
local macro_rules | `(tactic| walk_at "so") => `(tactic| first
  | refine ⟨_, _, _, _, _, rfl, by walk_at "hp", by assumption, by assumption, rfl, ?_⟩
  | refine ⟨_, _, _, _, rfl, by walk_at "hp", by assumption, by assumption, Nat.le_of_ble_eq_true rfl, ?_⟩
  | refine ⟨_, _, _, rfl, by walk_at "hp", rfl, ?_⟩
  | walk_at "st")
local macro_rules | `(tactic| walk_at "ro") => `(tactic| repeat walk_at "so")
local macro_rules | `(tactic| walk_at "run") => `(tactic| repeat walk_at "st")

def askS (s : FS) (e n : Nat) : FS := { s with ask := s.ask.set e n, wt := s.wt.set e 2 }
def spAsk (C : Addr) : Sp := fun vs H Q _ => ∃ P x a s, ∃ e n : Nat, vs = [.ref x, .int (e : Int), .int (n : Int)] ∧ Fr C P H x a s ∧ e < 4 ∧ 1 ≤ n ∧ ∀ H', Fr C P H' x a (askS s e n) → ChgP P H H' → Q .non H'
section
variable {P : Program} {w : World} {K : PySem.W.Frag} {mg : Str → Option Value} {base : Heap} {C_Frames C_NotValid : Addr}
abbrev s_Frames_ask_back : Stmt := inClass (topS 19) 14
abbrev ns_Frames_ask_back : List Str := ["self", "environment", "many"]
theorem sc_Frames_ask_back : FnScope ns_Frames_ask_back ["self", "environment", "many"] (defScope s_Frames_ask_back) := ⟨rfl, rfl, rfl, by decide +kernel, rfl, by decide +kernel, by decide +kernel⟩

theorem ok_Frames_ask_back {f : Addr} {fd : FuncData} (F : Fun K "ask_back" "Frames.ask_back" s_Frames_ask_back f fd) (T : Txt K mg C_Frames C_NotValid) (D_is_environment : Dfn P w K mg base CX0 4 "is_environment" ["value"] spEnv) (D_is_at_least : Dfn P w K mg base CX0 1 "is_at_least" ["value", "least"] spGe) : FnOk P w K mg base (L2.CX P w) 5 f fd ["self", "environment", "many"] (spAsk C_Frames) := by
  have ho_Frames := T.o_Frames; have hn_Frames__words := T.n_Frames__words; have hn_Frames__shares := T.n_Frames__shares; have hn_Frames__rights := T.n_Frames__rights; have hn_Frames__offers := T.n_Frames__offers; have hn_Frames__asked := T.n_Frames__asked; have hn_Frames__ends_to_wait := T.n_Frames__ends_to_wait; have hn_Frames__taken := T.n_Frames__taken
  refine F.okX sc_Frames_ask_back (fun vs H Q E h => ?_) (fun cdv A outer s H vs Q E hr h => ?_)
  · obtain ⟨P', x, a, s', e, n, rfl, _⟩ := h
    rfl
  · obtain ⟨P', x, a, s', e, n, rfl, fr, e4, n1, k⟩ := h
    refine ⟨_, (pss_cons (ps_if (PW.pt (pw_or (pt_not (pt_val (pe_dcall D_is_environment (hr.mono (by decide)) (by rfl) pass0 (pa_cons (pv 1) pa_nil)))) (pw_or1 (pt_not (pt_val (pe_dcall D_is_at_least (hr.mono (by decide)) (by rfl) pass0 (pa_cons (pv 2) (pa_cons pe_int pa_nil)))))))) (pss_one (ps_raise (by rfl) (takes_of rfl rfl rfl rfl) (pmk_x T.x_NotValid (by rfl)))) pss_nil)
  (pss_cons (ps_asg (pv 2) (pg_sub (kFld K (pv 0) rfl) (pv 1) set_list))
  (pss_one (ps_asg (pe_gint (by rfl) T.c_PATIENCE) (pg_sub (kFld K (pv 0) rfl) (pv 1) set_list))))), ?_⟩
    have h1 := fr.ins
    have h2 : H a.A = some (.lst (s'.ask.map vN)) := fr.ha
    have al : e < s'.ask.length := by rw [fr.ok.ask4]; omega
    have wl : e < s'.wt.length := by rw [fr.ok.wt4]; omega
    walk_at "ro"
    refine ⟨_, _, rfl, .int _, _, rfl, ?_⟩
    rw [isE_nat e4]
    refine iteF ?_
    walk_at "ro"
    refine ⟨_, .int (n : Int), _, rfl, .int _, _, rfl, ?_⟩
    have eg : geI (.int (n : Int)) 1 = true := by
      show decide ((1 : Int) ≤ (n : Int)) = true
      exact decide_eq_true (by omega)
    rw [eg]
    refine iteF ?_
    walk_at "ro"
    refine ⟨_, _, _, e, rfl, rfl, h2, ixC e rfl (by rw [List.length_map]; exact al), ?_⟩
    have es : (s'.ask.map vN).set e (.int (n : Int)) = (s'.ask.set e n).map vN := by rw [List.map_set]; rfl
    rw [es]
    have fr1 := fr.setA (s'.ask.set e n) (by rw [List.length_set]; exact fr.ok.ask4)
    have c1 : ChgP P' H (upd H a.A (.lst ((s'.ask.set e n).map vN))) := ChgP.upd (fun _ _ _ h => h) (fr.mine a.A (by unfold FA.own; exact List.mem_append_left _ (by simp)))
    generalize upd H a.A (.lst ((s'.ask.set e n).map vN)) = H1 at fr1 c1
    have h11 := fr1.ins
    have h3 : H1 a.E = some (.lst (s'.wt.map vN)) := fr1.he
    walk_at "ro"
    refine ⟨_, _, _, e, rfl, rfl, h3, ixC e rfl (by rw [List.length_map]; exact wl), ?_⟩
    have ew : (s'.wt.map vN).set e (.int 2) = (s'.wt.set e 2).map vN := by rw [List.map_set]; rfl
    rw [ew]
    exact k _ (fr1.setE (s'.wt.set e 2) (by rw [List.length_set]; exact fr.ok.wt4)) (c1.upd (fr.mine a.E (by unfold FA.own; exact List.mem_append_left _ (by simp))))
end
end My

namespace My
open PySem L2
local macro_rules | `(tactic| walk_at "ne") => `(tactic| first | assumption | exact Ne.symm (by assumption) | exact ne_of_none (by assumption) (by assumption) | exact Ne.symm (ne_of_none (by assumption) (by assumption)))
local macro_rules | `(tactic| walk_at "hp") => `(tactic| first | assumption | with_reducible exact upd_same | (with_reducible refine Eq.trans (upd_ne ?_) ?_; rotate_left; walk_at "hp"; walk_at "ne"))
local macro_rules | `(tactic| walk_at "cnd") => `(tactic| first | omega | (show (0 : Int) < _; omega) | exact ⟨by omega, by omega⟩ | exact Or.inl ⟨by omega, by omega⟩ | exact Or.inr ⟨by omega, by omega⟩ | exact ⟨by omega, by omega, by decide⟩ | exact ⟨by omega, by omega, by omega⟩)
local macro_rules | `(tactic| walk_at "at") => `(tactic| first | exact atC 0 rfl rfl | exact atC 1 rfl rfl | exact atC 2 rfl rfl | exact atC 3 rfl rfl | exact atC 4 rfl rfl | exact atC 5 rfl rfl | exact atC 6 rfl rfl | exact atC 7 rfl rfl)
local macro_rules | `(tactic| walk_at "ix") => `(tactic| first | exact ixC 0 rfl (Nat.le_of_ble_eq_true rfl) | exact ixC 1 rfl (Nat.le_of_ble_eq_true rfl) | exact ixC 2 rfl (Nat.le_of_ble_eq_true rfl) | exact ixC 3 rfl (Nat.le_of_ble_eq_true rfl) | exact ixC 4 rfl (Nat.le_of_ble_eq_true rfl) | exact ixC 5 rfl (Nat.le_of_ble_eq_true rfl))
local macro_rules | `(tactic| walk_at "st") => `(tactic| first
  | refine ⟨_, rfl, ?_⟩
  | refine ⟨_, _, rfl, rfl, (by walk_at "cnd" : (_ : Prop)), ?_⟩
  | refine ⟨_, _, rfl, rfl, ?_⟩
  | refine ⟨rfl, ?_⟩
  | refine Or.inl ⟨_, rfl, ?_⟩
  | refine ⟨_, _, _, _, rfl, rfl, by exact SqL.of (by walk_at "hp"), by walk_at "at", ?_⟩
  | refine ⟨_, _, _, _, rfl, rfl, by exact SqT.of (by walk_at "hp"), by walk_at "at", ?_⟩
  | refine ⟨_, _, _, _, rfl, rfl, by walk_at "hp", by walk_at "ix", ?_⟩
  | refine ⟨_, _, rfl, Or.inl (by exact SqL.of (by walk_at "hp")), ?_⟩
  | refine ⟨_, _, rfl, Or.inr (by exact SqT.of (by walk_at "hp")), ?_⟩)
local macro_rules | `(tactic| walk_at "so") => `(tactic| first
  | refine ⟨_, _, _, _, _, rfl, by walk_at "hp", by assumption, by assumption, rfl, ?_⟩
  | refine ⟨_, _, _, _, rfl, by walk_at "hp", by assumption, by assumption, Nat.le_of_ble_eq_true rfl, ?_⟩
  | refine ⟨_, _, _, rfl, by walk_at "hp", rfl, ?_⟩
  | walk_at "st")
local macro_rules | `(tactic| walk_at "ro") => `(tactic| repeat walk_at "so")
local macro_rules | `(tactic| walk_at "run") => `(tactic| repeat walk_at "st")

/-! ### what is theirs: places apart -/
theorem nodup_set : ∀ {l : List Addr} {i : Nat} {p : Addr}, l.Nodup → p ∉ l → (l.set i p).Nodup
  | [], _, _, h, _ => h
  | a :: l, 0, p, h, n => by
    rw [List.set_cons_zero]
    exact List.nodup_cons.mpr ⟨fun q => n (List.mem_cons_of_mem _ q), (List.nodup_cons.mp h).2⟩
  | a :: l, i + 1, p, h, n => by
    rw [List.set_cons_succ]
    have h' := List.nodup_cons.mp h
    refine List.nodup_cons.mpr ⟨fun q => ?_, nodup_set h'.2 fun q => n (List.mem_cons_of_mem _ q)⟩
    rcases List.mem_or_eq_of_mem_set q with q | q
    · exact h'.1 q
    · exact n (by rw [← q]; exact List.mem_cons_self)
theorem set_pre {α : Type} (hd t : List α) {n f : Nat} {p : α} (e : hd.length = n) : (hd ++ t).set (n + f) p = hd ++ t.set f p := by
  rw [List.set_append, if_neg (by omega), show n + f - hd.length = f by omega]
theorem set_in {α : Type} (w t : List α) {f : Nat} {p : α} (h : f < w.length) : (w ++ t).set f p = w.set f p ++ t := by
  rw [List.set_append, if_pos h]
theorem own_set {a : FA} {x p : Addr} {f : Nat} (hf : f < a.wds.length) : ({ a with wds := a.wds.set f p } : FA).own x = (a.own x).set (8 + f) p := by
  show [x, a.W, a.S, a.R, a.O, a.A, a.E, a.T] ++ (a.wds.set f p ++ (a.rds ++ (a.ods ++ (a.tks ++ a.ids.flatten)))) = ([x, a.W, a.S, a.R, a.O, a.A, a.E, a.T] ++ (a.wds ++ (a.rds ++ (a.ods ++ (a.tks ++ a.ids.flatten))))).set (8 + f) p
  rw [set_pre (n := 8) _ _ rfl, set_in _ _ hf]
theorem set_perm : ∀ {ids : List (List Addr)} {e : Nat} {is : List Addr} {p : Addr}, ids[e]? = some is → (ids.set e (is ++ [p])).flatten.Perm (p :: ids.flatten)
  | [], e, _, _, h => by simp at h
  | o :: ids, 0, is, p, h => by
    have h : o = is := Option.some.inj h
    subst h
    show ((o ++ [p]) ++ ids.flatten).Perm (p :: (o ++ ids.flatten))
    rw [List.append_assoc]
    exact List.perm_middle
  | o :: ids, e + 1, is, p, h => by
    show (o ++ (ids.set e (is ++ [p])).flatten).Perm (p :: (o ++ ids.flatten))
    exact ((set_perm (by simpa using h)).append_left o).trans List.perm_middle
theorem own_add {a : FA} {x p : Addr} {e : Nat} {is : List Addr} (h : a.ids[e]? = some is) : (({ a with ids := a.ids.set e (is ++ [p]) } : FA).own x).Perm (p :: a.own x) := by
  unfold FA.own
  have h1 := set_perm (p := p) h
  refine ((((((h1.append_left a.tks).trans List.perm_middle).append_left a.ods).trans List.perm_middle).append_left a.rds).trans List.perm_middle |>.append_left a.wds |>.trans List.perm_middle |>.append_left _).trans List.perm_middle
theorem flat_one : ∀ {ids : List (List Addr)} {e k : Nat} {is js : List Addr} {i : Addr}, ids.flatten.Nodup → ids[e]? = some is → ids[k]? = some js → i ∈ is → i ∈ js → e = k
  | [], e, _, _, _, _, _, h, _, _, _ => by simp at h
  | o :: ids, 0, 0, _, _, _, _, _, _, _, _ => rfl
  | o :: ids, 0, k + 1, is, js, i, nd, h1, h2, m1, m2 => by
    have h1 : o = is := Option.some.inj h1
    subst h1
    exact absurd rfl ((List.nodup_append.mp (show (o ++ ids.flatten).Nodup from nd)).2.2 i m1 i (List.mem_flatten.mpr ⟨js, List.mem_of_getElem? (by simpa using h2), m2⟩))
  | o :: ids, e + 1, 0, is, js, i, nd, h1, h2, m1, m2 => by
    have h2 : o = js := Option.some.inj h2
    subst h2
    exact absurd rfl ((List.nodup_append.mp (show (o ++ ids.flatten).Nodup from nd)).2.2 i m2 i (List.mem_flatten.mpr ⟨is, List.mem_of_getElem? (by simpa using h1), m1⟩))
  | o :: ids, e + 1, k + 1, is, js, i, nd, h1, h2, m1, m2 => by
    exact congrArg (· + 1) (flat_one (List.nodup_append.mp (show (o ++ ids.flatten).Nodup from nd)).2.1 (by simpa using h1) (by simpa using h2) m1 m2)
def heads (a : FA) (x : Addr) : List Addr := [x, a.W, a.S, a.R, a.O, a.A, a.E, a.T]
theorem own_w {a : FA} {x p : Addr} (nd : (a.own x).Nodup) (hm : p ∈ a.wds) : (∀ b, b ∈ heads a x → b ≠ p) ∧ p ∉ a.rds ∧ p ∉ a.ods ∧ p ∉ a.tks ∧ p ∉ a.ids.flatten := by
  unfold FA.own at nd
  obtain ⟨h0, h1, n0⟩ := List.nodup_append.mp nd
  obtain ⟨h2, h3, n2⟩ := List.nodup_append.mp h1
  exact ⟨fun b hb => n0 b hb p (List.mem_append_left _ hm), fun q => n2 p hm p (List.mem_append_left _ q) rfl, fun q => n2 p hm p (List.mem_append_right _ (List.mem_append_left _ q)) rfl, fun q => n2 p hm p (List.mem_append_right _ (List.mem_append_right _ (List.mem_append_left _ q))) rfl, fun q => n2 p hm p (List.mem_append_right _ (List.mem_append_right _ (List.mem_append_right _ q))) rfl⟩
theorem own_t {a : FA} {x p : Addr} (nd : (a.own x).Nodup) (hm : p ∈ a.tks) : (∀ b, b ∈ heads a x → b ≠ p) ∧ p ∉ a.wds ∧ p ∉ a.rds ∧ p ∉ a.ods ∧ p ∉ a.ids.flatten := by
  unfold FA.own at nd
  obtain ⟨h0, h1, n0⟩ := List.nodup_append.mp nd
  obtain ⟨h2, h3, n2⟩ := List.nodup_append.mp h1
  obtain ⟨h4, h5, n4⟩ := List.nodup_append.mp h3
  obtain ⟨h6, h7, n6⟩ := List.nodup_append.mp h5
  obtain ⟨h8, h9, n8⟩ := List.nodup_append.mp h7
  exact ⟨fun b hb => n0 b hb p (List.mem_append_right _ (List.mem_append_right _ (List.mem_append_right _ (List.mem_append_left _ hm)))), fun q => n2 p q p (List.mem_append_right _ (List.mem_append_right _ (List.mem_append_left _ hm))) rfl, fun q => n4 p q p (List.mem_append_right _ (List.mem_append_left _ hm)) rfl, fun q => n6 p q p (List.mem_append_left _ hm) rfl, fun q => n8 p hm p q rfl⟩
theorem own_i {a : FA} {x p : Addr} (nd : (a.own x).Nodup) (hm : p ∈ a.ids.flatten) : (∀ b, b ∈ heads a x → b ≠ p) ∧ p ∉ a.wds ∧ p ∉ a.rds ∧ p ∉ a.ods ∧ p ∉ a.tks := by
  unfold FA.own at nd
  obtain ⟨h0, h1, n0⟩ := List.nodup_append.mp nd
  obtain ⟨h2, h3, n2⟩ := List.nodup_append.mp h1
  obtain ⟨h4, h5, n4⟩ := List.nodup_append.mp h3
  obtain ⟨h6, h7, n6⟩ := List.nodup_append.mp h5
  obtain ⟨h8, h9, n8⟩ := List.nodup_append.mp h7
  exact ⟨fun b hb => n0 b hb p (List.mem_append_right _ (List.mem_append_right _ (List.mem_append_right _ (List.mem_append_right _ hm)))), fun q => n2 p q p (List.mem_append_right _ (List.mem_append_right _ (List.mem_append_right _ hm))) rfl, fun q => n4 p q p (List.mem_append_right _ (List.mem_append_right _ hm)) rfl, fun q => n6 p q p (List.mem_append_right _ hm) rfl, fun q => n8 p q p hm rfl⟩
theorem os_upd {H : Hp} {p : Addr} {o : HO} {ods : List Addr} {ids : List (List Addr)} {of : List (List (Nat × RL))} (h : Each OfD H ods (ids.zip of)) (o1 : p ∉ ods) (i1 : p ∉ ids.flatten) : Each OfD (L2.upd H p o) ods (ids.zip of) := by
  refine ⟨h.1, fun j b q hb hq => OfD.upd (fun z => o1 (by rw [← z]; exact List.mem_of_getElem? hb)) (fun z => i1 ?_) (h.2 j b q hb hq)⟩
  obtain ⟨h8, _⟩ := List.getElem?_zip_eq_some.mp hq
  exact List.mem_flatten.mpr ⟨q.1, List.mem_of_getElem? h8, z⟩
/-- the words of a frame change in place -/
theorem Fr.setWi {C : Addr} {P : Addr → Prop} {H : Hp} {x : Addr} {a : FA} {s : FS} (h : Fr C P H x a s) {e : Nat} {d : Addr} (hd : a.wds[e]? = some d) (l : List Nat) : Fr C P (L2.upd H d (.lst (l.map vN))) x a { s with wd := s.wd.set e l } := by
  obtain ⟨m1, r1, o1, t1, i1⟩ := own_w h.nd (List.mem_of_getElem? hd)
  have k := h.ok
  refine ⟨⟨k.sh4, k.ask4, k.wt4, k.rt4, k.of4, k.tk4, by rw [List.length_set]; exact k.wdm, k.m64⟩, h.nd, h.mine, ?_, ?_, h.ws.put (own_parts h.nd).2.1 hd (fun _ _ m r => NsL.upd m r) upd_same, NsL.upd (m1 _ (by simp [heads])) h.hs, ?_, h.rs.upd r1 fun _ _ m r => RtD.upd m r, ?_, h.il, os_upd h.os o1 i1, NsL.upd (m1 _ (by simp [heads])) h.ha, NsL.upd (m1 _ (by simp [heads])) h.he, ?_, h.ts.upd t1 fun _ _ m r => NsL.upd m r⟩
  · rw [upd_ne (m1 _ (by simp [heads]))]; exact h.ins
  · rw [upd_ne (m1 _ (by simp [heads]))]; exact h.w
  · rw [upd_ne (m1 _ (by simp [heads]))]; exact h.r
  · rw [upd_ne (m1 _ (by simp [heads]))]; exact h.o
  · rw [upd_ne (m1 _ (by simp [heads]))]; exact h.t
/-- what was taken changes -/
theorem Fr.setT {C : Addr} {P : Addr → Prop} {H : Hp} {x : Addr} {a : FA} {s : FS} (h : Fr C P H x a s) {e : Nat} {d : Addr} (hd : a.tks[e]? = some d) (l : List Nat) : Fr C P (L2.upd H d (.lst (l.map vN))) x a { s with tk := s.tk.set e l } := by
  obtain ⟨m1, w1, r1, o1, i1⟩ := own_t h.nd (List.mem_of_getElem? hd)
  have k := h.ok
  refine ⟨⟨k.sh4, k.ask4, k.wt4, k.rt4, k.of4, by rw [List.length_set]; exact k.tk4, k.wdm, k.m64⟩, h.nd, h.mine, ?_, ?_, h.ws.upd w1 fun _ _ m r => NsL.upd m r, NsL.upd (m1 _ (by simp [heads])) h.hs, ?_, h.rs.upd r1 fun _ _ m r => RtD.upd m r, ?_, h.il, os_upd h.os o1 i1, NsL.upd (m1 _ (by simp [heads])) h.ha, NsL.upd (m1 _ (by simp [heads])) h.he, ?_, h.ts.put (own_parts h.nd).2.2.2.2.1 hd (fun _ _ m r => NsL.upd m r) upd_same⟩
  · rw [upd_ne (m1 _ (by simp [heads]))]; exact h.ins
  · rw [upd_ne (m1 _ (by simp [heads]))]; exact h.w
  · rw [upd_ne (m1 _ (by simp [heads]))]; exact h.r
  · rw [upd_ne (m1 _ (by simp [heads]))]; exact h.o
  · rw [upd_ne (m1 _ (by simp [heads]))]; exact h.t
/-- the keys stay: an inner dict changes in place -/
theorem entO_set {f : Nat} {rl rl' : RL} : ∀ {l : List (Nat × RL)} {is : List Addr} {j : Nat}, l[j]? = some (f, rl) → entO (l.set j (f, rl')) is = entO l is
  | [], _, j, h => by simp at h
  | p :: l, [], j, h => by unfold entO; simp
  | p :: l, i :: is, 0, h => by
    have h : p = (f, rl) := Option.some.inj h
    subst h; rfl
  | p :: l, i :: is, j + 1, h => by
    show ((.inl (p.1 : Int), .ref i) : Key × V) :: entO (l.set j (f, rl')) is = (.inl (p.1 : Int), .ref i) :: entO l is
    rw [entO_set (by simpa using h)]
theorem flat_nd : ∀ {ids : List (List Addr)} {e : Nat} {is : List Addr}, ids.flatten.Nodup → ids[e]? = some is → is.Nodup
  | [], e, _, _, h => by simp at h
  | o :: ids, 0, is, nd, h => by
    have h : o = is := Option.some.inj h
    subst h
    exact (List.nodup_append.mp (show (o ++ ids.flatten).Nodup from nd)).1
  | o :: ids, e + 1, is, nd, h => flat_nd (List.nodup_append.mp (show (o ++ ids.flatten).Nodup from nd)).2.1 (by simpa using h)
theorem Fr.setI {C : Addr} {P : Addr → Prop} {H : Hp} {x : Addr} {a : FA} {s : FS} (h : Fr C P H x a s) {e j f : Nat} {is : List Addr} {l : List (Nat × RL)} {i : Addr} {rl : RL} (hi : a.ids[e]? = some is) (hl : s.of[e]? = some l) (hj : is[j]? = some i) (hf : l[j]? = some (f, rl)) (rl' : RL) : Fr C P (L2.upd H i (.dK (entR rl'))) x a { s with of := s.of.set e (l.set j (f, rl')) } := by
  have him : i ∈ is := List.mem_of_getElem? hj
  have hm : i ∈ a.ids.flatten := List.mem_flatten.mpr ⟨is, List.mem_of_getElem? hi, him⟩
  obtain ⟨m1, w1, r1, o1, t1⟩ := own_i h.nd hm
  have nf := (own_parts h.nd).2.2.2.2.2
  have k := h.ok
  have ei : a.ids.set e is = a.ids := by
    obtain ⟨h1, h2⟩ := List.getElem?_eq_some_iff.mp hi
    rw [← h2]
    exact List.set_getElem_self h1
  have ez : a.ids.zip (s.of.set e (l.set j (f, rl'))) = (a.ids.zip s.of).set e (is, l.set j (f, rl')) := by
    rw [← zip_set, ei]
  have hz : (a.ids.zip s.of)[e]? = some (is, l) := List.getElem?_zip_eq_some.mpr ⟨hi, hl⟩
  refine ⟨⟨k.sh4, k.ask4, k.wt4, k.rt4, by rw [List.length_set]; exact k.of4, k.tk4, k.wdm, k.m64⟩, h.nd, h.mine, ?_, ?_, h.ws.upd w1 fun _ _ m r => NsL.upd m r, NsL.upd (m1 _ (by simp [heads])) h.hs, ?_, h.rs.upd r1 fun _ _ m r => RtD.upd m r, ?_, by rw [List.length_set]; exact h.il, ?_, NsL.upd (m1 _ (by simp [heads])) h.ha, NsL.upd (m1 _ (by simp [heads])) h.he, ?_, h.ts.upd t1 fun _ _ m r => NsL.upd m r⟩
  · rw [upd_ne (m1 _ (by simp [heads]))]; exact h.ins
  · rw [upd_ne (m1 _ (by simp [heads]))]; exact h.w
  · rw [upd_ne (m1 _ (by simp [heads]))]; exact h.r
  · rw [upd_ne (m1 _ (by simp [heads]))]; exact h.o
  · show Each OfD _ a.ods (a.ids.zip (s.of.set e (l.set j (f, rl'))))
    rw [ez]
    refine ⟨by rw [List.length_set]; exact h.os.1, fun k b q hb hq => ?_⟩
    have bi : b ≠ i := fun z => o1 (by rw [← z]; exact List.mem_of_getElem? hb)
    by_cases z : e = k
    · subst z
      rw [List.getElem?_set_self (List.getElem?_eq_some_iff.mp hz).1] at hq
      cases hq
      obtain ⟨g1, g2⟩ := h.os.2 e b _ hb hz
      refine ⟨?_, g2.put (flat_nd nf hi) hj (fun _ _ m r => RtD.upd m r) upd_same⟩
      rw [upd_ne bi]
      show H b = some (.dK (entO (l.set j (f, rl')) is))
      rw [entO_set hf]
      exact g1
    · rw [List.getElem?_set_ne z] at hq
      obtain ⟨h8, _⟩ := List.getElem?_zip_eq_some.mp hq
      exact OfD.upd bi (fun y => z (flat_one nf hi h8 him y)) (h.os.2 k b q hb hq)
  · rw [upd_ne (m1 _ (by simp [heads]))]; exact h.t
theorem Fr.mono {C : Addr} {P P' : Addr → Prop} {H : Hp} {x : Addr} {a : FA} {s : FS} (h : Fr C P H x a s) (m : ∀ b ∈ a.own x, P' b) : Fr C P' H x a s := ⟨h.ok, h.nd, m, h.ins, h.w, h.ws, h.hs, h.r, h.rs, h.o, h.il, h.os, h.ha, h.he, h.t, h.ts⟩
/-- a frame gets another list of words -/
theorem Fr.setW {C : Addr} {P : Addr → Prop} {H : Hp} {x : Addr} {a : FA} {s : FS} (h : Fr C P H x a s) {f : Nat} (hf : f < a.wds.length) {p : Addr} {l : List Nat} (hp : NsL H p l) (np : p ∉ a.own x) (Pp : P p) : Fr C P (L2.upd H a.W (.lst ((a.wds.set f p).map V.ref))) x { a with wds := a.wds.set f p } { s with wd := s.wd.set f l } := by
  have nd := h.nd
  have nd' : (({ a with wds := a.wds.set f p } : FA).own x).Nodup := by rw [own_set hf]; exact nodup_set h.nd np
  have mine' : ∀ b ∈ ({ a with wds := a.wds.set f p } : FA).own x, P b := by
    intro b hb
    rw [own_set hf] at hb
    rcases List.mem_or_eq_of_mem_set hb with q | q
    · exact h.mine b q
    · rw [q]; exact Pp
  unfold FA.own at nd
  obtain ⟨h0, h1, n0⟩ := List.nodup_append.mp nd
  have z : a.W ∈ ([x, a.W, a.S, a.R, a.O, a.A, a.E, a.T] : List Addr) := by simp
  have out : ∀ b, b ∈ a.wds ++ (a.rds ++ (a.ods ++ (a.tks ++ a.ids.flatten))) → b ≠ a.W := fun b hb e => n0 _ z b hb e.symm
  have w1 : a.W ∉ a.wds := fun q => out _ (List.mem_append_left _ q) rfl
  have r1 : a.W ∉ a.rds := fun q => out _ (List.mem_append_right _ (List.mem_append_left _ q)) rfl
  have o1 : a.W ∉ a.ods := fun q => out _ (List.mem_append_right _ (List.mem_append_right _ (List.mem_append_left _ q))) rfl
  have t1 : a.W ∉ a.tks := fun q => out _ (List.mem_append_right _ (List.mem_append_right _ (List.mem_append_right _ (List.mem_append_left _ q)))) rfl
  have i1 : a.W ∉ a.ids.flatten := fun q => out _ (List.mem_append_right _ (List.mem_append_right _ (List.mem_append_right _ (List.mem_append_right _ q)))) rfl
  have pw : p ≠ a.W := fun e => np (by rw [e]; unfold FA.own; exact List.mem_append_left _ z)
  have k := h.ok
  simp only [List.nodup_cons, List.mem_cons, List.not_mem_nil, or_false, not_or] at h0
  obtain ⟨⟨x1, x2, x3, x4, x5, x6, x7⟩, ⟨y1, y2, y3, y4, y5, y6⟩, ⟨z1, z2, z3, z4, z5⟩, ⟨u1, u2, u3, u4⟩, ⟨v1, v2, v3⟩, ⟨q1, q2⟩, q3, _⟩ := h0
  refine ⟨⟨k.sh4, k.ask4, k.wt4, k.rt4, k.of4, k.tk4, by rw [List.length_set]; exact k.wdm, k.m64⟩, nd', mine', ?_, upd_same, ?_, ?_, ?_, h.rs.upd r1 fun _ _ m r => RtD.upd m r, ?_, h.il, os_upd h.os o1 i1, ?_, ?_, ?_, h.ts.upd t1 fun _ _ m r => NsL.upd m r⟩
  · rw [upd_ne (by assumption)]; exact h.ins
  · refine ⟨by rw [List.length_set, List.length_set]; exact h.ws.1, fun j d q hd hq => ?_⟩
    by_cases e : f = j
    · subst e
      rw [List.getElem?_set_self hf] at hd
      rw [List.getElem?_set_self (by rw [← h.ws.1]; exact hf)] at hq
      cases hd
      cases hq
      exact NsL.upd pw hp
    · rw [List.getElem?_set_ne e] at hd hq
      exact NsL.upd (fun y => w1 (by rw [← y]; exact List.mem_of_getElem? hd)) (h.ws.2 j d q hd hq)
  · exact NsL.upd (by first | assumption | exact Ne.symm (by assumption)) h.hs
  · rw [upd_ne (by first | assumption | exact Ne.symm (by assumption))]; exact h.r
  · rw [upd_ne (by first | assumption | exact Ne.symm (by assumption))]; exact h.o
  · exact NsL.upd (by first | assumption | exact Ne.symm (by assumption)) h.ha
  · exact NsL.upd (by first | assumption | exact Ne.symm (by assumption)) h.he
  · rw [upd_ne (by first | assumption | exact Ne.symm (by assumption))]; exact h.t
/-- all that is theirs stands in the heap -/
theorem Fr.al {C : Addr} {P : Addr → Prop} {H : Hp} {x : Addr} {a : FA} {s : FS} (h : Fr C P H x a s) : ∀ b ∈ a.own x, H b ≠ none := by
  have each : ∀ {α : Type} {rel : Hp → Addr → α → Prop} {ds : List Addr} {ls : List α}, Each rel H ds ls → (∀ d l, rel H d l → H d ≠ none) → ∀ b ∈ ds, H b ≠ none := by
    intro α rel ds ls e f b hb
    obtain ⟨j, hj, eb⟩ := List.mem_iff_getElem.mp hb
    exact f b _ (e.2 j b (ls[j]'(by rw [← e.1]; exact hj)) (by rw [List.getElem?_eq_getElem hj, eb]) (List.getElem?_eq_getElem _))
  have ns : ∀ d l, NsL H d l → H d ≠ none := fun d l r => by rw [show H d = _ from r]; exact fun z => by cases z
  have rt : ∀ d l, RtD H d l → H d ≠ none := fun d l r => by rw [show H d = _ from r]; exact fun z => by cases z
  intro b hb
  unfold FA.own at hb
  rcases List.mem_append.mp hb with hb | hb
  · simp only [List.mem_cons, List.not_mem_nil, or_false] at hb
    rcases hb with rfl | rfl | rfl | rfl | rfl | rfl | rfl | rfl
    · rw [h.ins]; exact fun z => by cases z
    · rw [h.w]; exact fun z => by cases z
    · exact ns _ _ h.hs
    · rw [h.r]; exact fun z => by cases z
    · rw [h.o]; exact fun z => by cases z
    · exact ns _ _ h.ha
    · exact ns _ _ h.he
    · rw [h.t]; exact fun z => by cases z
  rcases List.mem_append.mp hb with hb | hb
  · exact each h.ws ns b hb
  rcases List.mem_append.mp hb with hb | hb
  · exact each h.rs rt b hb
  rcases List.mem_append.mp hb with hb | hb
  · exact each h.os (fun d q r => by rw [r.1]; exact fun z => by cases z) b hb
  rcases List.mem_append.mp hb with hb | hb
  · exact each h.ts ns b hb
  obtain ⟨is, hi, hb⟩ := List.mem_flatten.mp hb
  obtain ⟨e, he, ei⟩ := List.mem_iff_getElem.mp hi
  have oe : e < s.of.length := by rw [← h.il]; exact he
  have hz : (a.ids.zip s.of)[e]? = some (is, s.of[e]) := List.getElem?_zip_eq_some.mpr ⟨by rw [List.getElem?_eq_getElem he, ei], List.getElem?_eq_getElem oe⟩
  obtain ⟨d, hd, q⟩ := h.os.at hz
  exact each q.2 (fun d p r => rt d p.2 r) b hb
/-- the offers, looked at -/
def offN (of : List (List (Nat × RL))) (e f o : Nat) : Option Bool := getR ((getO (of.getD e []) f).getD []) o
def OB (n : Nat) (of : List (List (Nat × RL))) : Prop := ∀ l ∈ of, l.length ≤ n ∧ ∀ p ∈ l, p.2.length ≤ n
theorem getD_set {α : Type} {l : List α} {e e' : Nat} {x d : α} (h : e < l.length) : (l.set e x).getD e' d = if e' = e then x else l.getD e' d := by
  rw [List.getD_eq_getElem?_getD]
  by_cases q : e' = e
  · subst q
    rw [List.getElem?_set_self h, if_pos rfl]; rfl
  · rw [List.getElem?_set_ne (fun z => q z.symm), if_neg q, List.getD_eq_getElem?_getD]
theorem offN_set {of : List (List (Nat × RL))} {e : Nat} {l : List (Nat × RL)} (h : e < of.length) (e' f o : Nat) : offN (of.set e l) e' f o = if e' = e then getR ((getO l f).getD []) o else offN of e' f o := by
  unfold offN
  rw [getD_set h]
  by_cases q : e' = e
  · rw [if_pos q, if_pos q]
  · rw [if_neg q, if_neg q]
theorem valO2 {H : Hp} (f : Nat) : ∀ {l : List (Nat × RL)} {is : List Addr}, Each (fun H i (p : Nat × RL) => RtD H i p.2) H is l → (∃ j i rl, valV (entO l is) (.inl (f : Int)) = some (.ref i) ∧ getO l f = some rl ∧ is[j]? = some i ∧ l[j]? = some (f, rl) ∧ RtD H i rl ∧ ∀ rl' g, getO (l.set j (f, rl')) g = if g = f then some rl' else getO l g) ∨ (valV (entO l is) (.inl (f : Int)) = none ∧ getO l f = none)
  | [], is, _ => .inr ⟨by unfold entO; rw [List.zip_nil_left]; rfl, rfl⟩
  | p :: l, [], h => by cases h.1
  | p :: l, i :: is, h => by
    have h' : Each (fun H i (p : Nat × RL) => RtD H i p.2) H is l := ⟨by simpa using h.1, fun j d q a b => h.2 (j + 1) d q (by simpa using a) (by simpa using b)⟩
    have h0 := h.2 0 i p rfl rfl
    have e0 : entO (p :: l) (i :: is) = (.inl (p.1 : Int), .ref i) :: entO l is := rfl
    rw [e0]
    by_cases e : p.1 = f
    · subst e
      refine .inl ⟨0, i, p.2, valV_pos (keyI.mpr rfl), by unfold getO; rw [List.find?_cons_of_pos (by simp)]; rfl, rfl, rfl, h0, fun rl' g => ?_⟩
      unfold getO
      rw [List.set_cons_zero]
      by_cases q : g = p.1
      · subst q
        rw [List.find?_cons_of_pos (by simp), if_pos rfl]; rfl
      · rw [List.find?_cons_of_neg (by simpa using fun z => q z.symm), if_neg q, List.find?_cons_of_neg (by simpa using fun z => q z.symm)]
    · rw [valV_neg (fun q => e (keyI.mp q))]
      have eg : ∀ l', getO (p :: l') f = getO l' f := fun l' => by unfold getO; rw [List.find?_cons_of_neg (by simp [e])]
      rw [eg]
      rcases valO2 f h' with ⟨j, i', rl, a, b, c, d, r, q⟩ | h
      · refine .inl ⟨j + 1, i', rl, a, b, by simpa using c, by simpa using d, r, fun rl' g => ?_⟩
        rw [List.set_cons_succ]
        have q := q rl' g
        unfold getO at q ⊢
        by_cases z : p.1 = g
        · rw [List.find?_cons_of_pos (by simp [z]), List.find?_cons_of_pos (by simp [z]), if_neg (fun y => e (z.trans y))]
        · rw [List.find?_cons_of_neg (by simp [z]), List.find?_cons_of_neg (by simp [z])]
          exact q
      · exact .inr h
/-- what a dict of rights says when one is put, or goes -/
def putR (l : RL) (f : Nat) (b : Bool) : RL := if (l.any fun p => decide (p.1 = f)) = true then l.map fun p => if p.1 = f then (p.1, b) else p else l ++ [(f, b)]
theorem put_ent (l : RL) (f : Nat) (b : Bool) : putK (entR l) (.inl (f : Int)) (rV b) = entR (putR l f b) := by
  have e : (entR l).any (fun kv => decide (kv.1 = .inl (f : Int))) = l.any fun p => decide (p.1 = f) := by
    unfold entR
    rw [List.any_map]
    congr 1
    funext p
    exact decide_eq_decide.mpr keyI
  unfold putK putR
  rw [e]
  by_cases q : (l.any fun p => decide (p.1 = f)) = true
  · rw [if_pos q, if_pos q]
    unfold entR
    rw [List.map_map, List.map_map]
    congr 1
    funext p
    show (if (Sum.inl (p.1 : Int) : Key) = .inl (f : Int) then ((Sum.inl (p.1 : Int) : Key), rV b) else ((Sum.inl (p.1 : Int) : Key), rV p.2)) = _
    by_cases q : p.1 = f
    · rw [if_pos (keyI.mpr q)]
      show _ = ((Sum.inl (((if p.1 = f then (p.1, b) else p) : Nat × Bool).1 : Int) : Key), rV ((if p.1 = f then (p.1, b) else p) : Nat × Bool).2)
      rw [if_pos q]
    · rw [if_neg (fun z => q (keyI.mp z))]
      show _ = ((Sum.inl (((if p.1 = f then (p.1, b) else p) : Nat × Bool).1 : Int) : Key), rV ((if p.1 = f then (p.1, b) else p) : Nat × Bool).2)
      rw [if_neg q]
  · rw [if_neg q, if_neg q]
    unfold entR
    rw [List.map_append]; rfl
theorem rV_inj {a b : Option Bool} (h : a.map rV = b.map rV) : a = b := by
  cases a with
  | none =>
    cases b with
    | none => rfl
    | some b => cases h
  | some a =>
    cases b with
    | none => cases h
    | some b =>
      cases a <;> cases b <;> first | rfl | (exfalso; revert h; decide)
theorem get_put (l : RL) (f : Nat) (b : Bool) (g : Nat) : getR (putR l f b) g = if g = f then some b else getR l g := by
  apply rV_inj
  rw [← valR, ← put_ent, valV_put]
  by_cases q : g = f
  · rw [if_pos (keyI.mpr q), if_pos q]; rfl
  · rw [if_neg (fun z => q (keyI.mp z)), if_neg q, valR]
theorem valV_drop (k j : Key) : ∀ kvs : List (Key × V), valV (dropK kvs k) j = if j = k then none else valV kvs j
  | [] => by
    by_cases q : j = k
    · rw [if_pos q]; rfl
    · rw [if_neg q]; rfl
  | p :: r => by
    rw [dropK_cons]
    have ih := valV_drop k j r
    by_cases e : p.1 = k
    · rw [if_pos e, ih]
      by_cases q : j = k
      · rw [if_pos q, if_pos q]
      · rw [if_neg q, if_neg q, valV_neg (fun z => q (z.symm.trans e))]
    · rw [if_neg e]
      by_cases y : p.1 = j
      · rw [valV_pos y, if_neg (fun z => e (y.trans z)), valV_pos y]
      · rw [valV_neg y, ih, valV_neg y]
theorem get_drop (l : RL) (f g : Nat) : getR (dropR l f) g = if g = f then none else getR l g := by
  apply rV_inj
  rw [← valR, ← drop_entR, valV_drop]
  by_cases q : g = f
  · rw [if_pos (keyI.mpr q), if_pos q]; rfl
  · rw [if_neg (fun z => q (keyI.mp z)), if_neg q, valR]
theorem getO_drop (f g : Nat) : ∀ l : List (Nat × RL), getO (dropO l f) g = if g = f then none else getO l g
  | [] => by
    by_cases q : g = f
    · rw [if_pos q]; rfl
    · rw [if_neg q]; rfl
  | p :: l => by
    have ih := getO_drop f g l
    unfold dropO getO at ih ⊢
    by_cases e : p.1 = f
    · rw [List.filter_cons_of_neg (by simp [e]), ih]
      by_cases q : g = f
      · rw [if_pos q, if_pos q]
      · rw [if_neg q, if_neg q, List.find?_cons_of_neg (by simpa using fun z => q (z.symm.trans e))]
    · rw [List.filter_cons_of_pos (by simp [e])]
      by_cases y : p.1 = g
      · rw [List.find?_cons_of_pos (by simp [y]), if_neg (fun z => e (y.trans z)), List.find?_cons_of_pos (by simp [y])]
      · rw [List.find?_cons_of_neg (by simp [y]), ih, List.find?_cons_of_neg (by simp [y])]
theorem putR_len (l : RL) (f : Nat) (b : Bool) : (putR l f b).length ≤ l.length + 1 := by
  unfold putR
  split
  · rw [List.length_map]; omega
  · rw [List.length_append]; exact Nat.le_refl _
theorem putR_new {l : RL} {f : Nat} (b : Bool) (h : getR l f = none) : putR l f b = l ++ [(f, b)] := by
  unfold putR
  rw [if_neg]
  intro q
  obtain ⟨p, hp, e⟩ := List.any_eq_true.mp q
  unfold getR at h
  cases y : l.find? (fun p => decide (p.1 = f)) with
  | none => exact absurd e (List.find?_eq_none.mp y p hp)
  | some z => rw [y] at h; cases h
end My

namespace My
open PySem L2
local macro_rules | `(tactic| walk_at "ne") => `(tactic| first | assumption | exact Ne.symm (by assumption) | exact ne_of_none (by assumption) (by assumption) | exact Ne.symm (ne_of_none (by assumption) (by assumption)))
local macro_rules | `(tactic| walk_at "hp") => `(tactic| first | assumption | with_reducible exact upd_same | (with_reducible refine Eq.trans (upd_ne ?_) ?_; rotate_left; walk_at "hp"; walk_at "ne"))
local macro_rules | `(tactic| walk_at "cnd") => `(tactic| first | omega | (show (0 : Int) < _; omega) | exact ⟨by omega, by omega⟩ | exact Or.inl ⟨by omega, by omega⟩ | exact Or.inr ⟨by omega, by omega⟩ | exact ⟨by omega, by omega, by decide⟩ | exact ⟨by omega, by omega, by omega⟩)
local macro_rules | `(tactic| walk_at "at") => `(tactic| first | exact atC 0 rfl rfl | exact atC 1 rfl rfl | exact atC 2 rfl rfl | exact atC 3 rfl rfl | exact atC 4 rfl rfl | exact atC 5 rfl rfl | exact atC 6 rfl rfl | exact atC 7 rfl rfl)
local macro_rules | `(tactic| walk_at "ix") => `(tactic| first | exact ixC 0 rfl (Nat.le_of_ble_eq_true rfl) | exact ixC 1 rfl (Nat.le_of_ble_eq_true rfl) | exact ixC 2 rfl (Nat.le_of_ble_eq_true rfl) | exact ixC 3 rfl (Nat.le_of_ble_eq_true rfl) | exact ixC 4 rfl (Nat.le_of_ble_eq_true rfl) | exact ixC 5 rfl (Nat.le_of_ble_eq_true rfl))
local macro_rules | `(tactic| walk_at "st") => `(tactic| first
  | refine ⟨_, rfl, ?_⟩
  | refine ⟨_, _, rfl, rfl, (by walk_at "cnd" : (_ : Prop)), ?_⟩
  | refine ⟨_, _, rfl, rfl, ?_⟩
  | refine ⟨rfl, ?_⟩
  | refine Or.inl ⟨_, rfl, ?_⟩
  | refine ⟨_, _, _, _, rfl, rfl, by exact SqL.of (by walk_at "hp"), by walk_at "at", ?_⟩
  | refine ⟨_, _, _, _, rfl, rfl, by exact SqT.of (by walk_at "hp"), by walk_at "at", ?_⟩
  | refine ⟨_, _, _, _, rfl, rfl, by walk_at "hp", by walk_at "ix", ?_⟩
  | refine ⟨_, _, rfl, Or.inl (by exact SqL.of (by walk_at "hp")), ?_⟩
  | refine ⟨_, _, rfl, Or.inr (by exact SqT.of (by walk_at "hp")), ?_⟩)
local macro_rules | `(tactic| walk_at "so") => `(tactic| first
  | refine ⟨_, _, _, _, _, rfl, by walk_at "hp", by assumption, by assumption, rfl, ?_⟩
  | refine ⟨_, _, _, _, rfl, by walk_at "hp", by assumption, by assumption, Nat.le_of_ble_eq_true rfl, ?_⟩
  | refine ⟨_, _, _, rfl, by walk_at "hp", rfl, ?_⟩
  | walk_at "st")
local macro_rules | `(tactic| walk_at "ro") => `(tactic| repeat walk_at "so")
local macro_rules | `(tactic| walk_at "run") => `(tactic| repeat walk_at "st")

section
variable {X : Cx} (K : PySem.W.Frag)
theorem kRevL {e : Expr} {te : TE} {k : Nat} {p1 p2 p3 pos : Pos} (he : PE X e te) (h : X.K = K := by rfl) : PE X (.Subscript e (.Slice none none (some (.UnaryOp .USub (.Constant (.int 1) k p1) p2)) p3) pos) (tRevL K te) := by subst h; exact pe_revL he
end
theorem cut_take {xs : List V} {k : Nat} (h : k ≤ xs.length) : cutV xs none (some (k : Int)) = xs.take k := by
  unfold cutV
  have e : HT.sIx xs.length xs.length (some (k : Int)) = k := by
    rw [HT.sIx_nat, Nat.min_eq_left h]
  rw [e]
  show (xs.drop 0).take (k - 0) = _
  rw [List.drop_zero, Nat.sub_zero]
/-! ### words -/
def spRead (C : Addr) : Sp := fun vs H Q _ => ∃ P x a s, ∃ f i w : Nat, vs = [.ref x, .int (f : Int), .int (i : Int)] ∧ Fr C P H x a s ∧ f < s.m ∧ i < 8 ∧ (s.wd.getD f [])[i]? = some w ∧ Q (.int (w : Int)) H
def wordS (s : FS) (f i w : Nat) : FS := { s with wd := s.wd.set f ((s.wd.getD f []).set i w) }
def spWrite (C : Addr) : Sp := fun vs H Q _ => ∃ P x a s, ∃ f i w : Nat, vs = [.ref x, .int (f : Int), .int (i : Int), .int (w : Int)] ∧ Fr C P H x a s ∧ f < s.m ∧ i < 8 ∧ (s.wd.getD f []).length = 8 ∧ w ≤ 4294967295 ∧ ∀ H', Fr C P H' x a (wordS s f i w) → ChgP P H H' → Q .non H'
theorem isI_in {n : Nat} {m : Int} (h : (n : Int) ≤ m) : isI (.int (n : Int)) 0 m = true := by
  show (decide ((0 : Int) ≤ (n : Int)) && decide ((n : Int) ≤ m)) = true
  rw [decide_eq_true (by omega), decide_eq_true h]; rfl
section
variable {P : Program} {w : World} {K : PySem.W.Frag} {mg : Str → Option Value} {base : Heap} {C_Frames C_NotValid : Addr}
section
variable {P : Program} {w : World} {K : PySem.W.Frag} {mg : Str → Option Value} {base : Heap} {C_Frames C_NotValid : Addr}
abbrev s_is_word : Stmt := topS 16
abbrev ns_is_word : List Str := ["value"]
theorem sc_is_word : FnScope ns_is_word ["value"] (defScope s_is_word) := ⟨rfl, rfl, rfl, by decide +kernel, rfl, by decide +kernel, by decide +kernel⟩

theorem ok_is_word {f : Addr} {fd : FuncData} (F : Fun K "is_word" "is_word" s_is_word f fd) (T : Txt K mg C_Frames C_NotValid) (D_is_between : Dfn P w K mg base CX0 2 "is_between" ["value", "least", "most"] spBtw) : FnOk P w K mg base CX0 3 f fd ["value"] spWord := by
  refine F.ok sc_is_word (fun vs H Q E h => ?_) (fun cdv A outer s H vs Q E hr h => ?_)
  · obtain ⟨v, d, rfl, _⟩ := h
    rfl
  · obtain ⟨v, d, rfl, hd, k⟩ := h
    refine ⟨_, (pss_one (ps_ret (pe_dcall D_is_between (hr.mono (by decide)) (by rfl) pass0 (pa_cons (pv 0) (pa_cons pe_int (pa_cons (pe_gint (by rfl) T.c_TOP) pa_nil)))))), ?_⟩
    walk_at "run"
    exact ⟨_, d, _, _, rfl, hd, k⟩
end

abbrev s_Frames_read : Stmt := inClass (topS 19) 12
abbrev ns_Frames_read : List Str := ["self", "frame", "index"]
theorem sc_Frames_read : FnScope ns_Frames_read ["self", "frame", "index"] (defScope s_Frames_read) := ⟨rfl, rfl, rfl, by decide +kernel, rfl, by decide +kernel, by decide +kernel⟩

theorem ok_Frames_read {f : Addr} {fd : FuncData} (F : Fun K "read" "Frames.read" s_Frames_read f fd) (T : Txt K mg C_Frames C_NotValid) (D_Frames_is_frame : Mth P w K mg base CX0 4 C_Frames "_is_frame" ["self", "value"] (spIsF C_Frames)) (D_is_index : Dfn P w K mg base CX0 3 "is_index" ["value", "many"] spIdx) : FnOk P w K mg base (L2.CX P w) 5 f fd ["self", "frame", "index"] (spRead C_Frames) := by
  have ho_Frames := T.o_Frames; have hn_Frames__words := T.n_Frames__words; have hn_Frames__shares := T.n_Frames__shares; have hn_Frames__rights := T.n_Frames__rights; have hn_Frames__offers := T.n_Frames__offers; have hn_Frames__asked := T.n_Frames__asked; have hn_Frames__ends_to_wait := T.n_Frames__ends_to_wait; have hn_Frames__taken := T.n_Frames__taken
  refine F.okX sc_Frames_read (fun vs H Q E h => ?_) (fun cdv A outer s H vs Q E hr h => ?_)
  · obtain ⟨P', x, a, s', e, i, v, rfl, _⟩ := h
    rfl
  · obtain ⟨P', x, a, s', e, i, v, rfl, fr, em, i8, hw, k⟩ := h
    refine ⟨_, (pss_cons (ps_if (PW.pt (pw_or (pt_not (pt_val (pe_dmeth (pv 0) D_Frames_is_frame (hr.mono (by decide)) pass0 (pa_cons (pv 1) pa_nil)))) (pw_or1 (pt_not (pt_val (pe_dcall D_is_index (hr.mono (by decide)) (by rfl) pass0 (pa_cons (pv 2) (pa_cons (pe_gint (by rfl) T.c_WORDS) pa_nil)))))))) (pss_one (ps_raise (by rfl) (takes_of rfl rfl rfl rfl) (pmk_x T.x_NotValid (by rfl)))) pss_nil)
  (pss_one (ps_ret (pe_ix (kIxL K) (pe_ix (kIxL K) (kFld K (pv 0) rfl) (pv 1) (fun _ _ => rfl)) (pv 2) (fun _ _ => rfl))))), ?_⟩
    have h1 := fr.ins
    have h2 := fr.w
    have el : e < s'.wd.length := by rw [fr.ok.wdm]; exact em
    obtain ⟨d, hd, hk⟩ := fr.ws.at (List.getElem?_eq_getElem el)
    have eg : s'.wd.getD e [] = s'.wd[e] := by rw [List.getD_eq_getElem?_getD, List.getElem?_eq_getElem el]; rfl
    rw [eg] at hw
    have hk : H d = some (.lst (s'.wd[e].map vN)) := hk
    walk_at "ro"
    refine ⟨P', x, a, s', _, _, rfl, fr, .int _, _, rfl, ?_⟩
    rw [isF_nat em]
    refine iteF ?_
    walk_at "ro"
    refine ⟨_, .int (i : Int), _, rfl, .int _, _, rfl, ?_⟩
    rw [isI_in (by omega)]
    refine iteF ?_
    walk_at "ro"
    refine ⟨_, _, _, _, rfl, rfl, SqL.of h2, atC e rfl (by rw [List.getElem?_map, hd]; rfl), ?_⟩
    walk_at "ro"
    exact ⟨_, _, _, _, rfl, rfl, SqL.of hk, atC i rfl (by rw [List.getElem?_map, hw]; rfl), k⟩
abbrev s_Frames_write : Stmt := inClass (topS 19) 13
abbrev ns_Frames_write : List Str := ["self", "frame", "index", "word"]
theorem sc_Frames_write : FnScope ns_Frames_write ["self", "frame", "index", "word"] (defScope s_Frames_write) := ⟨rfl, rfl, rfl, by decide +kernel, rfl, by decide +kernel, by decide +kernel⟩

theorem ok_Frames_write {f : Addr} {fd : FuncData} (F : Fun K "write" "Frames.write" s_Frames_write f fd) (T : Txt K mg C_Frames C_NotValid) (D_Frames_is_frame : Mth P w K mg base CX0 4 C_Frames "_is_frame" ["self", "value"] (spIsF C_Frames)) (D_is_index : Dfn P w K mg base CX0 3 "is_index" ["value", "many"] spIdx) (D_is_word : Dfn P w K mg base CX0 3 "is_word" ["value"] spWord) : FnOk P w K mg base (L2.CX P w) 5 f fd ["self", "frame", "index", "word"] (spWrite C_Frames) := by
  have ho_Frames := T.o_Frames; have hn_Frames__words := T.n_Frames__words; have hn_Frames__shares := T.n_Frames__shares; have hn_Frames__rights := T.n_Frames__rights; have hn_Frames__offers := T.n_Frames__offers; have hn_Frames__asked := T.n_Frames__asked; have hn_Frames__ends_to_wait := T.n_Frames__ends_to_wait; have hn_Frames__taken := T.n_Frames__taken
  refine F.okX sc_Frames_write (fun vs H Q E h => ?_) (fun cdv A outer s H vs Q E hr h => ?_)
  · obtain ⟨P', x, a, s', e, i, v, rfl, _⟩ := h
    rfl
  · obtain ⟨P', x, a, s', e, i, v, rfl, fr, em, i8, hl, hv, k⟩ := h
    refine ⟨_, (pss_cons (ps_if (PW.pt (pw_or (pt_not (pt_val (pe_dmeth (pv 0) D_Frames_is_frame (hr.mono (by decide)) pass0 (pa_cons (pv 1) pa_nil)))) (pw_or (pt_not (pt_val (pe_dcall D_is_index (hr.mono (by decide)) (by rfl) pass0 (pa_cons (pv 2) (pa_cons (pe_gint (by rfl) T.c_WORDS) pa_nil))))) (pw_or1 (pt_not (pt_val (pe_dcall D_is_word (hr.mono (by decide)) (by rfl) pass0 (pa_cons (pv 3) pa_nil)))))))) (pss_one (ps_raise (by rfl) (takes_of rfl rfl rfl rfl) (pmk_x T.x_NotValid (by rfl)))) pss_nil)
  (pss_one (ps_asg (pv 3) (pg_sub (pe_ix (kIxL K) (kFld K (pv 0) rfl) (pv 1) (fun _ _ => rfl)) (pv 2) set_list)))), ?_⟩
    have h1 := fr.ins
    have h2 := fr.w
    have el : e < s'.wd.length := by rw [fr.ok.wdm]; exact em
    obtain ⟨d, hd, hk⟩ := fr.ws.at (List.getElem?_eq_getElem el)
    have eg : s'.wd.getD e [] = s'.wd[e] := by rw [List.getD_eq_getElem?_getD, List.getElem?_eq_getElem el]; rfl
    rw [eg] at hl
    have hk : H d = some (.lst (s'.wd[e].map vN)) := hk
    walk_at "ro"
    refine ⟨P', x, a, s', _, _, rfl, fr, .int _, _, rfl, ?_⟩
    rw [isF_nat em]
    refine iteF ?_
    walk_at "ro"
    refine ⟨_, .int (i : Int), _, rfl, .int _, _, rfl, ?_⟩
    rw [isI_in (by omega)]
    refine iteF ?_
    walk_at "ro"
    refine ⟨_, .int (v : Int), rfl, .int _, _, rfl, ?_⟩
    rw [isI_in (by omega)]
    refine iteF ?_
    walk_at "ro"
    refine ⟨_, _, _, _, rfl, rfl, SqL.of h2, atC e rfl (by rw [List.getElem?_map, hd]; rfl), ?_⟩
    walk_at "ro"
    refine ⟨_, _, _, i, rfl, rfl, hk, ixC i rfl (by rw [List.length_map, hl]; exact i8), ?_⟩
    have es : (s'.wd[e].map vN).set i (.int (v : Int)) = (s'.wd[e].set i v).map vN := by rw [List.map_set]; rfl
    rw [es]
    refine k _ ?_ (ChgP.upd (fun _ _ _ h => h) (fr.mine d (by unfold FA.own; exact List.mem_append_right _ (List.mem_append_left _ (List.mem_of_getElem? hd)))))
    unfold wordS
    rw [eg]
    exact fr.setWi hd _
end
end My

namespace My
open PySem L2
local macro_rules | `(tactic| walk_at "ne") => `(tactic| first | assumption | exact Ne.symm (by assumption) | exact ne_of_none (by assumption) (by assumption) | exact Ne.symm (ne_of_none (by assumption) (by assumption)))
local macro_rules | `(tactic| walk_at "hp") => `(tactic| first | assumption | with_reducible exact upd_same | (with_reducible refine Eq.trans (upd_ne ?_) ?_; rotate_left; walk_at "hp"; walk_at "ne"))
local macro_rules | `(tactic| walk_at "cnd") => `(tactic| first | omega | (show (0 : Int) < _; omega) | exact ⟨by omega, by omega⟩ | exact Or.inl ⟨by omega, by omega⟩ | exact Or.inr ⟨by omega, by omega⟩ | exact ⟨by omega, by omega, by decide⟩ | exact ⟨by omega, by omega, by omega⟩)
local macro_rules | `(tactic| walk_at "at") => `(tactic| first | exact atC 0 rfl rfl | exact atC 1 rfl rfl | exact atC 2 rfl rfl | exact atC 3 rfl rfl | exact atC 4 rfl rfl | exact atC 5 rfl rfl | exact atC 6 rfl rfl | exact atC 7 rfl rfl)
local macro_rules | `(tactic| walk_at "ix") => `(tactic| first | exact ixC 0 rfl (Nat.le_of_ble_eq_true rfl) | exact ixC 1 rfl (Nat.le_of_ble_eq_true rfl) | exact ixC 2 rfl (Nat.le_of_ble_eq_true rfl) | exact ixC 3 rfl (Nat.le_of_ble_eq_true rfl) | exact ixC 4 rfl (Nat.le_of_ble_eq_true rfl) | exact ixC 5 rfl (Nat.le_of_ble_eq_true rfl))
local macro_rules | `(tactic| walk_at "st") => `(tactic| first
  | refine ⟨_, rfl, ?_⟩
  | refine ⟨_, _, rfl, rfl, (by walk_at "cnd" : (_ : Prop)), ?_⟩
  | refine ⟨_, _, rfl, rfl, ?_⟩
  | refine ⟨rfl, ?_⟩
  | refine Or.inl ⟨_, rfl, ?_⟩
  | refine ⟨_, _, _, _, rfl, rfl, by exact SqL.of (by walk_at "hp"), by walk_at "at", ?_⟩
  | refine ⟨_, _, _, _, rfl, rfl, by exact SqT.of (by walk_at "hp"), by walk_at "at", ?_⟩
  | refine ⟨_, _, _, _, rfl, rfl, by walk_at "hp", by walk_at "ix", ?_⟩
  | refine ⟨_, _, rfl, Or.inl (by exact SqL.of (by walk_at "hp")), ?_⟩
  | refine ⟨_, _, rfl, Or.inr (by exact SqT.of (by walk_at "hp")), ?_⟩)
local macro_rules | `(tactic| walk_at "so") => `(tactic| first
  | refine ⟨_, _, _, _, _, rfl, by walk_at "hp", by assumption, by assumption, rfl, ?_⟩
  | refine ⟨_, _, _, _, rfl, by walk_at "hp", by assumption, by assumption, Nat.le_of_ble_eq_true rfl, ?_⟩
  | refine ⟨_, _, _, rfl, by walk_at "hp", rfl, ?_⟩
  | walk_at "st")
local macro_rules | `(tactic| walk_at "ro") => `(tactic| repeat walk_at "so")
local macro_rules | `(tactic| walk_at "run") => `(tactic| repeat walk_at "st")

/-! ### taking back -/
def keysR (l : RL) : List Nat := l.map (·.1)
def newsOf (s : FS) (e : Nat) : List Nat := (keysR (s.rt.getD e [])).reverse.take (min ((s.rt.getD e []).length - s.sh.getD e 0) (s.ask.getD e 0))
def endsS (s : FS) (e : Nat) (fs : List Nat) : FS := fs.foldl (fun s f => endS s e f) s
def backS (s : FS) (e : Nat) : FS := { endsS s e (newsOf s e) with ask := s.ask.set e 0, tk := s.tk.set e (s.tk.getD e [] ++ newsOf s e) }
theorem endsS_snoc (s : FS) (e : Nat) (fs : List Nat) (f : Nat) : endsS s e (fs ++ [f]) = endS (endsS s e fs) e f := by
  unfold endsS
  rw [List.foldl_append]; rfl
theorem endsS_same (e : Nat) : ∀ (fs : List Nat) (s : FS), (endsS s e fs).m = s.m ∧ (endsS s e fs).sh = s.sh ∧ (endsS s e fs).wt = s.wt ∧ (endsS s e fs).tk = s.tk ∧ (endsS s e fs).wd = s.wd ∧ (endsS s e fs).rt.length = s.rt.length ∧ (endsS s e fs).of.length = s.of.length ∧ (∃ n, (endsS s e fs).ask = s.ask.set e n ∨ (endsS s e fs).ask = s.ask) ∧ ∀ j, j ≠ e → (endsS s e fs).rt.getD j [] = s.rt.getD j [] ∧ (endsS s e fs).of.getD j [] = s.of.getD j []
  | [], s => ⟨rfl, rfl, rfl, rfl, rfl, rfl, rfl, ⟨0, .inr rfl⟩, fun _ _ => ⟨rfl, rfl⟩⟩
  | f :: fs, s => by
    obtain ⟨h1, h2, h3, h4, h5, h6, h7, ⟨n, h8⟩, h9⟩ := endsS_same e fs (endS s e f)
    have step : endsS s e (f :: fs) = endsS (endS s e f) e fs := rfl
    rw [step]
    refine ⟨h1, h2, h3, h4, h5, by rw [h6]; exact List.length_set, by rw [h7]; exact List.length_set, ?_, fun j hj => ?_⟩
    · rcases h8 with q | q
      · refine ⟨n, .inl ?_⟩
        rw [q]
        show (s.ask.set e _).set e n = _
        rw [List.set_set]
      · exact ⟨_, .inl (by rw [q]; rfl)⟩
    · obtain ⟨q1, q2⟩ := h9 j hj
      rw [q1, q2]
      refine ⟨?_, ?_⟩
      · show (s.rt.set e _).getD j [] = _
        rw [List.getD_eq_getElem?_getD, List.getElem?_set_ne (fun z => hj z.symm), List.getD_eq_getElem?_getD]
      · show (s.of.set e _).getD j [] = _
        rw [List.getD_eq_getElem?_getD, List.getElem?_set_ne (fun z => hj z.symm), List.getD_eq_getElem?_getD]
theorem get_mem {l : RL} {p : Nat × Bool} (h : p ∈ l) : getR l p.1 ≠ none := by
  intro q
  unfold getR at q
  cases y : l.find? (fun z => decide (z.1 = p.1)) with
  | none => exact absurd (List.find?_eq_none.mp y p h) (by simp)
  | some z => rw [y] at q; cases q
theorem drop_none {l : RL} {f : Nat} (h : f ∉ keysR l) : dropR l f = l := by
  unfold dropR
  rw [List.filter_eq_self]
  intro p hp
  have : p.1 ≠ f := fun q => h (by rw [← q]; exact List.mem_map_of_mem hp)
  simp [this]
theorem drop_last {l : RL} (nd : (keysR l).Nodup) {n : Nat} (h : n < l.length) : dropR (l.take (n + 1)) l[n].1 = l.take n := by
  rw [List.take_add_one, List.getElem?_eq_getElem h]
  show dropR (l.take n ++ [l[n]]) l[n].1 = _
  unfold dropR
  rw [List.filter_append, List.filter_cons_of_neg (by simp), List.filter_nil, List.append_nil]
  refine drop_none (l := l.take n) fun q => ?_
  unfold keysR at q nd
  rw [List.map_take] at q
  obtain ⟨j, hj, e⟩ := List.mem_iff_getElem.mp q
  rw [List.length_take] at hj
  have hj1 : j < n := by omega
  rw [List.getElem_take] at e
  have hn : n < (l.map (·.1)).length := by rw [List.length_map]; exact h
  have : (l.map (·.1))[j]? = (l.map (·.1))[n]? := by
    rw [List.getElem?_eq_getElem (by omega), List.getElem?_eq_getElem hn, e, List.getElem_map]
  exact absurd ((List.getElem?_inj (by omega) nd).mp this) (by omega)
/-- what is ended at the i-th step -/
theorem news_at {l : RL} {i : Nat} (h : i < l.length) : (keysR l).reverse[i]? = some (l[l.length - 1 - i]'(by omega)).1 := by
  unfold keysR
  rw [List.getElem?_reverse (by rw [List.length_map]; exact h), List.length_map, List.getElem?_map, List.getElem?_eq_getElem (by omega)]; rfl
theorem ends_rt {s : FS} {e : Nat} (he : e < s.rt.length) (nd : (keysR (s.rt.getD e [])).Nodup) : ∀ i, i ≤ (s.rt.getD e []).length → (endsS s e ((keysR (s.rt.getD e [])).reverse.take i)).rt.getD e [] = (s.rt.getD e []).take ((s.rt.getD e []).length - i)
  | 0, _ => by rw [List.take_zero, Nat.sub_zero, List.take_length]; rfl
  | i + 1, h => by
    have ih := ends_rt he nd i (by omega)
    have hn := news_at (l := s.rt.getD e []) (i := i) (by omega)
    rw [List.take_add_one, hn]
    show (endsS s e (_ ++ [_])).rt.getD e [] = _
    rw [endsS_snoc]
    show ((endsS s e _).rt.set e (dropR ((endsS s e _).rt.getD e []) _)).getD e [] = _
    rw [getD_set (by rw [(endsS_same e _ s).2.2.2.2.2.1]; exact he), if_pos rfl, ih]
    have e1 : (s.rt.getD e []).length - i = ((s.rt.getD e []).length - 1 - i) + 1 := by omega
    rw [e1, drop_last nd (by omega)]
    congr 1
    omega
def spBack (C : Addr) : Sp := fun vs H Q _ => ∃ P x a s, ∃ e : Nat, vs = [.ref x, .int (e : Int)] ∧ Fr C P H x a s ∧ e < 4 ∧ (keysR (s.rt.getD e [])).Nodup ∧ (s.rt.getD e []).length ≤ 1000 ∧ (s.tk.getD e []).length ≤ 90000 ∧
  ∀ a' p H', Fr C P H' x a' (backS s e) → H p = none → NsL H' p (newsOf s e) → ChgP P H H' → Q (.ref p) H'
theorem ChgP.same {P : Addr → Prop} {H H' : Hp} (h : Same H H') : ChgP P H H' := fun b o _ e => h b o e
theorem ChgP.trans {P : Addr → Prop} {H H1 H2 : Hp} (h : ChgP P H H1) (g : ChgP P H1 H2) : ChgP P H H2 := fun b o n e => g b o n (h b o n e)
theorem ChgP.mono {P P' : Addr → Prop} {H H' : Hp} (h : ChgP P H H') (m : ∀ b, P b → P' b) : ChgP P' H H' := fun b o n e => h b o (fun q => n (m b q)) e
theorem ask_set (e : Nat) (fs : List Nat) (s : FS) (n : Nat) : (endsS s e fs).ask.set e n = s.ask.set e n := by
  obtain ⟨k, h | h⟩ := (endsS_same e fs s).2.2.2.2.2.2.2.1
  · rw [h, List.set_set]
  · rw [h]
section
variable {P : Program} {w : World} {K : PySem.W.Frag} {mg : Str → Option Value} {base : Heap} {C_Frames C_NotValid : Addr}
abbrev s_Frames_take_back : Stmt := inClass (topS 19) 24
abbrev ns_Frames_take_back : List Str := ["self", "environment", "above", "many", "newest", "frame"]
theorem sc_Frames_take_back : FnScope ns_Frames_take_back ["self", "environment"] (defScope s_Frames_take_back) := ⟨rfl, rfl, rfl, by decide +kernel, rfl, by decide +kernel, by decide +kernel⟩

theorem ok_Frames_take_back {f : Addr} {fd : FuncData} (F : Fun K "_take_back" "Frames._take_back" s_Frames_take_back f fd) (T : Txt K mg C_Frames C_NotValid) (D_Frames_charge : Mth P w K mg base CX0 6 C_Frames "charge" ["self", "environment"] (spNat1 C_Frames chargeOf)) (D_Frames_share : Mth P w K mg base CX0 5 C_Frames "share" ["self", "environment"] (spNat1 C_Frames shareOf)) (D_Frames_holdings : Mth P w K mg base CX0 5 C_Frames "holdings" ["self", "environment"] (spHold C_Frames)) (D_Frames_end : Mth P w K mg base CX0 1 C_Frames "_end" ["self", "environment", "frame"] (spEnd C_Frames)) : FnOk P w K mg base CX0 7 f fd ["self", "environment"] (spBack C_Frames) := by
  have ho_Frames := T.o_Frames; have hn_Frames__words := T.n_Frames__words; have hn_Frames__shares := T.n_Frames__shares; have hn_Frames__rights := T.n_Frames__rights; have hn_Frames__offers := T.n_Frames__offers; have hn_Frames__asked := T.n_Frames__asked; have hn_Frames__ends_to_wait := T.n_Frames__ends_to_wait; have hn_Frames__taken := T.n_Frames__taken
  refine F.ok sc_Frames_take_back (fun vs H Q E h => ?_) (fun cdv A outer s H vs Q E hr h => ?_)
  · obtain ⟨P', x, a, s', e, rfl, _⟩ := h
    rfl
  · obtain ⟨P', x, a, s', e, rfl, fr, e4, nd, hz, hz2, k⟩ := h
    refine ⟨_, (pss_cons (ps_set (i := 2) sc_Frames_take_back.nd rfl (Or.inl rfl) (pe_callB (call_max2 rfl) (by rfl) T.b_max (by decide +kernel) (pa_cons pe_int (pa_cons (pe_op op_sub (pe_dmeth (pv 0) D_Frames_charge (hr.mono (by decide)) pass0 (pa_cons (pv 1) pa_nil)) (pe_dmeth (pv 0) D_Frames_share (hr.mono (by decide)) pass0 (pa_cons (pv 1) pa_nil))) pa_nil))))
  (pss_cons (ps_set (i := 3) sc_Frames_take_back.nd rfl (Or.inl rfl) (pe_callB (call_min2 rfl) (by rfl) T.b_min (by decide +kernel) (pa_cons (pv 2) (pa_cons (pe_ix (kIxL K) (kFld K (pv 0) rfl) (pv 1) (fun _ _ => rfl)) pa_nil))))
  (pss_cons (ps_set (i := 4) sc_Frames_take_back.nd rfl (Or.inl rfl) (pe_slice (kSlL K) (kRevL K (pe_dmeth (pv 0) D_Frames_holdings (hr.mono (by decide)) pass0 (pa_cons (pv 1) pa_nil))) po_none (po_some (pv 3))))
  (pss_cons (ps_for PassesOwn.never (by rfl) (kpiL K (pv 4)) (pg_name (i := 5) sc_Frames_take_back.nd rfl (Or.inl rfl)) (pss_one (ps_expr (pe_dmeth (pv 0) D_Frames_end (hr.mono (by decide)) pass0 (pa_cons (pv 1) (pa_cons (pv 5) pa_nil))))))
  (pss_cons (ps_asg pe_int (pg_sub (kFld K (pv 0) rfl) (pv 1) set_list))
  (pss_cons (ps_expr (kBM K PySem.F.plainAttrs_list PySem.F.slot_list_extend PySem.F.type_list_extend mt_extend (pe_ix (kIxL K) (kFld K (pv 0) rfl) (pv 1) (fun _ _ => rfl)) (pa_cons (pv 4) pa_nil)))
  (pss_one (ps_ret (pv 4))))))))), ?_⟩
    have fr0 : Fr C_Frames (fun b => b ∈ a.own x) H x a s' := fr.mono fun b h => h
    have al := fr.al
    have h1 := fr.ins
    have ch : chargeOf s' (.int (e : Int)) = (s'.rt.getD e []).length := by
      unfold chargeOf heldOf
      rw [if_pos (isE_nat e4), List.length_map]; rfl
    have sh : shareOf s' (.int (e : Int)) = s'.sh.getD e 0 := by
      unfold shareOf
      rw [if_pos (isE_nat e4)]; rfl
    walk_at "ro"
    refine ⟨P', x, a, s', _, _, rfl, fr, .int _, fun H1 s1 => ?_⟩
    have h11 := s1 _ _ h1
    walk_at "ro"
    refine ⟨P', x, a, s', _, _, rfl, fr.same s1, .int _, fun H2 s2 => ?_⟩
    rw [ch, sh]
    have s02 := s1.trans s2
    refine ⟨_, _, rfl, rfl, _, _, rfl, ?_⟩
    have e1 : (if (((s'.rt.getD e []).length : Nat) : Int) - ((s'.sh.getD e 0 : Nat) : Int) > 0 then (((s'.rt.getD e []).length : Nat) : Int) - ((s'.sh.getD e 0 : Nat) : Int) else 0) = (((s'.rt.getD e []).length - s'.sh.getD e 0 : Nat) : Int) := by split <;> omega
    rw [e1]
    have h12 := s02 _ _ h1
    have hA : H2 a.A = some (.lst (s'.ask.map vN)) := s02 _ _ fr.ha
    walk_at "ro"
    refine ⟨_, _, _, _, rfl, rfl, SqL.of hA, atC e rfl (getVN' (by rw [fr.ok.ask4]; omega)), ?_⟩
    refine ⟨_, _, rfl, ?_⟩
    have e2 : (if ((s'.ask.getD e 0 : Nat) : Int) < (((s'.rt.getD e []).length - s'.sh.getD e 0 : Nat) : Int) then ((s'.ask.getD e 0 : Nat) : Int) else (((s'.rt.getD e []).length - s'.sh.getD e 0 : Nat) : Int)) = ((min ((s'.rt.getD e []).length - s'.sh.getD e 0) (s'.ask.getD e 0) : Nat) : Int) := by split <;> omega
    rw [e2]
    walk_at "ro"
    refine ⟨P', x, a, s', _, _, rfl, fr.same s02, .int _, fun p3 H3 s3 hp3 n3 => ?_⟩
    have hh : heldOf s' (.int (e : Int)) = keysR (s'.rt.getD e []) := by
      unfold heldOf keysR
      rw [if_pos (isE_nat e4)]; rfl
    rw [hh] at n3
    have n3 : H3 p3 = some (.lst ((keysR (s'.rt.getD e [])).map vN)) := n3
    have s03 := s02.trans s3
    refine ⟨p3, _, rfl, SqL.of n3, fun p4 hp4 => ?_⟩
    walk_at "ro"
    refine ⟨p4, _, rfl, SqL.of upd_same, fun p5 hp5 => ?_⟩
    have s05 := s03.trans ((Same.new (o := .lst ((keysR (s'.rt.getD e [])).map vN).reverse) hp4).trans (Same.new (o := .lst (cutV ((keysR (s'.rt.getD e [])).map vN).reverse none (some ((min ((s'.rt.getD e []).length - s'.sh.getD e 0) (s'.ask.getD e 0) : Nat) : Int)))) hp5))
    have hkl : (keysR (s'.rt.getD e [])).length = (s'.rt.getD e []).length := List.length_map _
    have e3 : cutV ((keysR (s'.rt.getD e [])).map vN).reverse none (some ((min ((s'.rt.getD e []).length - s'.sh.getD e 0) (s'.ask.getD e 0) : Nat) : Int)) = (newsOf s' e).map vN := by
      rw [cut_take (by rw [List.length_reverse, List.length_map, hkl]; omega)]
      unfold newsOf
      rw [List.map_take, List.map_reverse]
    have n5 : (upd (upd H3 p4 (.lst ((keysR (s'.rt.getD e [])).map vN).reverse)) p5 (.lst (cutV ((keysR (s'.rt.getD e [])).map vN).reverse none (some ((min ((s'.rt.getD e []).length - s'.sh.getD e 0) (s'.ask.getD e 0) : Nat) : Int))))) p5 = some (.lst ((newsOf s' e).map vN)) := by rw [upd_same, e3]
    have hp0 : H p5 = none := by
      cases q : H p5 with
      | none => rfl
      | some o =>
        have := (Same.new (o := .lst ((keysR (s'.rt.getD e [])).map vN).reverse) hp4) _ _ (s03 _ _ q)
        rw [hp5] at this; cases this
    generalize upd (upd H3 p4 (.lst ((keysR (s'.rt.getD e [])).map vN).reverse)) p5 (.lst (cutV ((keysR (s'.rt.getD e [])).map vN).reverse none (some ((min ((s'.rt.getD e []).length - s'.sh.getD e 0) (s'.ask.getD e 0) : Nat) : Int)))) = H5 at n5 s05
    have p5o : p5 ∉ a.own x := fun q => al _ q hp0
    have fr5 := fr0.same s05
    have nl : (newsOf s' e).length ≤ (s'.rt.getD e []).length := by
      unfold newsOf
      rw [List.length_take, List.length_reverse, hkl]; omega
    walk_at "ro"
    refine ⟨⟨_, SqL.of n5⟩, for_list (xs := (newsOf s' e).map vN) (fun i σ Hx => ∃ (v : Option V) (a' : FA), σ = [some (.ref x), some (.int (e : Int)), some (.int (((s'.rt.getD e []).length - s'.sh.getD e 0 : Nat) : Int)), some (.int ((min ((s'.rt.getD e []).length - s'.sh.getD e 0) (s'.ask.getD e 0) : Nat) : Int)), some (.ref p5), v] ∧ Fr C_Frames (fun b => b ∈ a.own x) Hx x a' (endsS s' e ((newsOf s' e).take i)) ∧ ChgP (fun b => b ∈ a.own x) H5 Hx) ?_ ?_ ?_ ?_⟩
    · exact ⟨none, a, rfl, fr5, fun _ _ _ h => h⟩
    · rintro i σ Hx _ ⟨v, a', rfl, frx, cx⟩
      exact SqL.of (cx _ _ p5o n5)
    · rintro i y σ Hx hy ⟨v, a', rfl, frx, cx⟩
      have hi : i < (newsOf s' e).length := by
        have := (List.getElem?_eq_some_iff.mp hy).1
        rw [List.length_map] at this
        exact this
      have ey : y = .int (((newsOf s' e)[i] : Nat) : Int) := by
        rw [List.getElem?_map, List.getElem?_eq_getElem hi] at hy
        exact (Option.some.inj hy).symm
      subst ey
      have ntake : ∀ j, j ≤ (newsOf s' e).length → (newsOf s' e).take j = (keysR (s'.rt.getD e [])).reverse.take j := by
        intro j hj
        unfold newsOf at hj ⊢
        rw [List.take_take]
        congr 1
        rw [List.length_take] at hj
        omega
      have hrt := ends_rt (s := s') (e := e) (by rw [fr.ok.rt4]; omega) nd i (by omega)
      rw [← ntake i (by omega)] at hrt
      have hni : (newsOf s' e)[i] = ((s'.rt.getD e [])[(s'.rt.getD e []).length - 1 - i]'(by omega)).1 := by
        have q := news_at (l := s'.rt.getD e []) (i := i) (by omega)
        have q2 : (newsOf s' e)[i]? = (keysR (s'.rt.getD e [])).reverse[i]? := by
          unfold newsOf
          rw [List.getElem?_take, if_pos]
          unfold newsOf at hi
          rw [List.length_take] at hi
          omega
        rw [q, List.getElem?_eq_getElem hi] at q2
        exact Option.some.inj q2
      have frxi := frx.ins
      walk_at "ro"
      refine ⟨fun b => b ∈ a.own x, x, a', endsS s' e ((newsOf s' e).take i), e, (newsOf s' e)[i], rfl, frx, e4, ?_, fun a2 H6 fr6 c6 => ?_⟩
      · rw [hrt, hni]
        refine get_mem (p := (s'.rt.getD e [])[(s'.rt.getD e []).length - 1 - i]'(by omega)) ?_
        rw [List.mem_take_iff_getElem]
        exact ⟨(s'.rt.getD e []).length - 1 - i, by omega, rfl⟩
      · refine ⟨_, a2, rfl, ?_, cx.trans c6⟩
        rw [List.take_add_one, List.getElem?_eq_getElem hi]
        show Fr _ _ _ _ _ (endsS s' e (_ ++ [_]))
        rw [endsS_snoc]
        exact fr6
    · rintro σ Hx ⟨v, a', rfl, frx, cx⟩
      rw [List.length_map, List.take_length] at frx
      have frxi := frx.ins
      have hAx : Hx a'.A = some (.lst ((endsS s' e (newsOf s' e)).ask.map vN)) := frx.ha
      have al4 : e < (endsS s' e (newsOf s' e)).ask.length := by rw [frx.ok.ask4]; omega
      walk_at "ro"
      refine ⟨_, _, _, e, rfl, rfl, hAx, ixC e rfl (by rw [List.length_map]; exact al4), ?_⟩
      have es : ((endsS s' e (newsOf s' e)).ask.map vN).set e (.int 0) = ((endsS s' e (newsOf s' e)).ask.set e 0).map vN := by rw [List.map_set]; rfl
      rw [es]
      have fr7 := frx.setA ((endsS s' e (newsOf s' e)).ask.set e 0) (by rw [List.length_set]; exact frx.ok.ask4)
      have c7 : ChgP (fun b => b ∈ a.own x) H5 (upd Hx a'.A (.lst (((endsS s' e (newsOf s' e)).ask.set e 0).map vN))) := cx.upd (frx.mine _ (by unfold FA.own; exact List.mem_append_left _ (by simp)))
      generalize upd Hx a'.A (.lst (((endsS s' e (newsOf s' e)).ask.set e 0).map vN)) = H7 at fr7 c7
      have h7i := fr7.ins
      have h7t := fr7.t
      have tl4 : e < s'.tk.length := by rw [fr.ok.tk4]; omega
      have ets : (endsS s' e (newsOf s' e)).tk = s'.tk := (endsS_same e (newsOf s' e) s').2.2.2.1
      have hts := fr7.ts
      have hts : Each NsL H7 a'.tks s'.tk := by rw [← ets]; exact hts
      obtain ⟨d, hd, hk⟩ := hts.at (List.getElem?_eq_getElem tl4)
      have eg : s'.tk.getD e [] = s'.tk[e] := by rw [List.getD_eq_getElem?_getD, List.getElem?_eq_getElem tl4]; rfl
      have hk : H7 d = some (.lst (s'.tk[e].map vN)) := hk
      have n7 := c7 _ _ p5o n5
      walk_at "ro"
      refine ⟨_, _, _, _, rfl, rfl, SqL.of h7t, atC e rfl (by rw [List.getElem?_map, hd]; rfl), ?_⟩
      walk_at "ro"
      refine ⟨.inl ⟨rfl, _, SqL.of hk⟩, ?_⟩
      walk_at "ro"
      refine ⟨d, p5, _, _, rfl, rfl, hk, n7, ?_, ?_⟩
      · rw [eg] at hz2
        rw [List.length_map, List.length_map]
        exact szn (by omega)
      rw [← List.map_append, ← eg]
      have fr8 := fr7.setT hd (s'.tk.getD e [] ++ newsOf s' e)
      have dm : d ∈ a'.own x := by unfold FA.own; exact List.mem_append_right _ (List.mem_append_right _ (List.mem_append_right _ (List.mem_append_right _ (List.mem_append_left _ (List.mem_of_getElem? hd)))))
      have c8 := c7.upd (o := .lst ((s'.tk.getD e [] ++ newsOf s' e).map vN)) (fr7.mine d dm)
      have n8 : (upd H7 d (.lst ((s'.tk.getD e [] ++ newsOf s' e).map vN))) p5 = some (.lst ((newsOf s' e).map vN)) := by
        rw [upd_ne (fun q => p5o (by rw [q]; exact fr7.mine d dm))]; exact n7
      walk_at "ro"
      refine k a' p5 _ ?_ hp0 n8 (((ChgP.same s05).trans c8).mono fun b hb => fr.mine b hb)
      have : backS s' e = { endsS s' e (newsOf s' e) with ask := (endsS s' e (newsOf s' e)).ask.set e 0, tk := (endsS s' e (newsOf s' e)).tk.set e (s'.tk.getD e [] ++ newsOf s' e) } := by
        unfold backS
        rw [ask_set, ets]
      rw [this]
      exact fr8.mono fun b hb => fr.mine b (fr7.mine b hb)
end
end My

namespace My
open PySem L2
local macro_rules | `(tactic| walk_at "ne") => `(tactic| first | assumption | exact Ne.symm (by assumption) | exact ne_of_none (by assumption) (by assumption) | exact Ne.symm (ne_of_none (by assumption) (by assumption)))
local macro_rules | `(tactic| walk_at "hp") => `(tactic| first | assumption | with_reducible exact upd_same | (with_reducible refine Eq.trans (upd_ne ?_) ?_; rotate_left; walk_at "hp"; walk_at "ne"))
local macro_rules | `(tactic| walk_at "cnd") => `(tactic| first | omega | (show (0 : Int) < _; omega) | exact ⟨by omega, by omega⟩ | exact Or.inl ⟨by omega, by omega⟩ | exact Or.inr ⟨by omega, by omega⟩ | exact ⟨by omega, by omega, by decide⟩ | exact ⟨by omega, by omega, by omega⟩)
local macro_rules | `(tactic| walk_at "at") => `(tactic| first | exact atC 0 rfl rfl | exact atC 1 rfl rfl | exact atC 2 rfl rfl | exact atC 3 rfl rfl | exact atC 4 rfl rfl | exact atC 5 rfl rfl | exact atC 6 rfl rfl | exact atC 7 rfl rfl)
local macro_rules | `(tactic| walk_at "ix") => `(tactic| first | exact ixC 0 rfl (Nat.le_of_ble_eq_true rfl) | exact ixC 1 rfl (Nat.le_of_ble_eq_true rfl) | exact ixC 2 rfl (Nat.le_of_ble_eq_true rfl) | exact ixC 3 rfl (Nat.le_of_ble_eq_true rfl) | exact ixC 4 rfl (Nat.le_of_ble_eq_true rfl) | exact ixC 5 rfl (Nat.le_of_ble_eq_true rfl))
local macro_rules | `(tactic| walk_at "st") => `(tactic| first
  | refine ⟨_, rfl, ?_⟩
  | refine ⟨_, _, rfl, rfl, (by walk_at "cnd" : (_ : Prop)), ?_⟩
  | refine ⟨_, _, rfl, rfl, ?_⟩
  | refine ⟨rfl, ?_⟩
  | refine Or.inl ⟨_, rfl, ?_⟩
  | refine ⟨_, _, _, _, rfl, rfl, by exact SqL.of (by walk_at "hp"), by walk_at "at", ?_⟩
  | refine ⟨_, _, _, _, rfl, rfl, by exact SqT.of (by walk_at "hp"), by walk_at "at", ?_⟩
  | refine ⟨_, _, _, _, rfl, rfl, by walk_at "hp", by walk_at "ix", ?_⟩
  | refine ⟨_, _, rfl, Or.inl (by exact SqL.of (by walk_at "hp")), ?_⟩
  | refine ⟨_, _, rfl, Or.inr (by exact SqT.of (by walk_at "hp")), ?_⟩)
local macro_rules | `(tactic| walk_at "so") => `(tactic| first
  | refine ⟨_, _, _, _, _, rfl, by walk_at "hp", by assumption, by assumption, rfl, ?_⟩
  | refine ⟨_, _, _, _, rfl, by walk_at "hp", by assumption, by assumption, Nat.le_of_ble_eq_true rfl, ?_⟩
  | refine ⟨_, _, _, rfl, by walk_at "hp", rfl, ?_⟩
  | walk_at "st")
local macro_rules | `(tactic| walk_at "ro") => `(tactic| repeat walk_at "so")
local macro_rules | `(tactic| walk_at "run") => `(tactic| repeat walk_at "st")

def waitS (s : FS) (e : Nat) : FS := { s with wt := s.wt.set e (s.wt.getD e 0 - 1) }
def spSlot (C : Addr) : Sp := fun vs H Q _ => ∃ P x a s, ∃ e : Nat, vs = [.ref x, .int (e : Int)] ∧ Fr C P H x a s ∧ e < 4 ∧ (keysR (s.rt.getD e [])).Nodup ∧ (s.rt.getD e []).length ≤ 1000 ∧ (s.tk.getD e []).length ≤ 90000 ∧
  (s.wt.getD e 0 = 0 → ∀ p H', H p = none → NsL H' p [] → Same H H' → Q (.ref p) H') ∧
  (1 < s.wt.getD e 0 → ∀ p H', Fr C P H' x a (waitS s e) → H p = none → NsL H' p [] → ChgP P H H' → Q (.ref p) H') ∧
  (s.wt.getD e 0 = 1 → ∀ a' p H', Fr C P H' x a' (backS (waitS s e) e) → H p = none → NsL H' p (newsOf s e) → ChgP P H H' → Q (.ref p) H')
def takeS (s : FS) (e f : Nat) : FS := { s with wd := s.wd.set f (List.replicate 8 0), rt := s.rt.set e (s.rt.getD e [] ++ [(f, true)]) }
def spTake (C : Addr) : Sp := fun vs H Q _ => ∃ P x a s, ∃ e : Nat, vs = [.ref x, .int (e : Int)] ∧ Fr C P H x a s ∧ e < 4 ∧ (s.rt.getD e []).length ≤ 1000 ∧ (moreOf s (eD e) = true → freeT s s.m ≠ []) ∧
  (moreOf s (eD e) = false → ∀ H', Same H H' → Q .non H') ∧
  (moreOf s (eD e) = true → ∀ f, (freeT s s.m).head? = some f → ∀ a' H', Fr C (fun b => P b ∨ H b = none) H' x a' (takeS s e f) → ChgP P H H' → Q (.int (f : Int)) H')
theorem free_get {s : FS} {f n : Nat} (h : f ∈ freeT s n) : f < n ∧ ∀ e, getR (s.rt.getD e []) f = none := by
  unfold freeT at h
  rw [List.mem_filter, List.mem_range] at h
  refine ⟨h.1, fun e => ?_⟩
  have q := h.2
  unfold heldBy at q
  rw [List.getD_eq_getElem?_getD]
  cases y : s.rt[e]? with
  | none => rfl
  | some l =>
    have : (s.rt.any fun l => (getR l f).isSome) = false := by simpa using q
    rw [List.any_eq_false] at this
    have := this l (List.mem_of_getElem? y)
    show getR l f = none
    cases z : getR l f with
    | none => rfl
    | some b => rw [z] at this; exact absurd rfl this
section
variable {P : Program} {w : World} {K : PySem.W.Frag} {mg : Str → Option Value} {base : Heap} {C_Frames C_NotValid : Addr}
abbrev s_Frames_slot_ended : Stmt := inClass (topS 19) 16
abbrev ns_Frames_slot_ended : List Str := ["self", "environment"]
theorem sc_Frames_slot_ended : FnScope ns_Frames_slot_ended ["self", "environment"] (defScope s_Frames_slot_ended) := ⟨rfl, rfl, rfl, by decide +kernel, rfl, by decide +kernel, by decide +kernel⟩

theorem ok_Frames_slot_ended {f : Addr} {fd : FuncData} (F : Fun K "slot_ended" "Frames.slot_ended" s_Frames_slot_ended f fd) (T : Txt K mg C_Frames C_NotValid) (D_is_environment : Dfn P w K mg base CX0 4 "is_environment" ["value"] spEnv) (D_Frames_take_back : Mth P w K mg base CX0 7 C_Frames "_take_back" ["self", "environment"] (spBack C_Frames)) : FnOk P w K mg base (L2.CX P w) 8 f fd ["self", "environment"] (spSlot C_Frames) := by
  have ho_Frames := T.o_Frames; have hn_Frames__words := T.n_Frames__words; have hn_Frames__shares := T.n_Frames__shares; have hn_Frames__rights := T.n_Frames__rights; have hn_Frames__offers := T.n_Frames__offers; have hn_Frames__asked := T.n_Frames__asked; have hn_Frames__ends_to_wait := T.n_Frames__ends_to_wait; have hn_Frames__taken := T.n_Frames__taken
  refine F.okX sc_Frames_slot_ended (fun vs H Q E h => ?_) (fun cdv A outer s H vs Q E hr h => ?_)
  · obtain ⟨P', x, a, s', e, rfl, _⟩ := h
    rfl
  · obtain ⟨P', x, a, s', e, rfl, fr, e4, nd, hz, hz2, k0, k2, k1⟩ := h
    refine ⟨_, (pss_cons (ps_if (pt_not (pt_val (pe_dcall D_is_environment (hr.mono (by decide)) (by rfl) pass0 (pa_cons (pv 1) pa_nil)))) (pss_one (ps_raise (by rfl) (takes_of rfl rfl rfl rfl) (pmk_x T.x_NotValid (by rfl)))) pss_nil)
  (pss_cons (ps_if (pt_cmpR op_eq (pe_ix (kIxL K) (kFld K (pv 0) rfl) (pv 1) (fun _ _ => rfl)) pe_int (nomark _)) (pss_one (ps_ret (pe_lst pa_nil))) pss_nil)
  (pss_cons (ps_augS (kFld K (pv 0) rfl) (pv 1) (kGetL K) pe_int ip_sub set_list)
  (pss_cons (ps_if (pt_cmpR op_gt (pe_ix (kIxL K) (kFld K (pv 0) rfl) (pv 1) (fun _ _ => rfl)) pe_int (nomark _)) (pss_one (ps_ret (pe_lst pa_nil))) pss_nil)
  (pss_one (ps_ret (pe_dmeth (pv 0) D_Frames_take_back (hr.mono (by decide)) pass0 (pa_cons (pv 1) pa_nil)))))))), ?_⟩
    have h1 := fr.ins
    have h2 : H a.E = some (.lst (s'.wt.map vN)) := fr.he
    have wl : e < s'.wt.length := by rw [fr.ok.wt4]; omega
    walk_at "ro"
    refine ⟨_, _, rfl, .int _, _, rfl, ?_⟩
    rw [isE_nat e4]
    refine iteF ?_
    walk_at "ro"
    refine ⟨_, _, _, _, rfl, rfl, SqL.of h2, atC e rfl (getVN' wl), ?_⟩
    walk_at "ro"
    refine iteD (fun q => ?_) (fun q => ?_)
    · have q' : s'.wt.getD e 0 = 0 := by injection q with q; omega
      walk_at "ro"
      refine ⟨szl rfl, fun p hp => ?_⟩
      exact k0 q' p _ hp upd_same (Same.new hp)
    · have q' : s'.wt.getD e 0 ≠ 0 := fun z => q (by rw [z]; rfl)
      walk_at "ro"
      refine ⟨_, _, _, _, rfl, rfl, SqL.of h2, atC e rfl (getVN' wl), ?_⟩
      walk_at "ro"
      refine ⟨_, _, _, e, rfl, rfl, h2, ixC e rfl (by rw [List.length_map]; exact wl), ?_⟩
      have es : (s'.wt.map vN).set e (.int ((fun i j : Int => i - j) ((s'.wt.getD e 0 : Nat) : Int) 1)) = (s'.wt.set e (s'.wt.getD e 0 - 1)).map vN := by
        rw [List.map_set]
        congr 1
        show V.int (((s'.wt.getD e 0 : Nat) : Int) - 1) = V.int ((s'.wt.getD e 0 - 1 : Nat) : Int)
        congr 1
        omega
      rw [es]
      have fr1 : Fr C_Frames P' (upd H a.E (.lst ((s'.wt.set e (s'.wt.getD e 0 - 1)).map vN))) x a (waitS s' e) := fr.setE (s'.wt.set e (s'.wt.getD e 0 - 1)) (by rw [List.length_set]; exact fr.ok.wt4)
      have c1 : ChgP P' H (upd H a.E (.lst ((s'.wt.set e (s'.wt.getD e 0 - 1)).map vN))) := ChgP.upd (fun _ _ _ h => h) (fr.mine a.E (by unfold FA.own; exact List.mem_append_left _ (by simp)))
      have back : ∀ p, upd H a.E (.lst ((s'.wt.set e (s'.wt.getD e 0 - 1)).map vN)) p = none → H p = none := by
        intro p hp
        by_cases z : p = a.E
        · subst z
          rw [upd_same] at hp; cases hp
        · rw [upd_ne z] at hp; exact hp
      generalize upd H a.E (.lst ((s'.wt.set e (s'.wt.getD e 0 - 1)).map vN)) = H1 at fr1 c1 back
      have h11 := fr1.ins
      have h3 : H1 a.E = some (.lst ((s'.wt.set e (s'.wt.getD e 0 - 1)).map vN)) := fr1.he
      have eg : (s'.wt.set e (s'.wt.getD e 0 - 1)).getD e 0 = s'.wt.getD e 0 - 1 := by rw [getD_set wl, if_pos rfl]
      walk_at "ro"
      refine ⟨_, _, _, _, rfl, rfl, SqL.of h3, atC e rfl (getVN' (by rw [List.length_set]; exact wl)), ?_⟩
      rw [eg]
      walk_at "ro"
      refine iteD (fun q2 => ?_) (fun q2 => ?_)
      · walk_at "ro"
        refine ⟨szl rfl, fun p hp => ?_⟩
        exact k2 (by omega) p _ (fr1.same (Same.new hp)) (back p hp) upd_same (c1.trans (ChgP.same (Same.new hp)))
      · walk_at "ro"
        refine ⟨P', x, a, waitS s' e, e, rfl, fr1, e4, nd, hz, hz2, fun a' p H' fr' hp np c' => ?_⟩
        exact k1 (by omega) a' p H' fr' (back p hp) np (c1.trans c')
abbrev s_Frames_take : Stmt := inClass (topS 19) 1
abbrev ns_Frames_take : List Str := ["self", "environment", "frame"]
theorem sc_Frames_take : FnScope ns_Frames_take ["self", "environment"] (defScope s_Frames_take) := ⟨rfl, rfl, rfl, by decide +kernel, rfl, by decide +kernel, by decide +kernel⟩

theorem ok_Frames_take {f : Addr} {fd : FuncData} (F : Fun K "take" "Frames.take" s_Frames_take f fd) (T : Txt K mg C_Frames C_NotValid) (D_is_environment : Dfn P w K mg base CX0 4 "is_environment" ["value"] spEnv) (D_Frames_may_hold_more : Mth P w K mg base CX0 8 C_Frames "_may_hold_more" ["self", "environment"] (spMore C_Frames)) (D_Frames_free : Mth P w K mg base CX0 2 C_Frames "free" ["self"] (spFree C_Frames)) : FnOk P w K mg base CX0 9 f fd ["self", "environment"] (spTake C_Frames) := by
  have ho_Frames := T.o_Frames; have hn_Frames__words := T.n_Frames__words; have hn_Frames__shares := T.n_Frames__shares; have hn_Frames__rights := T.n_Frames__rights; have hn_Frames__offers := T.n_Frames__offers; have hn_Frames__asked := T.n_Frames__asked; have hn_Frames__ends_to_wait := T.n_Frames__ends_to_wait; have hn_Frames__taken := T.n_Frames__taken
  refine F.ok sc_Frames_take (fun vs H Q E h => ?_) (fun cdv A outer s H vs Q E hr h => ?_)
  · obtain ⟨P', x, a, s', e, rfl, _⟩ := h
    rfl
  · obtain ⟨P', x, a, s', e, rfl, fr, e4, hz, hne, kn, kt⟩ := h
    refine ⟨_, (pss_cons (ps_if (PW.pt (pw_or (pt_not (pt_val (pe_dcall D_is_environment (hr.mono (by decide)) (by rfl) pass0 (pa_cons (pv 1) pa_nil)))) (pw_or1 (pt_not (pt_val (pe_dmeth (pv 0) D_Frames_may_hold_more (hr.mono (by decide)) pass0 (pa_cons (pv 1) pa_nil))))))) (pss_one (ps_ret pe_non)) pss_nil)
  (pss_cons (ps_set (i := 2) sc_Frames_take.nd rfl (Or.inl rfl) (pe_ix (kIxL K) (pe_dmeth0 (pv 0) D_Frames_free (hr.mono (by decide)) pass0 ) pe_int (fun _ _ => rfl)))
  (pss_cons (ps_asg (pe_op op_rep (pe_lst (pa_cons pe_int pa_nil)) (pe_gint (by rfl) T.c_WORDS)) (pg_sub (kFld K (pv 0) rfl) (pv 2) set_list))
  (pss_cons (ps_dput (units1 hr) (pe_ix (kIxL K) (kFld K (pv 0) rfl) (pv 1) (fun _ _ => rfl)) (pv 2) pe_str rfl)
  (pss_one (ps_ret (pv 2))))))), ?_⟩
    have h1 := fr.ins
    walk_at "ro"
    refine ⟨_, _, rfl, .int _, _, rfl, ?_⟩
    rw [isE_nat e4]
    refine iteF ?_
    walk_at "ro"
    refine ⟨P', x, a, s', _, _, rfl, fr, .int _, fun H1 s1 => ?_⟩
    refine ⟨_, rfl, ?_⟩
    cases em : moreOf s' (eD e) with
    | false =>
      have em' : moreOf s' (.int (e : Int)) = false := em
      rw [em']
      refine iteT ?_
      walk_at "ro"
      exact kn em H1 s1
    | true =>
      have em' : moreOf s' (.int (e : Int)) = true := em
      rw [em']
      refine iteF ?_
      have h11 := s1 _ _ h1
      have fr1 := fr.same s1
      walk_at "ro"
      refine ⟨P', x, a, s', rfl, fr1, fun p2 H2 s2 hp2 n2 => ?_⟩
      have s02 := s1.trans s2
      have fr2 := fr.same s02
      have h12 := fr2.ins
      have h2w := fr2.w
      have n2 : H2 p2 = some (.lst ((freeT s' s'.m).map vN)) := n2
      cases ef : freeT s' s'.m with
      | nil => exact absurd ef (hne em)
      | cons g gs =>
        rw [ef] at n2
        obtain ⟨gm, gn⟩ := free_get (s := s') (n := s'.m) (f := g) (by rw [ef]; exact List.mem_cons_self)
        have kt := kt em g (by rw [ef]; rfl)
        refine ⟨p2, _, _, _, rfl, rfl, SqL.of n2, at0, ?_⟩
        walk_at "ro"
        refine ⟨szl rfl, fun q1 hq1 => ?_⟩
        walk_at "ro"
        refine ⟨_, _, _, rfl, rfl, upd_same, by decide, by decide, by decide, fun q2 hq2 => ?_⟩
        have s2q := (Same.new (o := .lst [V.int 0]) hq1).trans (Same.new (o := .lst (List.replicate (Int.toNat 8) [V.int 0]).flatten) hq2)
        have nq : NsL (upd (upd H2 q1 (.lst [.int 0])) q2 (.lst (List.replicate (Int.toNat 8) [V.int 0]).flatten)) q2 (List.replicate 8 0) := upd_same
        have q20 : H q2 = none := by
          cases z : H q2 with
          | none => rfl
          | some o =>
            have := (Same.new (o := .lst [V.int 0]) hq1) _ _ (s02 _ _ z)
            rw [hq2] at this; cases this
        have s03 := s02.trans s2q
        have fr3 := (fr.same s03).mono (P' := fun b => P' b ∨ H b = none) fun b hb => .inl (fr.mine b hb)
        generalize upd (upd H2 q1 (.lst [.int 0])) q2 (.lst (List.replicate (Int.toNat 8) [V.int 0]).flatten) = H3 at s2q nq s03 fr3
        have h13 := fr3.ins
        have h3w := fr3.w
        have gl : g < a.wds.length := by rw [fr.ws.1, fr.ok.wdm]; exact gm
        walk_at "ro"
        refine ⟨_, _, _, g, rfl, rfl, h3w, ixC g rfl (by rw [List.length_map]; exact gl), ?_⟩
        have es : (a.wds.map V.ref).set g (.ref q2) = (a.wds.set g q2).map V.ref := by rw [List.map_set]
        rw [es]
        have fr4 := fr3.setW gl nq (fun z => fr.al _ z q20) (.inr q20)
        have c4 : ChgP P' H (upd H3 a.W (.lst ((a.wds.set g q2).map V.ref))) := (ChgP.same s03).upd (fr.mine a.W (by unfold FA.own; exact List.mem_append_left _ (by simp)))
        generalize upd H3 a.W (.lst ((a.wds.set g q2).map V.ref)) = H4 at fr4 c4
        have h14 := fr4.ins
        have h4r := fr4.r
        have n4 : e < s'.rt.length := by rw [fr.ok.rt4]; omega
        obtain ⟨dd, hdd, hdk⟩ := fr4.rs.at (List.getElem?_eq_getElem n4)
        have eg : s'.rt.getD e [] = s'.rt[e] := by rw [List.getD_eq_getElem?_getD, List.getElem?_eq_getElem n4]; rfl
        have hdk : H4 dd = some (.dK (entR s'.rt[e])) := hdk
        walk_at "ro"
        refine ⟨_, _, _, _, rfl, rfl, SqL.of h4r, atC e rfl (by rw [List.getElem?_map, hdd]; rfl), ?_⟩
        walk_at "ro"
        refine ⟨dd, _, rfl, DPut.k (k := .inl (g : Int)) hdk (by unfold entR; rw [List.length_map, ← eg]; exact szt (by omega)), ?_⟩
        have ep : putK (entR s'.rt[e]) (.inl (g : Int)) (.str "rw") = entR (s'.rt.getD e [] ++ [(g, true)]) := by
          rw [← putR_new true (gn e), ← put_ent, eg]; rfl
        rw [ep]
        have fr5 := fr4.setR hdd (s'.rt.getD e [] ++ [(g, true)])
        have ddm : dd ∈ a.own x := by unfold FA.own; exact List.mem_append_right _ (List.mem_append_right _ (List.mem_append_left _ (List.mem_of_getElem? hdd)))
        walk_at "ro"
        exact kt _ _ fr5 (c4.upd (fr.mine dd ddm))
end
end My

namespace My
open PySem L2
local macro_rules | `(tactic| walk_at "ne") => `(tactic| first | assumption | exact Ne.symm (by assumption) | exact ne_of_none (by assumption) (by assumption) | exact Ne.symm (ne_of_none (by assumption) (by assumption)))
local macro_rules | `(tactic| walk_at "hp") => `(tactic| first | assumption | with_reducible exact upd_same | (with_reducible refine Eq.trans (upd_ne ?_) ?_; rotate_left; walk_at "hp"; walk_at "ne"))
local macro_rules | `(tactic| walk_at "cnd") => `(tactic| first | omega | (show (0 : Int) < _; omega) | exact ⟨by omega, by omega⟩ | exact Or.inl ⟨by omega, by omega⟩ | exact Or.inr ⟨by omega, by omega⟩ | exact ⟨by omega, by omega, by decide⟩ | exact ⟨by omega, by omega, by omega⟩)
local macro_rules | `(tactic| walk_at "at") => `(tactic| first | exact atC 0 rfl rfl | exact atC 1 rfl rfl | exact atC 2 rfl rfl | exact atC 3 rfl rfl | exact atC 4 rfl rfl | exact atC 5 rfl rfl | exact atC 6 rfl rfl | exact atC 7 rfl rfl)
local macro_rules | `(tactic| walk_at "ix") => `(tactic| first | exact ixC 0 rfl (Nat.le_of_ble_eq_true rfl) | exact ixC 1 rfl (Nat.le_of_ble_eq_true rfl) | exact ixC 2 rfl (Nat.le_of_ble_eq_true rfl) | exact ixC 3 rfl (Nat.le_of_ble_eq_true rfl) | exact ixC 4 rfl (Nat.le_of_ble_eq_true rfl) | exact ixC 5 rfl (Nat.le_of_ble_eq_true rfl))
local macro_rules | `(tactic| walk_at "st") => `(tactic| first
  | refine ⟨_, rfl, ?_⟩
  | refine ⟨_, _, rfl, rfl, (by walk_at "cnd" : (_ : Prop)), ?_⟩
  | refine ⟨_, _, rfl, rfl, ?_⟩
  | refine ⟨rfl, ?_⟩
  | refine Or.inl ⟨_, rfl, ?_⟩
  | refine ⟨_, _, _, _, rfl, rfl, by exact SqL.of (by walk_at "hp"), by walk_at "at", ?_⟩
  | refine ⟨_, _, _, _, rfl, rfl, by exact SqT.of (by walk_at "hp"), by walk_at "at", ?_⟩
  | refine ⟨_, _, _, _, rfl, rfl, by walk_at "hp", by walk_at "ix", ?_⟩
  | refine ⟨_, _, rfl, Or.inl (by exact SqL.of (by walk_at "hp")), ?_⟩
  | refine ⟨_, _, rfl, Or.inr (by exact SqT.of (by walk_at "hp")), ?_⟩)
local macro_rules | `(tactic| walk_at "so") => `(tactic| first
  | refine ⟨_, _, _, _, _, rfl, by walk_at "hp", by assumption, by assumption, rfl, ?_⟩
  | refine ⟨_, _, _, _, rfl, by walk_at "hp", by assumption, by assumption, Nat.le_of_ble_eq_true rfl, ?_⟩
  | refine ⟨_, _, _, rfl, by walk_at "hp", rfl, ?_⟩
  | walk_at "st")
local macro_rules | `(tactic| walk_at "ro") => `(tactic| repeat walk_at "so")
local macro_rules | `(tactic| walk_at "run") => `(tactic| repeat walk_at "st")

/-! ### includes, offers -/
def inclO : Option Bool → Option Bool → Bool
  | some true, some _ => true
  | some false, some false => true
  | _, _ => false
def spIncl : Sp := fun vs H Q _ => ∃ h r : Option Bool, vs = [optR h, optR r] ∧ Q (.bl (inclO h r)) H
theorem OB.set {n : Nat} {of : List (List (Nat × RL))} {e : Nat} {l' : List (Nat × RL)} (h : OB n of) (hl : l'.length ≤ n + 1) (hp : ∀ p ∈ l', p.2.length ≤ n + 1) : OB (n + 1) (of.set e l') := by
  intro l hl'
  rcases List.mem_or_eq_of_mem_set hl' with q | q
  · obtain ⟨a, b⟩ := h l q
    exact ⟨by omega, fun p hp => by have := b p hp; omega⟩
  · subst q
    exact ⟨hl, hp⟩
theorem OB.set0 {n : Nat} {of : List (List (Nat × RL))} {e : Nat} {l' : List (Nat × RL)} (h : OB n of) (hl : l'.length ≤ n) (hp : ∀ p ∈ l', p.2.length ≤ n) : OB n (of.set e l') := by
  intro l hl'
  rcases List.mem_or_eq_of_mem_set hl' with q | q
  · exact h l q
  · subst q
    exact ⟨hl, hp⟩
theorem dropR_len (l : RL) (f : Nat) : (dropR l f).length ≤ l.length := List.length_filter_le _ _
theorem Each.snoc {α : Type} {rel : Hp → Addr → α → Prop} {H : Hp} {ds : List Addr} {ls : List α} {d : Addr} {l : α} (h : Each rel H ds ls) (r : rel H d l) : Each rel H (ds ++ [d]) (ls ++ [l]) := by
  refine ⟨by rw [List.length_append, List.length_append, h.1]; rfl, fun j d' l' a b => ?_⟩
  by_cases q : j < ds.length
  · rw [List.getElem?_append_left q] at a
    rw [List.getElem?_append_left (by rw [← h.1]; exact q)] at b
    exact h.2 j d' l' a b
  · rw [List.getElem?_append_right (by omega)] at a
    rw [List.getElem?_append_right (by rw [← h.1]; omega), ← h.1] at b
    have z : j - ds.length = 0 := by
      have := (List.getElem?_eq_some_iff.mp a).1
      simp at this
      omega
    rw [z] at a b
    have a : d = d' := Option.some.inj a
    have b : l = l' := Option.some.inj b
    subst a b
    exact r
theorem getO_snoc {l : List (Nat × RL)} {f : Nat} (h : getO l f = none) (rl : RL) (g : Nat) : getO (l ++ [(f, rl)]) g = if g = f then some rl else getO l g := by
  unfold getO at h ⊢
  rw [List.find?_append]
  by_cases q : g = f
  · subst q
    have h' : l.find? (fun p => decide (p.1 = g)) = none := by
      cases e : l.find? (fun p => decide (p.1 = g)) with
      | none => rfl
      | some q => rw [e] at h; cases h
    rw [h', if_pos rfl, Option.none_or, List.find?_cons_of_pos (by simp)]; rfl
  · have h' : [(f, rl)].find? (fun p => decide (p.1 = g)) = none := by
      rw [List.find?_cons_of_neg (by simpa using fun z => q z.symm)]; rfl
    rw [h', if_neg q, Option.or_none]
theorem entO_snoc {l : List (Nat × RL)} {is : List Addr} (h : is.length = l.length) (f : Nat) (rl : RL) (q : Addr) : entO (l ++ [(f, rl)]) (is ++ [q]) = entO l is ++ [(.inl (f : Int), .ref q)] := by
  unfold entO
  rw [List.zip_append h.symm, List.map_append]; rfl
def spOffer (C : Addr) : Sp := fun vs H Q _ => ∃ P x a s, ∃ e f o n : Nat, ∃ b : Bool, vs = [.ref x, .int (e : Int), .int (f : Int), .int (o : Int), rV b] ∧ Fr C P H x a s ∧ e < 4 ∧ f < s.m ∧ o < 4 ∧ n ≤ 1000 ∧ OB n s.of ∧
  (o = e ∨ inclO (getR (s.rt.getD e []) f) (some b) = false → Q (.bl false) H) ∧
  (o ≠ e → inclO (getR (s.rt.getD e []) f) (some b) = true → ∀ a' of' H', Fr C (fun b => P b ∨ H b = none) H' x a' { s with of := of' } → (∀ e' f' o', offN of' e' f' o' = if e' = e ∧ f' = f ∧ o' = o then some b else offN s.of e' f' o') → OB (n + 1) of' → ChgP P H H' → Q (.bl true) H')
section
variable {P : Program} {w : World} {K : PySem.W.Frag} {mg : Str → Option Value} {base : Heap} {C_Frames C_NotValid : Addr}
abbrev s_includes : Stmt := topS 17
abbrev ns_includes : List Str := ["held", "right"]
theorem sc_includes : FnScope ns_includes ["held", "right"] (defScope s_includes) := ⟨rfl, rfl, rfl, by decide +kernel, rfl, by decide +kernel, by decide +kernel⟩

theorem ok_includes {f : Addr} {fd : FuncData} (F : Fun K "includes" "includes" s_includes f fd) (T : Txt K mg C_Frames C_NotValid) : FnOk P w K mg base CX0 1 f fd ["held", "right"] spIncl := by
  refine F.ok sc_includes (fun vs H Q E h => ?_) (fun cdv A outer s H vs Q E hr h => ?_)
  · obtain ⟨h, r, rfl, _⟩ := h
    rfl
  · obtain ⟨h, r, rfl, k⟩ := h
    refine ⟨_, (pss_cons (ps_if (pt_cmpR op_eq (pv 0) pe_str (nomark _)) (pss_one (ps_ret (pe_or (pe_cmpR op_eq (pv 1) pe_str (nomark _)) (pe_one (pe_cmpR op_eq (pv 1) pe_str (nomark _)))))) pss_nil)
  (pss_one (ps_ret (pe_and (pe_cmpR op_eq (pv 0) pe_str (nomark _)) (pe_one (pe_cmpR op_eq (pv 1) pe_str (nomark _))))))), ?_⟩
    rcases h with _ | (_ | _) <;> rcases r with _ | (_ | _) <;> (walk_at "run"; exact k)
abbrev s_Frames_offer : Stmt := inClass (topS 19) 2
abbrev ns_Frames_offer : List Str := ["self", "environment", "frame", "other", "right"]
theorem sc_Frames_offer : FnScope ns_Frames_offer ["self", "environment", "frame", "other", "right"] (defScope s_Frames_offer) := ⟨rfl, rfl, rfl, by decide +kernel, rfl, by decide +kernel, by decide +kernel⟩

theorem ok_Frames_offer {f : Addr} {fd : FuncData} (F : Fun K "offer" "Frames.offer" s_Frames_offer f fd) (T : Txt K mg C_Frames C_NotValid) (D_is_environment : Dfn P w K mg base CX0 4 "is_environment" ["value"] spEnv) (D_includes : Dfn P w K mg base CX0 1 "includes" ["held", "right"] spIncl) (D_Frames_right : Mth P w K mg base CX0 5 C_Frames "right" ["self", "environment", "frame"] (spRight C_Frames)) : FnOk P w K mg base CX0 6 f fd ["self", "environment", "frame", "other", "right"] (spOffer C_Frames) := by
  have ho_Frames := T.o_Frames; have hn_Frames__words := T.n_Frames__words; have hn_Frames__shares := T.n_Frames__shares; have hn_Frames__rights := T.n_Frames__rights; have hn_Frames__offers := T.n_Frames__offers; have hn_Frames__asked := T.n_Frames__asked; have hn_Frames__ends_to_wait := T.n_Frames__ends_to_wait; have hn_Frames__taken := T.n_Frames__taken
  refine F.ok sc_Frames_offer (fun vs H Q E h => ?_) (fun cdv A outer s H vs Q E hr h => ?_)
  · obtain ⟨P', x, a, s', e, g, o, n, b, rfl, _⟩ := h
    rfl
  · obtain ⟨P', x, a, s', e, g, o, n, b, rfl, fr, e4, gm, o4, nz, ob, kn, ks⟩ := h
    refine ⟨_, (pss_cons (ps_if (PW.pt (pw_or (pt_not (pt_val (pe_dcall D_is_environment (hr.mono (by decide)) (by rfl) pass0 (pa_cons (pv 3) pa_nil)))) (pw_or1 (pt_cmpR op_eq (pv 3) (pv 1) (nomark _))))) (pss_one (ps_ret pe_bl)) pss_nil)
  (pss_cons (ps_if (pt_not (pt_val (pe_dcall D_includes (hr.mono (by decide)) (by rfl) pass0 (pa_cons (pe_dmeth (pv 0) D_Frames_right (hr.mono (by decide)) pass0 (pa_cons (pv 1) (pa_cons (pv 2) pa_nil))) (pa_cons (pv 4) pa_nil))))) (pss_one (ps_ret pe_bl)) pss_nil)
  (pss_cons (ps_dput (units1 hr) (pe_dsetd (pe_ix (kIxL K) (kFld K (pv 0) rfl) (pv 1) (fun _ _ => rfl)) (pv 2) pe_dnewK ⟨rfl, rfl, rfl, rfl⟩) (pv 3) (pv 4) rfl)
  (pss_one (ps_ret pe_bl))))), ?_⟩
    have h1 := fr.ins
    walk_at "ro"
    refine ⟨_, _, rfl, .int _, _, rfl, ?_⟩
    rw [isE_nat o4]
    refine iteF ?_
    walk_at "ro"
    refine iteD (fun q => ?_) (fun q => ?_)
    · walk_at "ro"
      exact kn (.inl (by injection q with q; omega))
    · have oe : o ≠ e := fun z => q (by rw [z])
      walk_at "ro"
      refine ⟨P', x, a, s', _, _, _, _, rfl, fr, .int _, .int _, ?_⟩
      rw [right_nat e4 gm]
      walk_at "ro"
      refine ⟨getR (s'.rt.getD e []) g, some b, rfl, _, rfl, ?_⟩
      cases ei : inclO (getR (s'.rt.getD e []) g) (some b) with
      | false =>
        refine iteT ?_
        walk_at "ro"
        exact kn (.inr ei)
      | true =>
        refine iteF ?_
        have ks := ks oe ei
        have h2 := fr.o
        have n4 : e < s'.of.length := by rw [fr.ok.of4]; exact e4
        have i4 : e < a.ids.length := by rw [fr.il]; exact n4
        have hi : a.ids[e]? = some a.ids[e] := List.getElem?_eq_getElem i4
        have hl : s'.of[e]? = some s'.of[e] := List.getElem?_eq_getElem n4
        have hz : (a.ids.zip s'.of)[e]? = some (a.ids[e], s'.of[e]) := List.getElem?_zip_eq_some.mpr ⟨hi, hl⟩
        obtain ⟨od, hod, hok, hoi⟩ := fr.os.at hz
        have hok : H od = some (.dK (entO s'.of[e] a.ids[e])) := hok
        obtain ⟨oz1, oz2⟩ := ob _ (List.mem_of_getElem? hl)
        have el : (entO s'.of[e] a.ids[e]).length ≤ s'.of[e].length := by
          unfold entO
          rw [List.length_map, List.length_zip]
          omega
        have odm : od ∈ a.own x := by unfold FA.own; exact List.mem_append_right _ (List.mem_append_right _ (List.mem_append_right _ (List.mem_append_left _ (List.mem_of_getElem? hod))))
        walk_at "ro"
        refine ⟨_, _, _, _, rfl, rfl, SqL.of h2, atC e rfl (by rw [List.getElem?_map, hod]; rfl), ?_⟩
        refine ⟨od, rfl, .inl ⟨_, .inl hok⟩, ?_⟩
        walk_at "ro"
        refine fun q hq => ?_
        have sq := Same.new (o := .dK []) hq
        have fr1 := (fr.same sq).mono (P' := fun b => P' b ∨ H b = none) fun b hb => .inl (fr.mine b hb)
        have c1 : ChgP P' H (upd H q (.dK [])) := ChgP.same sq
        refine ⟨_, .inl (g : Int), sq _ _ hok, rfl, by exact szt (by omega), fun v hv => ?_, fun hv => ?_⟩
        · rcases valO2 g hoi with ⟨j, i, rl, b1, b2, b3, b4, b5, b6⟩ | ⟨b1, _⟩
          rotate_left
          · rw [b1] at hv; cases hv
          rw [b1] at hv
          cases hv
          have rz : rl.length ≤ n := oz2 _ (List.mem_of_getElem? b4)
          walk_at "ro"
          refine ⟨i, _, rfl, DPut.k (k := .inl (o : Int)) (sq _ _ b5) (by unfold entR; rw [List.length_map]; exact szt (by omega)), ?_⟩
          rw [put_ent]
          have fr2 := fr1.setI hi hl b3 b4 (putR rl o b)
          have im : i ∈ a.own x := by unfold FA.own; exact List.mem_append_right _ (List.mem_append_right _ (List.mem_append_right _ (List.mem_append_right _ (List.mem_append_right _ (List.mem_flatten.mpr ⟨_, List.mem_of_getElem? hi, List.mem_of_getElem? b3⟩)))))
          walk_at "ro"
          refine ks _ _ _ fr2 (fun e' f' o' => ?_) (ob.set (by rw [List.length_set]; omega) fun p hp => ?_) (c1.upd (fr.mine i im))
          · rw [offN_set n4, b6]
            have eo : offN s'.of e f' o' = getR ((getO s'.of[e] f').getD []) o' := by
              unfold offN
              rw [List.getD_eq_getElem?_getD, hl]; rfl
            by_cases q1 : e' = e
            · subst q1
              rw [if_pos rfl]
              by_cases q2 : f' = g
              · subst q2
                rw [if_pos rfl]
                show getR (putR rl o b) o' = _
                rw [get_put, eo, b2]
                by_cases q3 : o' = o
                · rw [if_pos q3, if_pos ⟨rfl, rfl, q3⟩]
                · rw [if_neg q3, if_neg (fun z => q3 z.2.2)]; rfl
              · rw [if_neg q2, if_neg (fun z => q2 z.2.1), eo]
            · rw [if_neg q1, if_neg (fun z => q1 z.1)]
          · rcases List.mem_or_eq_of_mem_set hp with z | z
            · have := oz2 p z; omega
            · rw [z]
              have := putR_len rl o b
              show (putR rl o b).length ≤ n + 1
              omega
        · have hn : getO s'.of[e] g = none := by
            rcases valO2 g hoi with ⟨j, i, rl, b1, _⟩ | ⟨_, b2⟩
            · rw [hv] at b1; cases b1
            · exact b2
          have ep : putK (entO s'.of[e] a.ids[e]) (.inl (g : Int)) (.ref q) = entO (s'.of[e] ++ [(g, [])]) (a.ids[e] ++ [q]) := by
            rw [putK_new _ hv, entO_snoc hoi.1]
          rw [ep]
          have qn : q ∉ a.own x := fun z => fr.al _ z hq
          have pm := own_add (x := x) (p := q) hi
          have nd2 : (({ a with ids := a.ids.set e (a.ids[e] ++ [q]) } : FA).own x).Nodup := pm.nodup_iff.mpr (List.nodup_cons.mpr ⟨qn, fr.nd⟩)
          have hoi1 : Each (fun H i (p : Nat × RL) => RtD H i p.2) (upd H q (.dK [])) (a.ids[e] ++ [q]) (s'.of[e] ++ [(g, [])]) := (hoi.same fun _ _ r => sq _ _ r).snoc (show (upd H q (.dK [])) q = _ from upd_same)
          have fr2 := fr1.setO (P' := fun b => P' b ∨ H b = none) hod (s'.of[e] ++ [(g, [])]) (a.ids[e] ++ [q]) hoi1 nd2 fun b hb => by
            rcases List.mem_cons.mp (pm.subset hb) with z | z
            · rw [z]; exact .inr hq
            · exact .inl (fr.mine b z)
          have c2 : ChgP P' H (upd (upd H q (.dK [])) od (.dK (entO (s'.of[e] ++ [(g, [])]) (a.ids[e] ++ [q])))) := c1.upd (fr.mine od odm)
          have hq2 : (upd (upd H q (.dK [])) od (.dK (entO (s'.of[e] ++ [(g, [])]) (a.ids[e] ++ [q])))) q = some (.dK (entR [])) := by
            rw [upd_ne (fun z => qn (by rw [z]; exact odm)), upd_same]; rfl
          generalize upd (upd H q (.dK [])) od (.dK (entO (s'.of[e] ++ [(g, [])]) (a.ids[e] ++ [q]))) = H2 at fr2 c2 hq2
          walk_at "ro"
          refine ⟨q, _, rfl, DPut.k (k := .inl (o : Int)) hq2 (by decide), ?_⟩
          rw [put_ent]
          have fr3 := fr2.setI (e := e) (j := s'.of[e].length) (f := g) (is := a.ids[e] ++ [q]) (l := s'.of[e] ++ [(g, [])]) (i := q) (rl := []) (List.getElem?_set_self i4) (List.getElem?_set_self n4) (by rw [← hoi.1]; exact List.getElem?_concat_length) List.getElem?_concat_length (putR [] o b)
          have e3 : (s'.of.set e (s'.of[e] ++ [(g, [])])).set e ((s'.of[e] ++ [(g, [])]).set s'.of[e].length (g, putR [] o b)) = s'.of.set e (s'.of[e] ++ [(g, [(o, b)])]) := by
            rw [List.set_set]
            congr 1
            rw [List.set_append_right _ _ (Nat.le_refl _), Nat.sub_self]; rfl
          have fr3 : Fr C_Frames (fun b => P' b ∨ H b = none) (upd H2 q (.dK (entR (putR [] o b)))) x { a with ids := a.ids.set e (a.ids[e] ++ [q]) } { s' with of := s'.of.set e (s'.of[e] ++ [(g, [(o, b)])]) } := by rw [← e3]; exact fr3
          have c3 : ChgP P' H (upd H2 q (.dK (entR (putR [] o b)))) := fun b' o' nb eb => by
            rw [upd_ne (ne_of_none eb hq)]
            exact c2 b' o' nb eb
          walk_at "ro"
          refine ks _ _ _ fr3 (fun e' f' o' => ?_) (ob.set (by rw [List.length_append]; show _ + 1 ≤ _; omega) fun p hp => ?_) c3
          · rw [offN_set n4, getO_snoc hn]
            have eo : offN s'.of e f' o' = getR ((getO s'.of[e] f').getD []) o' := by
              unfold offN
              rw [List.getD_eq_getElem?_getD, hl]; rfl
            by_cases q1 : e' = e
            · subst q1
              rw [if_pos rfl]
              by_cases q2 : f' = g
              · subst q2
                rw [if_pos rfl]
                show getR (putR [] o b) o' = _
                rw [get_put, eo, hn]
                by_cases q3 : o' = o
                · rw [if_pos q3, if_pos ⟨rfl, rfl, q3⟩]
                · rw [if_neg q3, if_neg (fun z => q3 z.2.2)]; rfl
              · rw [if_neg q2, if_neg (fun z => q2 z.2.1), eo]
            · rw [if_neg q1, if_neg (fun z => q1 z.1)]
          · rcases List.mem_append.mp hp with z | z
            · have := oz2 p z; omega
            · rw [List.mem_singleton.mp z]
              show 1 ≤ n + 1
              omega
end
end My

namespace My
open PySem L2
local macro_rules | `(tactic| walk_at "ne") => `(tactic| first | assumption | exact Ne.symm (by assumption) | exact ne_of_none (by assumption) (by assumption) | exact Ne.symm (ne_of_none (by assumption) (by assumption)))
local macro_rules | `(tactic| walk_at "hp") => `(tactic| first | assumption | with_reducible exact upd_same | (with_reducible refine Eq.trans (upd_ne ?_) ?_; rotate_left; walk_at "hp"; walk_at "ne"))
local macro_rules | `(tactic| walk_at "cnd") => `(tactic| first | omega | (show (0 : Int) < _; omega) | exact ⟨by omega, by omega⟩ | exact Or.inl ⟨by omega, by omega⟩ | exact Or.inr ⟨by omega, by omega⟩ | exact ⟨by omega, by omega, by decide⟩ | exact ⟨by omega, by omega, by omega⟩)
local macro_rules | `(tactic| walk_at "at") => `(tactic| first | exact atC 0 rfl rfl | exact atC 1 rfl rfl | exact atC 2 rfl rfl | exact atC 3 rfl rfl | exact atC 4 rfl rfl | exact atC 5 rfl rfl | exact atC 6 rfl rfl | exact atC 7 rfl rfl)
local macro_rules | `(tactic| walk_at "ix") => `(tactic| first | exact ixC 0 rfl (Nat.le_of_ble_eq_true rfl) | exact ixC 1 rfl (Nat.le_of_ble_eq_true rfl) | exact ixC 2 rfl (Nat.le_of_ble_eq_true rfl) | exact ixC 3 rfl (Nat.le_of_ble_eq_true rfl) | exact ixC 4 rfl (Nat.le_of_ble_eq_true rfl) | exact ixC 5 rfl (Nat.le_of_ble_eq_true rfl))
local macro_rules | `(tactic| walk_at "st") => `(tactic| first
  | refine ⟨_, rfl, ?_⟩
  | refine ⟨_, _, rfl, rfl, (by walk_at "cnd" : (_ : Prop)), ?_⟩
  | refine ⟨_, _, rfl, rfl, ?_⟩
  | refine ⟨rfl, ?_⟩
  | refine Or.inl ⟨_, rfl, ?_⟩
  | refine ⟨_, _, _, _, rfl, rfl, by exact SqL.of (by walk_at "hp"), by walk_at "at", ?_⟩
  | refine ⟨_, _, _, _, rfl, rfl, by exact SqT.of (by walk_at "hp"), by walk_at "at", ?_⟩
  | refine ⟨_, _, _, _, rfl, rfl, by walk_at "hp", by walk_at "ix", ?_⟩
  | refine ⟨_, _, rfl, Or.inl (by exact SqL.of (by walk_at "hp")), ?_⟩
  | refine ⟨_, _, rfl, Or.inr (by exact SqT.of (by walk_at "hp")), ?_⟩)
local macro_rules | `(tactic| walk_at "so") => `(tactic| first
  | refine ⟨_, _, _, _, _, rfl, by walk_at "hp", by assumption, by assumption, rfl, ?_⟩
  | refine ⟨_, _, _, _, rfl, by walk_at "hp", by assumption, by assumption, Nat.le_of_ble_eq_true rfl, ?_⟩
  | refine ⟨_, _, _, rfl, by walk_at "hp", rfl, ?_⟩
  | walk_at "st")
local macro_rules | `(tactic| walk_at "ro") => `(tactic| repeat walk_at "so")
local macro_rules | `(tactic| walk_at "run") => `(tactic| repeat walk_at "st")

def spAccept (C : Addr) : Sp := fun vs H Q _ => ∃ P x a s, ∃ e f o : Nat, vs = [.ref x, .int (e : Int), .int (f : Int), .int (o : Int)] ∧ Fr C P H x a s ∧ e < 4 ∧ f < s.m ∧ o < 4 ∧ (s.rt.getD e []).length ≤ 1000 ∧
  (inclO (getR (s.rt.getD o []) f) (offN s.of o f e) = false ∨ getR (s.rt.getD e []) f ≠ none ∨ moreOf s (eD e) = false → ∀ H', Same H H' → Q (.bl false) H') ∧
  (∀ b, offN s.of o f e = some b → inclO (getR (s.rt.getD o []) f) (some b) = true → getR (s.rt.getD e []) f = none → moreOf s (eD e) = true → ∀ of' H', Fr C P H' x a { s with of := of', rt := s.rt.set e (s.rt.getD e [] ++ [(f, b)]) } → (∀ e' f' o', offN of' e' f' o' = if e' = o ∧ f' = f ∧ o' = e then none else offN s.of e' f' o') → (∀ n, OB n s.of → OB n of') → ChgP P H H' → Q (.bl true) H')
theorem off_nat {s : FS} {e f o : Nat} (he : e < 4) (hf : f < s.m) (ho : o < 4) : offOf s (.int (o : Int)) (.int (f : Int)) (.int (e : Int)) = offN s.of o f e := by
  unfold offOf
  rw [if_pos ⟨isE_nat ho, isE_nat he, isF_nat hf⟩]; rfl
section
variable {P : Program} {w : World} {K : PySem.W.Frag} {mg : Str → Option Value} {base : Heap} {C_Frames C_NotValid : Addr}
abbrev s_Frames_accept : Stmt := inClass (topS 19) 3
abbrev ns_Frames_accept : List Str := ["self", "environment", "frame", "owner", "right"]
theorem sc_Frames_accept : FnScope ns_Frames_accept ["self", "environment", "frame", "owner"] (defScope s_Frames_accept) := ⟨rfl, rfl, rfl, by decide +kernel, rfl, by decide +kernel, by decide +kernel⟩

theorem ok_Frames_accept {f : Addr} {fd : FuncData} (F : Fun K "accept" "Frames.accept" s_Frames_accept f fd) (T : Txt K mg C_Frames C_NotValid) (D_Frames_offered : Mth P w K mg base CX0 5 C_Frames "_offered" ["self", "owner", "frame", "other"] (spOff C_Frames)) (D_includes : Dfn P w K mg base CX0 1 "includes" ["held", "right"] spIncl) (D_Frames_right : Mth P w K mg base CX0 5 C_Frames "right" ["self", "environment", "frame"] (spRight C_Frames)) (D_Frames_may_hold_more : Mth P w K mg base CX0 8 C_Frames "_may_hold_more" ["self", "environment"] (spMore C_Frames)) : FnOk P w K mg base CX0 9 f fd ["self", "environment", "frame", "owner"] (spAccept C_Frames) := by
  have ho_Frames := T.o_Frames; have hn_Frames__words := T.n_Frames__words; have hn_Frames__shares := T.n_Frames__shares; have hn_Frames__rights := T.n_Frames__rights; have hn_Frames__offers := T.n_Frames__offers; have hn_Frames__asked := T.n_Frames__asked; have hn_Frames__ends_to_wait := T.n_Frames__ends_to_wait; have hn_Frames__taken := T.n_Frames__taken
  refine F.ok sc_Frames_accept (fun vs H Q E h => ?_) (fun cdv A outer s H vs Q E hr h => ?_)
  · obtain ⟨P', x, a, s', e, g, o, rfl, _⟩ := h
    rfl
  · obtain ⟨P', x, a, s', e, g, o, rfl, fr, e4, gm, o4, hz, kn, ks⟩ := h
    refine ⟨_, (pss_cons (ps_set (i := 4) sc_Frames_accept.nd rfl (Or.inl rfl) (pe_dmeth (pv 0) D_Frames_offered (hr.mono (by decide)) pass0 (pa_cons (pv 3) (pa_cons (pv 2) (pa_cons (pv 1) pa_nil)))))
  (pss_cons (ps_if (pt_not (pt_val (pe_dcall D_includes (hr.mono (by decide)) (by rfl) pass0 (pa_cons (pe_dmeth (pv 0) D_Frames_right (hr.mono (by decide)) pass0 (pa_cons (pv 3) (pa_cons (pv 2) pa_nil))) (pa_cons (pv 4) pa_nil))))) (pss_one (ps_ret pe_bl)) pss_nil)
  (pss_cons (ps_if (PW.pt (pw_or (pt_cmpR op_notN (pe_dmeth (pv 0) D_Frames_right (hr.mono (by decide)) pass0 (pa_cons (pv 1) (pa_cons (pv 2) pa_nil))) pe_non (nomark _)) (pw_or1 (pt_not (pt_val (pe_dmeth (pv 0) D_Frames_may_hold_more (hr.mono (by decide)) pass0 (pa_cons (pv 1) pa_nil))))))) (pss_one (ps_ret pe_bl)) pss_nil)
  (pss_cons (ps_ddel (pe_dget (units1 hr) (pe_ix (kIxL K) (kFld K (pv 0) rfl) (pv 3) (fun _ _ => rfl)) (pv 2) (fun _ _ => rfl)) (pv 1))
  (pss_cons (ps_dput (units1 hr) (pe_ix (kIxL K) (kFld K (pv 0) rfl) (pv 1) (fun _ _ => rfl)) (pv 2) (pv 4) rfl)
  (pss_one (ps_ret pe_bl))))))), ?_⟩
    have h1 := fr.ins
    walk_at "ro"
    refine ⟨P', x, a, s', _, _, _, _, _, _, rfl, fr, .int _, .int _, .int _, fun H1 s1 => ?_⟩
    rw [off_nat e4 gm o4]
    have h11 := s1 _ _ h1
    have fr1 := fr.same s1
    walk_at "ro"
    refine ⟨P', x, a, s', _, _, _, _, rfl, fr1, .int _, .int _, ?_⟩
    rw [right_nat o4 gm]
    walk_at "ro"
    refine ⟨getR (s'.rt.getD o []) g, offN s'.of o g e, rfl, _, rfl, ?_⟩
    cases ei : inclO (getR (s'.rt.getD o []) g) (offN s'.of o g e) with
    | false =>
      refine iteT ?_
      walk_at "ro"
      exact kn (.inl ei) _ s1
    | true =>
      refine iteF ?_
      cases eo : offN s'.of o g e with
      | none =>
        exfalso
        rw [eo] at ei
        revert ei
        cases getR (s'.rt.getD o []) g with
        | none => intro z; cases z
        | some b => cases b <;> (intro z; cases z)
      | some b =>
        rw [eo] at ei
        walk_at "ro"
        refine ⟨P', x, a, s', _, _, _, _, rfl, fr1, .int _, .int _, ?_⟩
        rw [right_nat e4 gm]
        cases er : getR (s'.rt.getD e []) g with
        | some c =>
          have kn := kn (.inr (.inl (by rw [er]; intro z; cases z)))
          cases c <;> (walk_at "ro"; exact kn _ s1)
        | none =>
          walk_at "ro"
          refine ⟨P', x, a, s', _, _, rfl, fr1, .int _, fun H2 s2 => ?_⟩
          refine ⟨_, rfl, ?_⟩
          have s02 := s1.trans s2
          have fr2 := fr.same s02
          cases em : moreOf s' (eD e) with
          | false =>
            have em' : moreOf s' (.int (e : Int)) = false := em
            rw [em']
            refine iteT ?_
            walk_at "ro"
            exact kn (.inr (.inr em)) _ s02
          | true =>
            have em' : moreOf s' (.int (e : Int)) = true := em
            rw [em']
            refine iteF ?_
            have ks := ks b eo ei er em
            have h12 := fr2.ins
            have h2 := fr2.o
            have n4 : o < s'.of.length := by rw [fr.ok.of4]; exact o4
            have i4 : o < a.ids.length := by rw [fr.il]; exact n4
            have hi : a.ids[o]? = some a.ids[o] := List.getElem?_eq_getElem i4
            have hl : s'.of[o]? = some s'.of[o] := List.getElem?_eq_getElem n4
            have hzz : (a.ids.zip s'.of)[o]? = some (a.ids[o], s'.of[o]) := List.getElem?_zip_eq_some.mpr ⟨hi, hl⟩
            obtain ⟨od, hod, hok, hoi⟩ := fr2.os.at hzz
            have hok : H2 od = some (.dK (entO s'.of[o] a.ids[o])) := hok
            have eof : ∀ f' o', offN s'.of o f' o' = getR ((getO s'.of[o] f').getD []) o' := fun f' o' => by
              unfold offN
              rw [List.getD_eq_getElem?_getD, hl]; rfl
            rcases valO2 g hoi with ⟨j, i, rl, b1, b2, b3, b4, b5, b6⟩ | ⟨_, b2⟩
            rotate_left
            · exfalso
              rw [eof, b2] at eo
              cases eo
            have er2 : getR rl e = some b := by
              rw [eof, b2] at eo
              exact eo
            walk_at "ro"
            refine ⟨_, _, _, _, rfl, rfl, SqL.of h2, atC o rfl (by rw [List.getElem?_map, hod]; rfl), ?_⟩
            walk_at "ro"
            refine ⟨od, .ref i, rfl, by rw [← b1]; exact DGet.k (k := .inl (g : Int)) hok, ?_⟩
            walk_at "ro"
            refine ⟨i, _, .inl (e : Int), rfl, b5, rfl, ?_, ?_⟩
            · rw [valR, er2]; rfl
            rw [drop_entR]
            have fr3 := fr2.setI hi hl b3 b4 (dropR rl e)
            have im : i ∈ a.own x := by unfold FA.own; exact List.mem_append_right _ (List.mem_append_right _ (List.mem_append_right _ (List.mem_append_right _ (List.mem_append_right _ (List.mem_flatten.mpr ⟨_, List.mem_of_getElem? hi, List.mem_of_getElem? b3⟩)))))
            have c3 : ChgP P' H (upd H2 i (.dK (entR (dropR rl e)))) := (ChgP.same s02).upd (fr.mine i im)
            generalize upd H2 i (.dK (entR (dropR rl e))) = H3 at fr3 c3
            have h13 := fr3.ins
            have h3r := fr3.r
            have r4 : e < s'.rt.length := by rw [fr.ok.rt4]; exact e4
            obtain ⟨dd, hdd, hdk⟩ := fr3.rs.at (List.getElem?_eq_getElem r4)
            have eg : s'.rt.getD e [] = s'.rt[e] := by rw [List.getD_eq_getElem?_getD, List.getElem?_eq_getElem r4]; rfl
            have hdk : H3 dd = some (.dK (entR s'.rt[e])) := hdk
            walk_at "ro"
            refine ⟨_, _, _, _, rfl, rfl, SqL.of h3r, atC e rfl (by rw [List.getElem?_map, hdd]; rfl), ?_⟩
            walk_at "ro"
            refine ⟨dd, _, rfl, DPut.k (k := .inl (g : Int)) hdk (by unfold entR; rw [List.length_map, ← eg]; exact szt (by omega)), ?_⟩
            have ep : putK (entR s'.rt[e]) (.inl (g : Int)) (optR (some b)) = entR (s'.rt.getD e [] ++ [(g, b)]) := by
              rw [← putR_new b er, ← put_ent, eg]; rfl
            rw [ep]
            have fr4 := fr3.setR hdd (s'.rt.getD e [] ++ [(g, b)])
            have ddm : dd ∈ a.own x := by unfold FA.own; exact List.mem_append_right _ (List.mem_append_right _ (List.mem_append_left _ (List.mem_of_getElem? hdd)))
            walk_at "ro"
            refine ks _ _ fr4 (fun e' f' o' => ?_) (fun n ob => ?_) (c3.upd (fr.mine dd ddm))
            · rw [offN_set n4, b6]
              by_cases q1 : e' = o
              · subst q1
                rw [if_pos rfl]
                by_cases q2 : f' = g
                · subst q2
                  rw [if_pos rfl]
                  show getR (dropR rl e) o' = _
                  rw [get_drop, eof, b2]
                  by_cases q3 : o' = e
                  · rw [if_pos q3, if_pos ⟨rfl, rfl, q3⟩]
                  · rw [if_neg q3, if_neg (fun z => q3 z.2.2)]; rfl
                · rw [if_neg q2, if_neg (fun z => q2 z.2.1), eof]
              · rw [if_neg q1, if_neg (fun z => q1 z.1)]
            · obtain ⟨oz1, oz2⟩ := ob _ (List.mem_of_getElem? hl)
              refine ob.set0 (by rw [List.length_set]; exact oz1) fun p hp => ?_
              rcases List.mem_or_eq_of_mem_set hp with z | z
              · exact oz2 p z
              · rw [z]
                exact Nat.le_trans (dropR_len rl e) (oz2 _ (List.mem_of_getElem? b4))
end
end My

namespace My
open PySem L2
local macro_rules | `(tactic| walk_at "ne") => `(tactic| first | assumption | exact Ne.symm (by assumption) | exact ne_of_none (by assumption) (by assumption) | exact Ne.symm (ne_of_none (by assumption) (by assumption)))
local macro_rules | `(tactic| walk_at "hp") => `(tactic| first | assumption | with_reducible exact upd_same | (with_reducible refine Eq.trans (upd_ne ?_) ?_; rotate_left; walk_at "hp"; walk_at "ne"))
local macro_rules | `(tactic| walk_at "cnd") => `(tactic| first | omega | (show (0 : Int) < _; omega) | exact ⟨by omega, by omega⟩ | exact Or.inl ⟨by omega, by omega⟩ | exact Or.inr ⟨by omega, by omega⟩ | exact ⟨by omega, by omega, by decide⟩ | exact ⟨by omega, by omega, by omega⟩)
local macro_rules | `(tactic| walk_at "at") => `(tactic| first | exact atC 0 rfl rfl | exact atC 1 rfl rfl | exact atC 2 rfl rfl | exact atC 3 rfl rfl | exact atC 4 rfl rfl | exact atC 5 rfl rfl | exact atC 6 rfl rfl | exact atC 7 rfl rfl)
local macro_rules | `(tactic| walk_at "ix") => `(tactic| first | exact ixC 0 rfl (Nat.le_of_ble_eq_true rfl) | exact ixC 1 rfl (Nat.le_of_ble_eq_true rfl) | exact ixC 2 rfl (Nat.le_of_ble_eq_true rfl) | exact ixC 3 rfl (Nat.le_of_ble_eq_true rfl) | exact ixC 4 rfl (Nat.le_of_ble_eq_true rfl) | exact ixC 5 rfl (Nat.le_of_ble_eq_true rfl))
local macro_rules | `(tactic| walk_at "st") => `(tactic| first
  | refine ⟨_, rfl, ?_⟩
  | refine ⟨_, _, rfl, rfl, (by walk_at "cnd" : (_ : Prop)), ?_⟩
  | refine ⟨_, _, rfl, rfl, ?_⟩
  | refine ⟨rfl, ?_⟩
  | refine Or.inl ⟨_, rfl, ?_⟩
  | refine ⟨_, _, _, _, rfl, rfl, by exact SqL.of (by walk_at "hp"), by walk_at "at", ?_⟩
  | refine ⟨_, _, _, _, rfl, rfl, by exact SqT.of (by walk_at "hp"), by walk_at "at", ?_⟩
  | refine ⟨_, _, _, _, rfl, rfl, by walk_at "hp", by walk_at "ix", ?_⟩
  | refine ⟨_, _, rfl, Or.inl (by exact SqL.of (by walk_at "hp")), ?_⟩
  | refine ⟨_, _, rfl, Or.inr (by exact SqT.of (by walk_at "hp")), ?_⟩)
local macro_rules | `(tactic| walk_at "so") => `(tactic| first
  | refine ⟨_, _, _, _, _, rfl, by walk_at "hp", by assumption, by assumption, rfl, ?_⟩
  | refine ⟨_, _, _, _, rfl, by walk_at "hp", by assumption, by assumption, Nat.le_of_ble_eq_true rfl, ?_⟩
  | refine ⟨_, _, _, rfl, by walk_at "hp", rfl, ?_⟩
  | walk_at "st")
local macro_rules | `(tactic| walk_at "ro") => `(tactic| repeat walk_at "so")
local macro_rules | `(tactic| walk_at "run") => `(tactic| repeat walk_at "st")

/-! ### a row of new things of one kind -/
section
variable {K : PySem.W.Frag} {g : TG} {te : TE} {vs : List Nat} {σ : L2.St} {H : Hp} {D : Addr} {Qd : Hp → Prop}
theorem lcRow {lo : Int} {n : Nat} {ob : HO} (hz : n < 100000) (hD : H D = none)
    (step : ∀ (j : Nat) (H1 : Hp) (Q' : VK), Same H H1 → (∀ q H2, H1 q = none → Same H1 H2 → H2 q = some ob → Q' (.ref q) H2) → g (.int (lo + j)) (wipe σ vs) H1 fun σ2 H2 => wipe σ2 vs = wipe σ vs ∧ te σ2 H2 Q')
    (k : ∀ H1 (ws : List Addr), Same H H1 → H1 D = some (.lst (ws.map V.ref)) → ws.length = n → (∀ w ∈ ws, H1 w = some ob ∧ H w = none ∧ w ≠ D) → ws.Nodup → Qd H1) :
    ∃ W : Nat → Nat → Hp → Prop, (∃ m, W 0 m (upd H D (.lst []))) ∧ ∀ i m H, W i m H →
      ((Itr lo n).stop i H ∧ Qd H) ∨ ((Itr lo n).go i H ∧ ∃ Nx : Hp → Prop, (∀ H', Nx H' → ∃ m', m' < m ∧ W (i + 1) m' H') ∧ ∀ x H', (Itr lo n).yld i H x H' → g x (wipe σ vs) H' fun σ2 H2 => wipe σ2 vs = wipe σ vs ∧ tYes σ2 H2 fun b H3 =>
        if b = true then te σ2 H3 fun y H4 => ∃ acc, H4 D = some (.lst acc) ∧ acc.length < sizeLine ∧ Nx (upd H4 D (.lst (acc ++ [y]))) else Nx H3) := by
  refine lc_range (fun i H1 => ∃ ws : List Addr, Same H H1 ∧ H1 D = some (.lst (ws.map V.ref)) ∧ ws.length = i ∧ (∀ w ∈ ws, H1 w = some ob ∧ H w = none ∧ w ≠ D) ∧ ws.Nodup) ⟨[], Same.new hD, upd_same, rfl, fun w hw => (by cases hw), List.nodup_nil⟩ ?_ ?_
  · rintro i H1 hi ⟨ws, s1, d1, l1, a1, n1⟩
    refine step i H1 _ s1 fun q H2 hq s2 hb => ?_
    have qD : q ≠ D := fun z => by rw [z, d1] at hq; cases hq
    refine ⟨_, s2 _ _ d1, by rw [List.length_map, l1]; exact szt (by omega), ws ++ [q], Same.mut (s1.trans s2) hD, by rw [upd_same, List.map_append]; rfl, by rw [List.length_append, l1]; rfl, fun w hw => ?_, ?_⟩
    · rcases List.mem_append.mp hw with z | z
      · obtain ⟨b1, b2, b3⟩ := a1 w z
        exact ⟨by rw [upd_ne b3]; exact s2 _ _ b1, b2, b3⟩
      · rw [List.mem_singleton.mp z]
        refine ⟨by rw [upd_ne qD]; exact hb, ?_, qD⟩
        cases y : H q with
        | none => rfl
        | some o => rw [s1 _ _ y] at hq; cases hq
    · refine List.nodup_append.mpr ⟨n1, by simp, fun a ha b hb z => ?_⟩
      rw [List.mem_singleton.mp hb] at z
      rw [← z, (a1 a ha).1] at hq
      cases hq
  · rintro H1 ⟨ws, s1, d1, l1, a1, n1⟩
    exact k H1 ws s1 d1 l1 a1 n1
end
theorem nd_app {l1 l2 : List Addr} {H : Hp} (n1 : l1.Nodup) (n2 : l2.Nodup) (a1 : ∀ b ∈ l1, H b ≠ none) (a2 : ∀ b ∈ l2, H b = none) : (l1 ++ l2).Nodup :=
  List.nodup_append.mpr ⟨n1, n2, fun a ha b hb z => a1 a ha (by rw [z]; exact a2 b hb)⟩
theorem al_chg {x : Addr} {L : List Addr} {H H' : Hp} (a : ∀ b ∈ L, H b ≠ none) (c : Chg x H H') (hx : H' x ≠ none) : ∀ b ∈ L, H' b ≠ none := by
  intro b hb
  by_cases z : b = x
  · rw [z]; exact hx
  · cases y : H b with
    | none => exact absurd y (a b hb)
    | some o => rw [c b o z y]; exact fun q => by cases q
theorem al_app {L M : List Addr} {H : Hp} (a : ∀ b ∈ L, H b ≠ none) (a2 : ∀ b ∈ M, H b ≠ none) : ∀ b ∈ L ++ M, H b ≠ none := fun b hb => (List.mem_append.mp hb).elim (a b) (a2 b)
theorem none_back {x b : Addr} {H H' : Hp} (c : Chg x H H') (n : b ≠ x) (h : H' b = none) : H b = none := by
  cases y : H b with
  | none => rfl
  | some o => rw [c b o n y] at h; cases h
theorem cons_none {D : Addr} {ws : List Addr} {H : Hp} (h : H D = none) (a : ∀ w ∈ ws, H w = none) : ∀ b ∈ D :: ws, H b = none := fun b hb => (List.mem_cons.mp hb).elim (fun z => by rw [z]; exact h) (a b)
theorem own_perm (x W S R O A E T : Addr) (wds rds ods tks : List Addr) : ([x, W, S, R, O, A, E, T] ++ (wds ++ (rds ++ (ods ++ (tks ++ ([] : List Addr)))))).Perm (((((((([x] ++ (W :: wds)) ++ [S]) ++ (R :: rds)) ++ (O :: ods)) ++ [A]) ++ [E]) ++ (T :: tks))) := by
  refine List.perm_iff_count.mpr fun b => ?_
  simp only [List.count_append, List.count_cons, List.count_nil]
  omega
def spShares : Sp := fun vs H Q _ => ∃ (l : Addr) (ns : List Nat), vs = [.ref l] ∧ NsL H l ns ∧ ns.length = 4 ∧ ∀ H', Same H H' → Q (.bl true) H'
def initS (m : Nat) (sh : List Nat) : FS := ⟨m, sh, List.replicate 4 0, List.replicate 4 0, List.replicate 4 [], List.replicate 4 [], List.replicate 4 [], List.replicate m (List.replicate 8 0)⟩
def spInitF (C : Addr) : Sp := fun vs H Q _ => ∃ (x dx l : Addr) (m : Nat) (sh : List Nat), vs = [.ref x, .int (m : Int), .ref l] ∧ H x = some (.ins C dx []) ∧ NsL H l sh ∧ sh.length = 4 ∧ 8 ≤ m ∧ m ≤ 64 ∧ sh.sum ≤ m ∧
  ∀ a H', Fr C (fun b => b = x ∨ H b = none) H' x a (initS m sh) → Chg x H H' → Q .non H'
section
variable {P : Program} {w : World} {K : PySem.W.Frag} {mg : Str → Option Value} {base : Heap} {C_Frames C_NotValid : Addr}
abbrev s_are_shares : Stmt := topS 18
abbrev ns_are_shares : List Str := ["value", "share"]
theorem sc_are_shares : FnScope ns_are_shares ["value"] (defScope s_are_shares) := ⟨rfl, rfl, rfl, by decide +kernel, rfl, by decide +kernel, by decide +kernel⟩

theorem ok_are_shares {f : Addr} {fd : FuncData} (F : Fun K "are_shares" "are_shares" s_are_shares f fd) (T : Txt K mg C_Frames C_NotValid) (D_is_at_least : Dfn P w K mg base CX0 1 "is_at_least" ["value", "least"] spGe) : FnOk P w K mg base CX0 2 f fd ["value"] spShares := by
  refine F.ok sc_are_shares (fun vs H Q E h => ?_) (fun cdv A outer s H vs Q E hr h => ?_)
  · obtain ⟨l, ns, rfl, _⟩ := h
    rfl
  · obtain ⟨l, ns, rfl, hl, n4, k⟩ := h
    have hl : H l = some (.lst (ns.map vN)) := hl
    refine ⟨_, (pss_cons (ps_if (PW.pt (pw_or (pt_not (pt_val (pe_callB (kIsi K) (by rfl) T.b_isinstance (by decide +kernel) (pa_cons (pv 0) (pa_cons (pe_bltn (v := .ty "list") (by rfl) T.b_list (by decide +kernel) rfl) pa_nil))))) (pw_or1 (pt_cmpR op_ne (pe_callB (kLen K) (by rfl) T.b_len (by decide +kernel) (pa_cons (pv 0) pa_nil)) (pe_gint (by rfl) T.c_ENVIRONMENTS) (nomark _))))) (pss_one (ps_ret pe_bl)) pss_nil)
  (pss_one (ps_ret (pe_callB (kAll K rfl) (by rfl) T.b_all (by decide +kernel) (pa_cons (pe_lc (own := [("share", 1)]) (by rfl) sc_are_shares.nd (kpiL K (pv 0)) (blkOk_by (N := ns_are_shares) (sc := defScope s_are_shares) (by decide +kernel)) (fun _ _ _ _ _ => (pg_name (i := 1) sc_are_shares.nd rfl (Or.inl rfl))) (fun _ _ _ _ _ => pts_nil) (fun _ _ _ _ _ => (pe_dcall D_is_at_least (hr.mono (by decide)) (by rfl) pass0 (pa_cons (pv 1) (pa_cons pe_int pa_nil))))) pa_nil))))), ?_⟩
    walk_at "ro"
    refine ⟨_, _, _, _, _, rfl, .ty _, .base (.lst hl), kit_ty (by decide +kernel : kitB "list" "list" = some true), _, rfl, ?_⟩
    refine iteF ?_
    walk_at "ro"
    refine iteDn (fun q => absurd (by rw [List.length_map, n4]; rfl) q) (fun _ => ?_)
    walk_at "ro"
    refine ⟨⟨_, SqL.of hl⟩, fun D hD => ?_⟩
    refine lcL (xs := ns.map vN) ((List.replicate 4 true).map V.bl) (by simp [n4]) (by rw [List.length_map, n4]; decide) hl hD ?_ ?_
    · intro j y z H2 Q' hy hz s2 q
      have hj : j < ns.length := by
        have := (List.getElem?_eq_some_iff.mp hy).1
        rw [List.length_map] at this
        exact this
      have ey : y = .int ((ns[j] : Nat) : Int) := by
        rw [List.getElem?_map, List.getElem?_eq_getElem hj] at hy
        exact (Option.some.inj hy).symm
      have ez : z = .bl true := by
        rw [List.map_replicate] at hz
        obtain ⟨h1, h2⟩ := List.getElem?_eq_some_iff.mp hz
        rw [← h2, List.getElem_replicate]
      subst ey ez
      refine ⟨rfl, ?_⟩
      walk_at "ro"
      refine ⟨_, _, _, rfl, .int _, ?_⟩
      have : geI (.int ((ns[j] : Nat) : Int)) 0 = true := by
        show decide ((0 : Int) ≤ ((ns[j] : Nat) : Int)) = true
        exact decide_eq_true (by omega)
      rw [this]
      exact q H2 (Same.refl _)
    · intro H2 s2 d2
      walk_at "ro"
      refine ⟨D, _, rfl, SqL.of d2, ?_⟩
      exact k _ s2
abbrev s_Frames_init : Stmt := inClass (topS 19) 0
abbrev ns_Frames_init : List Str := ["self", "many", "shares", "_"]
theorem sc_Frames_init : FnScope ns_Frames_init ["self", "many", "shares"] (defScope s_Frames_init) := ⟨rfl, rfl, rfl, by decide +kernel, rfl, by decide +kernel, by decide +kernel⟩

theorem ok_Frames_init {f : Addr} {fd : FuncData} (F : Fun K "__init__" "Frames.__init__" s_Frames_init f fd) (T : Txt K mg C_Frames C_NotValid) (D_is_between : Dfn P w K mg base CX0 2 "is_between" ["value", "least", "most"] spBtw) (D_are_shares : Dfn P w K mg base CX0 2 "are_shares" ["value"] spShares) : FnOk P w K mg base (L2.CX P w) 3 f fd ["self", "many", "shares"] (spInitF C_Frames) := by
  have ho_Frames := T.o_Frames; have hn_Frames__words := T.n_Frames__words; have hn_Frames__shares := T.n_Frames__shares; have hn_Frames__rights := T.n_Frames__rights; have hn_Frames__offers := T.n_Frames__offers; have hn_Frames__asked := T.n_Frames__asked; have hn_Frames__ends_to_wait := T.n_Frames__ends_to_wait; have hn_Frames__taken := T.n_Frames__taken
  refine F.okX sc_Frames_init (fun vs H Q E h => ?_) (fun cdv A outer s H vs Q E hr h => ?_)
  · obtain ⟨x, dx, l, m, sh, rfl, _⟩ := h
    rfl
  · obtain ⟨x, dx, l, m, sh, rfl, hx, hl, sl, m8, m64, hs, k⟩ := h
    have hl : H l = some (.lst (sh.map vN)) := hl
    refine ⟨_, (pss_cons (ps_if (PW.pt (pw_or (pt_not (pt_val (pe_dcall D_is_between (hr.mono (by decide)) (by rfl) pass0 (pa_cons (pv 1) (pa_cons (pe_gint (by rfl) T.c__LEAST_FRAMES) (pa_cons (pe_gint (by rfl) T.c__MOST_FRAMES) pa_nil)))))) (pw_or1 (pt_not (pt_val (pe_dcall D_are_shares (hr.mono (by decide)) (by rfl) pass0 (pa_cons (pv 2) pa_nil))))))) (pss_one (ps_raise (by rfl) (takes_of rfl rfl rfl rfl) (pmk_x T.x_NotValid (by rfl)))) pss_nil)
  (pss_cons (ps_if (pt_cmpR op_gt (pe_callB (kSum K rfl) (by rfl) T.b_sum (by decide +kernel) (pa_cons (pv 2) pa_nil)) (pv 1) (nomark _)) (pss_one (ps_raise (by rfl) (takes_of rfl rfl rfl rfl) (pmk_x T.x_NotValid (by rfl)))) pss_nil)
  (pss_cons (kSFld K (pv 0) (pe_lc (own := [("_", 3)]) (by rfl) sc_Frames_init.nd (pi_range1 (by rfl) T.b_range (pa_cons (pv 1) pa_nil)) (blkOk_by (N := ns_Frames_init) (sc := defScope s_Frames_init) (by decide +kernel)) (fun _ _ _ _ _ => (pg_name (i := 3) sc_Frames_init.nd rfl (Or.inl rfl))) (fun _ _ _ _ _ => pts_nil) (fun _ _ _ _ _ => (pe_op op_rep (pe_lst (pa_cons pe_int pa_nil)) (pe_gint (by rfl) T.c_WORDS)))) rfl)
  (pss_cons (kSFld K (pv 0) (pe_callTy (kListOf K) (by rfl) T.b_list (by decide +kernel) (pa_cons (pv 2) pa_nil)) rfl)
  (pss_cons (kSFld K (pv 0) (pe_lc (own := [("_", 3)]) (by rfl) sc_Frames_init.nd (pi_range1 (by rfl) T.b_range (pa_cons (pe_gint (by rfl) T.c_ENVIRONMENTS) pa_nil)) (blkOk_by (N := ns_Frames_init) (sc := defScope s_Frames_init) (by decide +kernel)) (fun _ _ _ _ _ => (pg_name (i := 3) sc_Frames_init.nd rfl (Or.inl rfl))) (fun _ _ _ _ _ => pts_nil) (fun _ _ _ _ _ => pe_dnewK)) rfl)
  (pss_cons (kSFld K (pv 0) (pe_lc (own := [("_", 3)]) (by rfl) sc_Frames_init.nd (pi_range1 (by rfl) T.b_range (pa_cons (pe_gint (by rfl) T.c_ENVIRONMENTS) pa_nil)) (blkOk_by (N := ns_Frames_init) (sc := defScope s_Frames_init) (by decide +kernel)) (fun _ _ _ _ _ => (pg_name (i := 3) sc_Frames_init.nd rfl (Or.inl rfl))) (fun _ _ _ _ _ => pts_nil) (fun _ _ _ _ _ => pe_dnewK)) rfl)
  (pss_cons (kSFld K (pv 0) (pe_op op_rep (pe_lst (pa_cons pe_int pa_nil)) (pe_gint (by rfl) T.c_ENVIRONMENTS)) rfl)
  (pss_cons (kSFld K (pv 0) (pe_op op_rep (pe_lst (pa_cons pe_int pa_nil)) (pe_gint (by rfl) T.c_ENVIRONMENTS)) rfl)
  (pss_one (kSFld K (pv 0) (pe_lc (own := [("_", 3)]) (by rfl) sc_Frames_init.nd (pi_range1 (by rfl) T.b_range (pa_cons (pe_gint (by rfl) T.c_ENVIRONMENTS) pa_nil)) (blkOk_by (N := ns_Frames_init) (sc := defScope s_Frames_init) (by decide +kernel)) (fun _ _ _ _ _ => (pg_name (i := 3) sc_Frames_init.nd rfl (Or.inl rfl))) (fun _ _ _ _ _ => pts_nil) (fun _ _ _ _ _ => (pe_lst pa_nil))) rfl)))))))))), ?_⟩
    walk_at "ro"
    refine ⟨_, .int (m : Int), _, _, rfl, .int _, _, rfl, ?_⟩
    have eb : isI (.int (m : Int)) 8 64 = true := by
      show (decide ((8 : Int) ≤ (m : Int)) && decide ((m : Int) ≤ 64)) = true
      rw [decide_eq_true (by omega), decide_eq_true (by omega)]; rfl
    rw [eb]
    refine iteF ?_
    walk_at "ro"
    refine ⟨l, sh, rfl, hl, sl, fun H1 s1 => ⟨_, rfl, ?_⟩⟩
    refine iteF ?_
    have hl1 := s1 _ _ hl
    have hx1 := s1 _ _ hx
    walk_at "ro"
    refine ⟨l, sh.map fun n : Nat => (n : Int), rfl, SqL.of (by rw [vN_map]; exact hl1), ?_⟩
    rw [sum_nat]
    walk_at "ro"
    refine iteD (fun q => absurd q (by omega)) (fun _ => ?_)
    have c0 : Chg x H H1 := Same.chg s1
    walk_at "ro"
    -- words
    refine ⟨by omega, by omega, fun W hW => ?_⟩
    refine lcRow (ob := .lst ((List.replicate 8 0).map vN)) (by omega) hW ?_ ?_
    · intro j H2 Q' s2 q
      refine ⟨rfl, ?_⟩
      walk_at "ro"
      refine ⟨szl rfl, fun q1 hq1 => ?_⟩
      walk_at "ro"
      refine ⟨_, _, _, rfl, rfl, upd_same, by decide, by decide, by decide, fun q2 hq2 => ?_⟩
      refine q q2 _ ?_ ((Same.new hq1).trans (Same.new hq2)) upd_same
      cases z : H2 q2 with
      | none => rfl
      | some o =>
        have := (Same.new (o := .lst [V.int 0]) hq1) _ _ z
        rw [hq2] at this; cases this
    intro H2 wds s2 dW lw aw nw
    rw [Int.toNat_natCast] at lw
    have hx2 := s2 _ _ hx1
    have hl2 := s2 _ _ hl1
    have xl : l ≠ x := fun z => by rw [z, hx1] at hl1; cases hl1
    have xW : W ≠ x := fun z => by rw [z, hx1] at hW; cases hW
    have xw : ∀ b ∈ wds, b ≠ x := fun b hb z => by have := (aw b hb).2.1; rw [z, hx1] at this; cases this
    walk_at "ro"
    have k23 : Chg x H2 (upd H2 x (.ins C_Frames dx (putF "_words" (.ref W) []))) := Chg.upd
    have hx3 : (upd H2 x (.ins C_Frames dx (putF "_words" (.ref W) []))) x = some (.ins C_Frames dx [("_words", .ref W)]) := upd_same
    generalize upd H2 x (.ins C_Frames dx (putF "_words" (.ref W) [])) = H3 at k23 hx3 ⊢
    have c3 : Chg x H H3 := (c0.trans (Same.chg s2)).trans k23
    refine fun S hS => ?_
    have s4 : Same H3 (upd H3 S (.lst (sh.map vN))) := Same.new hS
    have dS : (upd H3 S (.lst (sh.map vN))) S = some (.lst (sh.map vN)) := upd_same
    have xS : S ≠ x := fun z => by rw [z, hx3] at hS; cases hS
    generalize upd H3 S (.lst (sh.map vN)) = H4 at s4 dS ⊢
    have hx4 := s4 _ _ hx3
    walk_at "ro"
    have k45 : Chg x H4 (upd H4 x (.ins C_Frames dx (putF "_shares" (.ref S) [("_words", .ref W)]))) := Chg.upd
    have hx5 : (upd H4 x (.ins C_Frames dx (putF "_shares" (.ref S) [("_words", .ref W)]))) x = some (.ins C_Frames dx [("_words", .ref W), ("_shares", .ref S)]) := upd_same
    generalize upd H4 x (.ins C_Frames dx (putF "_shares" (.ref S) [("_words", .ref W)])) = H5 at k45 hx5 ⊢
    have k35 : Chg x H3 H5 := (Same.chg s4).trans k45
    have c5 : Chg x H H5 := c3.trans k35
    refine ⟨by omega, by omega, fun R hR => ?_⟩
    refine lcRow (ob := .dK []) (by decide) hR ?_ ?_
    · intro j H2 Q' s2 q
      refine ⟨rfl, ?_⟩
      exact fun q1 hq1 => q q1 _ hq1 (Same.new hq1) upd_same
    intro H6 rds s6 dR lr ar nr
    have hx6 := s6 _ _ hx5
    have xR : R ≠ x := fun z => by rw [z, hx5] at hR; cases hR
    have xr : ∀ b ∈ rds, b ≠ x := fun b hb z => by have := (ar b hb).2.1; rw [z, hx5] at this; cases this
    walk_at "ro"
    have k67 : Chg x H6 (upd H6 x (.ins C_Frames dx (putF "_rights" (.ref R) [("_words", .ref W), ("_shares", .ref S)]))) := Chg.upd
    have hx7 : (upd H6 x (.ins C_Frames dx (putF "_rights" (.ref R) [("_words", .ref W), ("_shares", .ref S)]))) x = some (.ins C_Frames dx [("_words", .ref W), ("_shares", .ref S), ("_rights", .ref R)]) := upd_same
    generalize upd H6 x (.ins C_Frames dx (putF "_rights" (.ref R) [("_words", .ref W), ("_shares", .ref S)])) = H7 at k67 hx7 ⊢
    have k57 : Chg x H5 H7 := (Same.chg s6).trans k67
    have c7 : Chg x H H7 := c5.trans k57
    refine ⟨by omega, by omega, fun O hO => ?_⟩
    refine lcRow (ob := .dK []) (by decide) hO ?_ ?_
    · intro j H2 Q' s2 q
      refine ⟨rfl, ?_⟩
      exact fun q1 hq1 => q q1 _ hq1 (Same.new hq1) upd_same
    intro H8 ods s8 dO lo ao no
    have hx8 := s8 _ _ hx7
    have xO : O ≠ x := fun z => by rw [z, hx7] at hO; cases hO
    have xo : ∀ b ∈ ods, b ≠ x := fun b hb z => by have := (ao b hb).2.1; rw [z, hx7] at this; cases this
    walk_at "ro"
    have k89 : Chg x H8 (upd H8 x (.ins C_Frames dx (putF "_offers" (.ref O) [("_words", .ref W), ("_shares", .ref S), ("_rights", .ref R)]))) := Chg.upd
    have hx9 : (upd H8 x (.ins C_Frames dx (putF "_offers" (.ref O) [("_words", .ref W), ("_shares", .ref S), ("_rights", .ref R)]))) x = some (.ins C_Frames dx [("_words", .ref W), ("_shares", .ref S), ("_rights", .ref R), ("_offers", .ref O)]) := upd_same
    generalize upd H8 x (.ins C_Frames dx (putF "_offers" (.ref O) [("_words", .ref W), ("_shares", .ref S), ("_rights", .ref R)])) = H9 at k89 hx9 ⊢
    have k79 : Chg x H7 H9 := (Same.chg s8).trans k89
    have c9 : Chg x H H9 := c7.trans k79
    refine ⟨szl rfl, fun q1 hq1 => ?_⟩
    walk_at "ro"
    refine ⟨_, _, _, rfl, rfl, upd_same, by decide, by decide, by decide, fun A1 hA1 => ?_⟩
    have s10 := (Same.new (o := .lst [V.int 0]) hq1).trans (Same.new (o := .lst (List.replicate (Int.toNat 4) [V.int 0]).flatten) hA1)
    have dA : (upd (upd H9 q1 (.lst [V.int 0])) A1 (.lst (List.replicate (Int.toNat 4) [V.int 0]).flatten)) A1 = some (.lst ((List.replicate 4 0).map vN)) := upd_same
    have hA : H9 A1 = none := by
      cases z : H9 A1 with
      | none => rfl
      | some o => rw [(Same.new (o := .lst [V.int 0]) hq1) _ _ z] at hA1; cases hA1
    have xA : A1 ≠ x := fun z => by rw [z, hx9] at hA; cases hA
    generalize upd (upd H9 q1 (.lst [V.int 0])) A1 (.lst (List.replicate (Int.toNat 4) [V.int 0]).flatten) = H10 at s10 dA ⊢
    have hx10 := s10 _ _ hx9
    walk_at "ro"
    have k1011 : Chg x H10 (upd H10 x (.ins C_Frames dx (putF "_asked" (.ref A1) [("_words", .ref W), ("_shares", .ref S), ("_rights", .ref R), ("_offers", .ref O)]))) := Chg.upd
    have hx11 : (upd H10 x (.ins C_Frames dx (putF "_asked" (.ref A1) [("_words", .ref W), ("_shares", .ref S), ("_rights", .ref R), ("_offers", .ref O)]))) x = some (.ins C_Frames dx [("_words", .ref W), ("_shares", .ref S), ("_rights", .ref R), ("_offers", .ref O), ("_asked", .ref A1)]) := upd_same
    generalize upd H10 x (.ins C_Frames dx (putF "_asked" (.ref A1) [("_words", .ref W), ("_shares", .ref S), ("_rights", .ref R), ("_offers", .ref O)])) = H11 at k1011 hx11 ⊢
    have k911 : Chg x H9 H11 := (Same.chg s10).trans k1011
    have c11 : Chg x H H11 := c9.trans k911
    walk_at "ro"
    refine ⟨szl rfl, fun q2 hq2 => ?_⟩
    walk_at "ro"
    refine ⟨_, _, _, rfl, rfl, upd_same, by decide, by decide, by decide, fun E1 hE1 => ?_⟩
    have s12 := (Same.new (o := .lst [V.int 0]) hq2).trans (Same.new (o := .lst (List.replicate (Int.toNat 4) [V.int 0]).flatten) hE1)
    have dE : (upd (upd H11 q2 (.lst [V.int 0])) E1 (.lst (List.replicate (Int.toNat 4) [V.int 0]).flatten)) E1 = some (.lst ((List.replicate 4 0).map vN)) := upd_same
    have hE : H11 E1 = none := by
      cases z : H11 E1 with
      | none => rfl
      | some o => rw [(Same.new (o := .lst [V.int 0]) hq2) _ _ z] at hE1; cases hE1
    have xE : E1 ≠ x := fun z => by rw [z, hx11] at hE; cases hE
    generalize upd (upd H11 q2 (.lst [V.int 0])) E1 (.lst (List.replicate (Int.toNat 4) [V.int 0]).flatten) = H12 at s12 dE ⊢
    have hx12 := s12 _ _ hx11
    walk_at "ro"
    have k1213 : Chg x H12 (upd H12 x (.ins C_Frames dx (putF "_ends_to_wait" (.ref E1) [("_words", .ref W), ("_shares", .ref S), ("_rights", .ref R), ("_offers", .ref O), ("_asked", .ref A1)]))) := Chg.upd
    have hx13 : (upd H12 x (.ins C_Frames dx (putF "_ends_to_wait" (.ref E1) [("_words", .ref W), ("_shares", .ref S), ("_rights", .ref R), ("_offers", .ref O), ("_asked", .ref A1)]))) x = some (.ins C_Frames dx [("_words", .ref W), ("_shares", .ref S), ("_rights", .ref R), ("_offers", .ref O), ("_asked", .ref A1), ("_ends_to_wait", .ref E1)]) := upd_same
    generalize upd H12 x (.ins C_Frames dx (putF "_ends_to_wait" (.ref E1) [("_words", .ref W), ("_shares", .ref S), ("_rights", .ref R), ("_offers", .ref O), ("_asked", .ref A1)])) = H13 at k1213 hx13 ⊢
    have k1113 : Chg x H11 H13 := (Same.chg s12).trans k1213
    have c13 : Chg x H H13 := c11.trans k1113
    walk_at "ro"
    refine ⟨by omega, by omega, fun T1 hT => ?_⟩
    refine lcRow (ob := .lst []) (by decide) hT ?_ ?_
    · intro j H2 Q' s2 q
      refine ⟨rfl, ?_⟩
      walk_at "ro"
      refine ⟨szl rfl, fun q1 hq1 => ?_⟩
      exact q q1 _ hq1 (Same.new hq1) upd_same
    intro H14 tks s14 dT lt at' nt
    have hx14 := s14 _ _ hx13
    have xT : T1 ≠ x := fun z => by rw [z, hx13] at hT; cases hT
    have xt : ∀ b ∈ tks, b ≠ x := fun b hb z => by have := (at' b hb).2.1; rw [z, hx13] at this; cases this
    walk_at "ro"
    have k1415 : Chg x H14 (upd H14 x (.ins C_Frames dx (putF "_taken" (.ref T1) [("_words", .ref W), ("_shares", .ref S), ("_rights", .ref R), ("_offers", .ref O), ("_asked", .ref A1), ("_ends_to_wait", .ref E1)]))) := Chg.upd
    have hx15 : (upd H14 x (.ins C_Frames dx (putF "_taken" (.ref T1) [("_words", .ref W), ("_shares", .ref S), ("_rights", .ref R), ("_offers", .ref O), ("_asked", .ref A1), ("_ends_to_wait", .ref E1)]))) x = some (.ins C_Frames dx [("_words", .ref W), ("_shares", .ref S), ("_rights", .ref R), ("_offers", .ref O), ("_asked", .ref A1), ("_ends_to_wait", .ref E1), ("_taken", .ref T1)]) := upd_same
    generalize upd H14 x (.ins C_Frames dx (putF "_taken" (.ref T1) [("_words", .ref W), ("_shares", .ref S), ("_rights", .ref R), ("_offers", .ref O), ("_asked", .ref A1), ("_ends_to_wait", .ref E1)])) = H15 at k1415 hx15 ⊢
    have k1315 : Chg x H13 H15 := (Same.chg s14).trans k1415
    have c15 : Chg x H H15 := c13.trans k1315
    -- all of it
    have k1215 := k1213.trans k1315
    have k1115 := k1113.trans k1315
    have k1015 := k1011.trans k1115
    have k915 := k911.trans k1115
    have k815 := k89.trans k915
    have k715 := k79.trans k915
    have k615 := k67.trans k715
    have k515 := k57.trans k715
    have k415 := k45.trans k515
    have k315 := k35.trans k515
    have k215 := k23.trans k315
    have some_ne : ∀ {Hx : Hp} {b : Addr} {o : HO}, Hx b = some o → Hx b ≠ none := fun h => by rw [h]; exact fun z => by cases z
    have A0 : ∀ b ∈ [x], H1 b ≠ none := fun b hb => by rw [List.mem_singleton.mp hb]; exact some_ne hx1
    have W2 : ∀ b ∈ W :: wds, H2 b ≠ none := fun b hb => (List.mem_cons.mp hb).elim (fun z => by rw [z]; exact some_ne dW) (fun z => some_ne (aw b z).1)
    have A1' := al_app (al_chg A0 ((Same.chg s2).trans k23) (some_ne hx3)) (al_chg W2 k23 (some_ne hx3))
    have N1 := nd_app (l1 := [x]) (l2 := W :: wds) (by simp) (List.nodup_cons.mpr ⟨fun z => (aw W z).2.2 rfl, nw⟩) A0 (cons_none hW fun w hw => (aw w hw).2.1)
    have N2 := nd_app N1 (l2 := [S]) (by simp) A1' (cons_none hS fun w hw => (by cases hw))
    have S4 : ∀ b ∈ [S], H4 b ≠ none := fun b hb => by rw [List.mem_singleton.mp hb]; exact some_ne dS
    have A2 := al_app (al_chg A1' k35 (some_ne hx5)) (al_chg S4 k45 (some_ne hx5))
    have N3 := nd_app N2 (l2 := R :: rds) (List.nodup_cons.mpr ⟨fun z => (ar R z).2.2 rfl, nr⟩) A2 (cons_none hR fun w hw => (ar w hw).2.1)
    have R6 : ∀ b ∈ R :: rds, H6 b ≠ none := fun b hb => (List.mem_cons.mp hb).elim (fun z => by rw [z]; exact some_ne dR) (fun z => some_ne (ar b z).1)
    have A3 := al_app (al_chg A2 k57 (some_ne hx7)) (al_chg R6 k67 (some_ne hx7))
    have N4 := nd_app N3 (l2 := O :: ods) (List.nodup_cons.mpr ⟨fun z => (ao O z).2.2 rfl, no⟩) A3 (cons_none hO fun w hw => (ao w hw).2.1)
    have O8 : ∀ b ∈ O :: ods, H8 b ≠ none := fun b hb => (List.mem_cons.mp hb).elim (fun z => by rw [z]; exact some_ne dO) (fun z => some_ne (ao b z).1)
    have A4 := al_app (al_chg A3 k79 (some_ne hx9)) (al_chg O8 k89 (some_ne hx9))
    have N5 := nd_app N4 (l2 := [A1]) (by simp) A4 (cons_none hA fun w hw => (by cases hw))
    have A10 : ∀ b ∈ [A1], H10 b ≠ none := fun b hb => by rw [List.mem_singleton.mp hb]; exact some_ne dA
    have A5 := al_app (al_chg A4 k911 (some_ne hx11)) (al_chg A10 k1011 (some_ne hx11))
    have N6 := nd_app N5 (l2 := [E1]) (by simp) A5 (cons_none hE fun w hw => (by cases hw))
    have E12 : ∀ b ∈ [E1], H12 b ≠ none := fun b hb => by rw [List.mem_singleton.mp hb]; exact some_ne dE
    have A6 := al_app (al_chg A5 k1113 (some_ne hx13)) (al_chg E12 k1213 (some_ne hx13))
    have N7 := nd_app N6 (l2 := T1 :: tks) (List.nodup_cons.mpr ⟨fun z => (at' T1 z).2.2 rfl, nt⟩) A6 (cons_none hT fun w hw => (at' w hw).2.1)
    let a : FA := ⟨dx, W, S, R, O, A1, E1, T1, wds, rds, ods, tks, List.replicate 4 []⟩
    have eo : a.own x = [x, W, S, R, O, A1, E1, T1] ++ (wds ++ (rds ++ (ods ++ (tks ++ ([] : List Addr))))) := rfl
    have nd : (a.own x).Nodup := by rw [eo]; exact (own_perm x W S R O A1 E1 T1 wds rds ods tks).nodup_iff.mpr N7
    have mine : ∀ b ∈ a.own x, b = x ∨ H b = none := by
      intro b hb
      rw [eo] at hb
      have hb := (own_perm x W S R O A1 E1 T1 wds rds ods tks).subset hb
      simp only [List.mem_append, List.mem_cons, List.not_mem_nil, or_false] at hb
      rcases hb with ((((((hb | hb | hb) | hb) | hb | hb) | hb | hb) | hb) | hb) | hb | hb
      · exact .inl hb
      · exact .inr (by rw [hb]; exact none_back c0 xW hW)
      · exact .inr (none_back c0 (xw b hb) (aw b hb).2.1)
      · exact .inr (by rw [hb]; exact none_back c3 xS hS)
      · exact .inr (by rw [hb]; exact none_back c5 xR hR)
      · exact .inr (none_back c5 (xr b hb) (ar b hb).2.1)
      · exact .inr (by rw [hb]; exact none_back c7 xO hO)
      · exact .inr (none_back c7 (xo b hb) (ao b hb).2.1)
      · exact .inr (by rw [hb]; exact none_back c9 xA hA)
      · exact .inr (by rw [hb]; exact none_back c11 xE hE)
      · exact .inr (by rw [hb]; exact none_back c13 xT hT)
      · exact .inr (none_back c13 (xt b hb) (at' b hb).2.1)
    have rep : ∀ {α : Type} {n j : Nat} {u v : α}, (List.replicate n u)[j]? = some v → v = u := fun h => by
      obtain ⟨h1, h2⟩ := List.getElem?_eq_some_iff.mp h
      rw [← h2, List.getElem_replicate]
    refine k a H15 ⟨⟨sl, rfl, rfl, rfl, rfl, rfl, List.length_replicate, m64⟩, nd, mine, hx15, k215 _ _ xW dW, ⟨by rw [lw]; exact List.length_replicate.symm, fun j d l hd hl => ?_⟩, k415 _ _ xS dS, k615 _ _ xR dR, ⟨by rw [lr]; rfl, fun j d l hd hl => ?_⟩, k815 _ _ xO dO, rfl, ⟨by rw [lo]; rfl, fun j d q hd hq => ?_⟩, k1015 _ _ xA dA, k1215 _ _ xE dE, k1415 _ _ xT dT, ⟨by rw [lt]; rfl, fun j d l hd hl => ?_⟩⟩ c15
    · rw [rep hl]
      exact k215 _ _ (xw d (List.mem_of_getElem? hd)) (aw d (List.mem_of_getElem? hd)).1
    · rw [rep hl]
      exact k615 _ _ (xr d (List.mem_of_getElem? hd)) (ar d (List.mem_of_getElem? hd)).1
    · obtain ⟨h8, h9⟩ := List.getElem?_zip_eq_some.mp hq
      have e8 := rep h8
      have e9 := rep h9
      obtain ⟨q1, q2⟩ := q
      have e8 : q1 = [] := e8
      have e9 : q2 = [] := e9
      subst e8 e9
      exact ⟨k815 _ _ (xo d (List.mem_of_getElem? hd)) (ao d (List.mem_of_getElem? hd)).1, rfl, fun j d l hd => (by simp at hd)⟩
    · rw [rep hl]
      exact k1415 _ _ (xt d (List.mem_of_getElem? hd)) (at' d (List.mem_of_getElem? hd)).1
end
end My

namespace My
open PySem L2
local macro_rules | `(tactic| walk_at "ne") => `(tactic| first | assumption | exact Ne.symm (by assumption) | exact ne_of_none (by assumption) (by assumption) | exact Ne.symm (ne_of_none (by assumption) (by assumption)))
local macro_rules | `(tactic| walk_at "hp") => `(tactic| first | assumption | with_reducible exact upd_same | (with_reducible refine Eq.trans (upd_ne ?_) ?_; rotate_left; walk_at "hp"; walk_at "ne"))
local macro_rules | `(tactic| walk_at "cnd") => `(tactic| first | omega | (show (0 : Int) < _; omega) | exact ⟨by omega, by omega⟩ | exact Or.inl ⟨by omega, by omega⟩ | exact Or.inr ⟨by omega, by omega⟩ | exact ⟨by omega, by omega, by decide⟩ | exact ⟨by omega, by omega, by omega⟩)
local macro_rules | `(tactic| walk_at "at") => `(tactic| first | exact atC 0 rfl rfl | exact atC 1 rfl rfl | exact atC 2 rfl rfl | exact atC 3 rfl rfl | exact atC 4 rfl rfl | exact atC 5 rfl rfl | exact atC 6 rfl rfl | exact atC 7 rfl rfl)
local macro_rules | `(tactic| walk_at "ix") => `(tactic| first | exact ixC 0 rfl (Nat.le_of_ble_eq_true rfl) | exact ixC 1 rfl (Nat.le_of_ble_eq_true rfl) | exact ixC 2 rfl (Nat.le_of_ble_eq_true rfl) | exact ixC 3 rfl (Nat.le_of_ble_eq_true rfl) | exact ixC 4 rfl (Nat.le_of_ble_eq_true rfl) | exact ixC 5 rfl (Nat.le_of_ble_eq_true rfl))
local macro_rules | `(tactic| walk_at "st") => `(tactic| first
  | refine ⟨_, rfl, ?_⟩
  | refine ⟨_, _, rfl, rfl, (by walk_at "cnd" : (_ : Prop)), ?_⟩
  | refine ⟨_, _, rfl, rfl, ?_⟩
  | refine ⟨rfl, ?_⟩
  | refine Or.inl ⟨_, rfl, ?_⟩
  | refine ⟨_, _, _, _, rfl, rfl, by exact SqL.of (by walk_at "hp"), by walk_at "at", ?_⟩
  | refine ⟨_, _, _, _, rfl, rfl, by exact SqT.of (by walk_at "hp"), by walk_at "at", ?_⟩
  | refine ⟨_, _, _, _, rfl, rfl, by walk_at "hp", by walk_at "ix", ?_⟩
  | refine ⟨_, _, rfl, Or.inl (by exact SqL.of (by walk_at "hp")), ?_⟩
  | refine ⟨_, _, rfl, Or.inr (by exact SqT.of (by walk_at "hp")), ?_⟩)
local macro_rules | `(tactic| walk_at "so") => `(tactic| first
  | refine ⟨_, _, _, _, _, rfl, by walk_at "hp", by assumption, by assumption, rfl, ?_⟩
  | refine ⟨_, _, _, _, rfl, by walk_at "hp", by assumption, by assumption, Nat.le_of_ble_eq_true rfl, ?_⟩
  | refine ⟨_, _, _, rfl, by walk_at "hp", rfl, ?_⟩
  | walk_at "st")
local macro_rules | `(tactic| walk_at "ro") => `(tactic| repeat walk_at "so")
local macro_rules | `(tactic| walk_at "run") => `(tactic| repeat walk_at "st")

/-! ### the mathematics of the deeds -/
theorem nodup_len : ∀ {l1 l2 : List Nat}, l1.Nodup → (∀ a ∈ l1, a ∈ l2) → l1.length ≤ l2.length
  | [], _, _, _ => Nat.zero_le _
  | a :: l, l2, nd, h => by
    have ha := h a List.mem_cons_self
    have nd' := List.nodup_cons.mp nd
    have ih := nodup_len (l1 := l) (l2 := l2.erase a) nd'.2 fun b hb => (List.mem_erase_of_ne (fun z => nd'.1 (by rw [← z]; exact hb))).mpr (h b (List.mem_cons_of_mem _ hb))
    rw [List.length_erase_of_mem ha] at ih
    have : 0 < l2.length := List.length_pos_of_mem ha
    rw [List.length_cons]
    omega
theorem unch_nat {s : FS} {e : Nat} (h : e < 4) : unchOf s (eD e) = s.sh.getD e 0 - (s.rt.getD e []).length := by
  unfold unchOf shareOf chargeOf heldOf eD
  rw [if_pos (isE_nat h), if_pos (isE_nat h), List.length_map]; rfl
theorem lack_nat (s : FS) : lackOf s = (s.sh.getD 0 0 - (s.rt.getD 0 []).length) + ((s.sh.getD 1 0 - (s.rt.getD 1 []).length) + ((s.sh.getD 2 0 - (s.rt.getD 2 []).length) + (s.sh.getD 3 0 - (s.rt.getD 3 []).length))) := by
  unfold lackOf
  show (List.map _ [0, 1, 2, 3]).sum = _
  simp only [List.map_cons, List.map_nil, List.sum_cons, List.sum_nil]
  rw [unch_nat (by omega), unch_nat (by omega), unch_nat (by omega), unch_nat (by omega), Nat.add_zero]
theorem left_nat {s : FS} (h : s.rt.length = 4) : leftOf s = (s.m : Int) - ((s.rt.getD 0 []).length + ((s.rt.getD 1 []).length + ((s.rt.getD 2 []).length + (s.rt.getD 3 []).length)) : Nat) := by
  unfold leftOf
  match q : s.rt, h with
  | [a, b, c, d], _ => simp only [List.map_cons, List.map_nil, List.sum_cons, List.sum_nil, Nat.add_zero]; rfl
theorem mem_get {l : RL} {f : Nat} : f ∈ keysR l ↔ getR l f ≠ none := by
  constructor
  · intro h
    obtain ⟨p, hp, e⟩ := List.mem_map.mp h
    rw [← e]
    exact get_mem hp
  · intro h
    unfold getR at h
    cases y : l.find? (fun p => decide (p.1 = f)) with
    | none => rw [y] at h; exact absurd rfl h
    | some p =>
      have q := List.find?_some y
      have q : p.1 = f := by simpa using q
      rw [← q]
      exact List.mem_map_of_mem (List.mem_of_find?_eq_some y)
structure Good (s : FS) : Prop where
  nd : ∀ e, (keysR (s.rt.getD e [])).Nodup
  lt : ∀ e f, f ∈ keysR (s.rt.getD e []) → f < s.m
  ll : (lackOf s : Int) ≤ leftOf s
  aw : ∀ e, e < 4 → 0 < s.ask.getD e 0 → 0 < s.wt.getD e 0
theorem keys_len (l : RL) : (keysR l).length = l.length := List.length_map _
theorem Good.len {s : FS} (g : Good s) (e : Nat) : (s.rt.getD e []).length ≤ s.m := by
  have := nodup_len (l2 := List.range s.m) (g.nd e) fun a ha => List.mem_range.mpr (g.lt e a ha)
  rw [List.length_range, keys_len] at this
  exact this
theorem Good.free {s : FS} (g : Good s) (h4 : s.rt.length = 4) {e : Nat} (he : e < 4) (hm : moreOf s (eD e) = true) : freeT s s.m ≠ [] := by
  intro z
  have all : ∀ f, f < s.m → f ∈ keysR (s.rt.getD 0 []) ++ (keysR (s.rt.getD 1 []) ++ (keysR (s.rt.getD 2 []) ++ keysR (s.rt.getD 3 []))) := by
    intro f hf
    have h1 : heldBy s f = true := by
      cases y : heldBy s f with
      | true => rfl
      | false =>
        have : f ∈ freeT s s.m := by
          unfold freeT
          rw [List.mem_filter, List.mem_range]
          exact ⟨hf, by rw [y]; rfl⟩
        rw [z] at this; cases this
    unfold heldBy at h1
    obtain ⟨l, hl, hg⟩ := List.any_eq_true.mp h1
    obtain ⟨j, hj, ej⟩ := List.mem_iff_getElem.mp hl
    have hk : f ∈ keysR l := mem_get.mpr fun y => by rw [y] at hg; cases hg
    have ed : s.rt.getD j [] = l := by rw [List.getD_eq_getElem?_getD, List.getElem?_eq_getElem hj, ej]; rfl
    rw [← ed] at hk
    have j4 : j < 4 := by omega
    have : j = 0 ∨ j = 1 ∨ j = 2 ∨ j = 3 := by omega
    rcases this with rfl | rfl | rfl | rfl
    · exact List.mem_append_left _ hk
    · exact List.mem_append_right _ (List.mem_append_left _ hk)
    · exact List.mem_append_right _ (List.mem_append_right _ (List.mem_append_left _ hk))
    · exact List.mem_append_right _ (List.mem_append_right _ (List.mem_append_right _ hk))
  have len := nodup_len (l1 := List.range s.m) List.nodup_range fun a ha => all a (List.mem_range.mp ha)
  rw [List.length_range, List.length_append, List.length_append, List.length_append, keys_len, keys_len, keys_len, keys_len] at len
  have lf := left_nat h4
  have lk := lack_nat s
  have ll := g.ll
  have un := unch_nat (s := s) he
  unfold moreOf at hm
  rw [Bool.or_eq_true, decide_eq_true_eq, decide_eq_true_eq] at hm
  have e4 : e = 0 ∨ e = 1 ∨ e = 2 ∨ e = 3 := by omega
  rcases hm with hm | hm
  · rw [un] at hm
    rcases e4 with rfl | rfl | rfl | rfl <;> omega
  · omega
/-- one more -/
theorem Good.add {s s' : FS} (g : Good s) (h4 : s.rt.length = 4) {e f : Nat} {b : Bool} (he : e < 4) (hf : f < s.m) (hn : getR (s.rt.getD e []) f = none) (hm : moreOf s (eD e) = true) (e1 : s'.m = s.m) (e2 : s'.sh = s.sh) (e3 : s'.rt = s.rt.set e (s.rt.getD e [] ++ [(f, b)])) (e5 : s'.ask = s.ask) (e6 : s'.wt = s.wt) : Good s' := by
  have get : ∀ j, s'.rt.getD j [] = if j = e then s.rt.getD e [] ++ [(f, b)] else s.rt.getD j [] := fun j => by rw [e3, getD_set (by omega)]
  have kk : keysR (s.rt.getD e [] ++ [(f, b)]) = keysR (s.rt.getD e []) ++ [f] := by unfold keysR; rw [List.map_append]; rfl
  refine ⟨fun j => ?_, fun j x hx => ?_, ?_, by rw [e5, e6]; exact g.aw⟩
  · rw [get]
    by_cases q : j = e
    · rw [if_pos q, kk]
      refine List.nodup_append.mpr ⟨g.nd e, by simp, fun a ha c hc z => ?_⟩
      rw [List.mem_singleton.mp hc] at z
      subst z
      exact mem_get.mp ha hn
    · rw [if_neg q]; exact g.nd j
  · rw [get] at hx
    rw [e1]
    by_cases q : j = e
    · rw [if_pos q, kk] at hx
      rcases List.mem_append.mp hx with y | y
      · exact g.lt e x y
      · rw [List.mem_singleton.mp y]; exact hf
    · rw [if_neg q] at hx; exact g.lt j x hx
  · have lf := left_nat h4
    have lk := lack_nat s
    have ll := g.ll
    have un := unch_nat (s := s) he
    have lf' := left_nat (s := s') (by rw [e3, List.length_set]; exact h4)
    have lk' := lack_nat s'
    rw [get, get, get, get, e1] at lf'
    rw [get, get, get, get, e2] at lk'
    unfold moreOf at hm
    rw [Bool.or_eq_true, decide_eq_true_eq, decide_eq_true_eq] at hm
    have len : (s.rt.getD e [] ++ [(f, b)]).length = (s.rt.getD e []).length + 1 := by rw [List.length_append]; rfl
    have e4 : e = 0 ∨ e = 1 ∨ e = 2 ∨ e = 3 := by omega
    rcases e4 with rfl | rfl | rfl | rfl
    all_goals
      simp (decide := true) only [if_true, if_false, len] at lf' lk'
      rw [lf', lk']
      rw [un] at hm
      omega
/-- fewer, or others with the same frames -/
theorem Good.sub {s s' : FS} (g : Good s) (h4 : s.rt.length = 4) {e : Nat} {l : RL} (he : e < 4) (hs : (keysR l).Sublist (keysR (s.rt.getD e []))) (e1 : s'.m = s.m) (e2 : s'.sh = s.sh) (e3 : s'.rt = s.rt.set e l) (aw : ∀ e, e < 4 → 0 < s'.ask.getD e 0 → 0 < s'.wt.getD e 0) : Good s' := by
  have get : ∀ j, s'.rt.getD j [] = if j = e then l else s.rt.getD j [] := fun j => by rw [e3, getD_set (by omega)]
  have hl := hs.length_le
  rw [keys_len, keys_len] at hl
  refine ⟨fun j => ?_, fun j x hx => ?_, ?_, aw⟩
  · rw [get]
    by_cases q : j = e
    · rw [if_pos q]; exact (g.nd e).sublist hs
    · rw [if_neg q]; exact g.nd j
  · rw [get] at hx
    rw [e1]
    by_cases q : j = e
    · rw [if_pos q] at hx; exact g.lt e x (hs.subset hx)
    · rw [if_neg q] at hx; exact g.lt j x hx
  · have lf := left_nat h4
    have lk := lack_nat s
    have ll := g.ll
    have lf' := left_nat (s := s') (by rw [e3, List.length_set]; exact h4)
    have lk' := lack_nat s'
    rw [get, get, get, get, e1] at lf'
    rw [get, get, get, get, e2] at lk'
    have e4 : e = 0 ∨ e = 1 ∨ e = 2 ∨ e = 3 := by omega
    rcases e4 with rfl | rfl | rfl | rfl
    all_goals
      simp (decide := true) only [if_true, if_false] at lf' lk'
      rw [lf', lk']
      omega
theorem Good.same {s s' : FS} (g : Good s) (e1 : s'.m = s.m) (e2 : s'.sh = s.sh) (e3 : s'.rt = s.rt) (aw : ∀ e, e < 4 → 0 < s'.ask.getD e 0 → 0 < s'.wt.getD e 0) : Good s' := by
  have lk : lackOf s' = lackOf s := by rw [lack_nat, lack_nat, e2, e3]
  have lf : leftOf s' = leftOf s := by unfold leftOf; rw [e1, e3]
  exact ⟨by rw [e3]; exact g.nd, by rw [e3, e1]; exact g.lt, by rw [lk, lf]; exact g.ll, aw⟩
end My

namespace My
open PySem L2
local macro_rules | `(tactic| walk_at "ne") => `(tactic| first | assumption | exact Ne.symm (by assumption) | exact ne_of_none (by assumption) (by assumption) | exact Ne.symm (ne_of_none (by assumption) (by assumption)))
local macro_rules | `(tactic| walk_at "hp") => `(tactic| first | assumption | with_reducible exact upd_same | (with_reducible refine Eq.trans (upd_ne ?_) ?_; rotate_left; walk_at "hp"; walk_at "ne"))
local macro_rules | `(tactic| walk_at "cnd") => `(tactic| first | omega | (show (0 : Int) < _; omega) | exact ⟨by omega, by omega⟩ | exact Or.inl ⟨by omega, by omega⟩ | exact Or.inr ⟨by omega, by omega⟩ | exact ⟨by omega, by omega, by decide⟩ | exact ⟨by omega, by omega, by omega⟩)
local macro_rules | `(tactic| walk_at "at") => `(tactic| first | exact atC 0 rfl rfl | exact atC 1 rfl rfl | exact atC 2 rfl rfl | exact atC 3 rfl rfl | exact atC 4 rfl rfl | exact atC 5 rfl rfl | exact atC 6 rfl rfl | exact atC 7 rfl rfl)
local macro_rules | `(tactic| walk_at "ix") => `(tactic| first | exact ixC 0 rfl (Nat.le_of_ble_eq_true rfl) | exact ixC 1 rfl (Nat.le_of_ble_eq_true rfl) | exact ixC 2 rfl (Nat.le_of_ble_eq_true rfl) | exact ixC 3 rfl (Nat.le_of_ble_eq_true rfl) | exact ixC 4 rfl (Nat.le_of_ble_eq_true rfl) | exact ixC 5 rfl (Nat.le_of_ble_eq_true rfl))
local macro_rules | `(tactic| walk_at "st") => `(tactic| first
  | refine ⟨_, rfl, ?_⟩
  | refine ⟨_, _, rfl, rfl, (by walk_at "cnd" : (_ : Prop)), ?_⟩
  | refine ⟨_, _, rfl, rfl, ?_⟩
  | refine ⟨rfl, ?_⟩
  | refine Or.inl ⟨_, rfl, ?_⟩
  | refine ⟨_, _, _, _, rfl, rfl, by exact SqL.of (by walk_at "hp"), by walk_at "at", ?_⟩
  | refine ⟨_, _, _, _, rfl, rfl, by exact SqT.of (by walk_at "hp"), by walk_at "at", ?_⟩
  | refine ⟨_, _, _, _, rfl, rfl, by walk_at "hp", by walk_at "ix", ?_⟩
  | refine ⟨_, _, rfl, Or.inl (by exact SqL.of (by walk_at "hp")), ?_⟩
  | refine ⟨_, _, rfl, Or.inr (by exact SqT.of (by walk_at "hp")), ?_⟩)
local macro_rules | `(tactic| walk_at "so") => `(tactic| first
  | refine ⟨_, _, _, _, _, rfl, by walk_at "hp", by assumption, by assumption, rfl, ?_⟩
  | refine ⟨_, _, _, _, rfl, by walk_at "hp", by assumption, by assumption, Nat.le_of_ble_eq_true rfl, ?_⟩
  | refine ⟨_, _, _, rfl, by walk_at "hp", rfl, ?_⟩
  | walk_at "st")
local macro_rules | `(tactic| walk_at "ro") => `(tactic| repeat walk_at "so")
local macro_rules | `(tactic| walk_at "run") => `(tactic| repeat walk_at "st")

/-! ### the book -/
def kk2 (e f : Nat) : List Key := [.inl (e : Int), .inl (f : Int)]
def kk3 (e f o : Nat) : List Key := [.inl (e : Int), .inl (f : Int), .inl (o : Int)]
theorem kk2_inj {e f e' f' : Nat} : kk2 e f = kk2 e' f' ↔ e = e' ∧ f = f' := by
  unfold kk2
  constructor
  · intro h
    injection h with h1 h2
    injection h2 with h2 _
    exact ⟨keyI.mp h1, keyI.mp h2⟩
  · rintro ⟨rfl, rfl⟩; rfl
theorem kk3_inj {e f o e' f' o' : Nat} : kk3 e f o = kk3 e' f' o' ↔ e = e' ∧ f = f' ∧ o = o' := by
  unfold kk3
  constructor
  · intro h
    injection h with h1 h2
    injection h2 with h2 h3
    injection h3 with h3 _
    exact ⟨keyI.mp h1, keyI.mp h2, keyI.mp h3⟩
  · rintro ⟨rfl, rfl, rfl⟩; rfl
theorem valV_dropG {κ : Type} [DecidableEq κ] (k j : κ) : ∀ kvs : List (κ × V), valV (dropK kvs k) j = if j = k then none else valV kvs j
  | [] => by
    by_cases q : j = k
    · rw [if_pos q]; rfl
    · rw [if_neg q]; rfl
  | p :: r => by
    have ih := valV_dropG k j r
    by_cases e : p.1 = k
    · rw [dropK_pos e, ih]
      by_cases q : j = k
      · rw [if_pos q, if_pos q]
      · rw [if_neg q, if_neg q, valV_neg (fun z => q (z.symm.trans e))]
    · rw [dropK_neg e]
      by_cases y : p.1 = j
      · rw [valV_pos y, if_neg (fun z => e (y.trans z)), valV_pos y]
      · rw [valV_neg y, ih, valV_neg y]
structure BA where
  (bk hd rg of wn : Addr)
  h : List Addr
  wi : Nat → Option Addr
/-- what is held, rights, offers -/
structure Bh (H : Hp) (b : BA) (rt : List RL) (off : Nat → Nat → Nat → Option Bool) (n : Nat) : Prop where
  tup : H b.bk = some (.tup [.ref b.hd, .ref b.rg, .ref b.of, .ref b.wn])
  hdl : H b.hd = some (.lst (b.h.map V.ref))
  h4 : b.h.length = 4
  hn : b.h.Nodup
  hdn : b.hd ∉ b.h
  hs : Each (fun H d (l : RL) => NsL H d (keysR l)) H b.h rt
  rgof : b.rg ≠ b.of
  rgs : ∃ kvs, H b.rg = some (.dT kvs) ∧ kvs.length ≤ n ∧ ∀ e f, e < 4 → valV kvs (kk2 e f) = (getR (rt.getD e []) f).map rV
  ofs : ∃ kvs, H b.of = some (.dT kvs) ∧ kvs.length ≤ n ∧ ∀ e f o, e < 4 → o < 4 → valV kvs (kk3 e f o) = (off e f o).map rV
/-- what is asked for -/
structure Bw (H : Hp) (b : BA) (ask wt : List Nat) (n : Nat) : Prop where
  wns : ∃ kvs, H b.wn = some (.dK kvs) ∧ kvs.length ≤ n ∧ ∀ e : Nat, e < 4 → valV kvs (.inl (e : Int)) = (b.wi e).map V.ref
  wis : ∀ e, e < 4 → (b.wi e = none ∧ ask.getD e 0 = 0) ∨ ∃ i, b.wi e = some i ∧ 0 < ask.getD e 0 ∧ H i = some (.lst [.int (ask.getD e 0 : Nat), .int (wt.getD e 0 : Nat)])
  winj : ∀ e e' i, e < 4 → e' < 4 → b.wi e = some i → b.wi e' = some i → e = e'
  wsep : ∀ e i, e < 4 → b.wi e = some i → i ≠ b.hd ∧ i ∉ b.h
def bhS (b : BA) (z : Addr) : Prop := z ∈ b.h ∨ z = b.rg ∨ z = b.of
def bkS (b : BA) (z : Addr) : Prop := z = b.bk ∨ z = b.hd ∨ z = b.rg ∨ z = b.of ∨ z = b.wn ∨ z ∈ b.h ∨ ∃ e, e < 4 ∧ b.wi e = some z
def offDrop (off : Nat → Nat → Nat → Option Bool) (e f : Nat) : Nat → Nat → Nat → Option Bool := fun e' f' o' => if e' = e ∧ f' = f then none else off e' f' o'
def offSet (off : Nat → Nat → Nat → Option Bool) (e f o : Nat) (b : Option Bool) : Nat → Nat → Nat → Option Bool := fun e' f' o' => if e' = e ∧ f' = f ∧ o' = o then b else off e' f' o'
theorem Bh.same {H H' : Hp} {b : BA} {rt : List RL} {off : Nat → Nat → Nat → Option Bool} {n : Nat} (h : Bh H b rt off n) (s : Same H H') : Bh H' b rt off n := by
  obtain ⟨k1, a1, a2, a3⟩ := h.rgs
  obtain ⟨k2, b1, b2, b3⟩ := h.ofs
  exact ⟨s _ _ h.tup, s _ _ h.hdl, h.h4, h.hn, h.hdn, h.hs.same fun _ _ r => s _ _ r, h.rgof, ⟨k1, s _ _ a1, a2, a3⟩, ⟨k2, s _ _ b1, b2, b3⟩⟩
theorem Bw.same {H H' : Hp} {b : BA} {ask wt : List Nat} {n : Nat} (h : Bw H b ask wt n) (s : Same H H') : Bw H' b ask wt n := by
  obtain ⟨k1, a1, a2, a3⟩ := h.wns
  refine ⟨⟨k1, s _ _ a1, a2, a3⟩, fun e he => ?_, h.winj, h.wsep⟩
  rcases h.wis e he with q | ⟨i, q1, q2, q3⟩
  · exact .inl q
  · exact .inr ⟨i, q1, q2, s _ _ q3⟩
/-- other things change -/
theorem Bh.chg {H H' : Hp} {b : BA} {rt : List RL} {off : Nat → Nat → Nat → Option Bool} {n : Nat} {S : Addr → Prop} (h : Bh H b rt off n) (c : ChgP S H H') (d : ∀ z, z = b.bk ∨ z = b.hd ∨ z = b.rg ∨ z = b.of ∨ z ∈ b.h → ¬ S z) : Bh H' b rt off n := by
  obtain ⟨k1, a1, a2, a3⟩ := h.rgs
  obtain ⟨k2, b1, b2, b3⟩ := h.ofs
  exact ⟨c _ _ (d _ (.inl rfl)) h.tup, c _ _ (d _ (.inr (.inl rfl))) h.hdl, h.h4, h.hn, h.hdn, h.hs.mono fun z _ m r => c _ _ (d z (.inr (.inr (.inr (.inr m))))) r, h.rgof, ⟨k1, c _ _ (d _ (.inr (.inr (.inl rfl)))) a1, a2, a3⟩, ⟨k2, c _ _ (d _ (.inr (.inr (.inr (.inl rfl))))) b1, b2, b3⟩⟩
theorem Bw.chg {H H' : Hp} {b : BA} {ask wt : List Nat} {n : Nat} {S : Addr → Prop} (h : Bw H b ask wt n) (c : ChgP S H H') (d : ∀ z, z = b.wn ∨ (∃ e, e < 4 ∧ b.wi e = some z) → ¬ S z) : Bw H' b ask wt n := by
  obtain ⟨k1, a1, a2, a3⟩ := h.wns
  refine ⟨⟨k1, c _ _ (d _ (.inl rfl)) a1, a2, a3⟩, fun e he => ?_, h.winj, h.wsep⟩
  rcases h.wis e he with q | ⟨i, q1, q2, q3⟩
  · exact .inl q
  · exact .inr ⟨i, q1, q2, c _ _ (d _ (.inr ⟨e, he, q1⟩)) q3⟩
theorem Bh.le {H : Hp} {b : BA} {rt : List RL} {off : Nat → Nat → Nat → Option Bool} {n n' : Nat} (h : Bh H b rt off n) (l : n ≤ n') : Bh H b rt off n' := by
  obtain ⟨k1, a1, a2, a3⟩ := h.rgs
  obtain ⟨k2, b1, b2, b3⟩ := h.ofs
  exact ⟨h.tup, h.hdl, h.h4, h.hn, h.hdn, h.hs, h.rgof, ⟨k1, a1, by omega, a3⟩, ⟨k2, b1, by omega, b3⟩⟩
theorem Bw.le {H : Hp} {b : BA} {ask wt : List Nat} {n n' : Nat} (h : Bw H b ask wt n) (l : n ≤ n') : Bw H b ask wt n' := by
  obtain ⟨k1, a1, a2, a3⟩ := h.wns
  exact ⟨⟨k1, a1, by omega, a3⟩, h.wis, h.winj, h.wsep⟩
/-- the lists that are held, one changes -/
theorem Bh.setH {H : Hp} {b : BA} {rt : List RL} {off : Nat → Nat → Nat → Option Bool} {n e : Nat} {d : Addr} {l : RL} (h : Bh H b rt off n) (hd : b.h[e]? = some d) (hl : ∀ f, getR l f = getR (rt.getD e []) f) : Bh (upd H d (.lst ((keysR l).map vN))) b (rt.set e l) off n := by
  have dm := List.mem_of_getElem? hd
  have e4 : e < rt.length := by rw [← h.hs.1]; exact (List.getElem?_eq_some_iff.mp hd).1
  obtain ⟨ld, hld, nd⟩ : ∃ l, rt[e]? = some l ∧ NsL H d (keysR l) := ⟨rt[e], List.getElem?_eq_getElem e4, h.hs.2 e d _ hd (List.getElem?_eq_getElem e4)⟩
  have nd : H d = some (.lst ((keysR ld).map vN)) := nd
  obtain ⟨k1, a1, a2, a3⟩ := h.rgs
  obtain ⟨k2, b1, b2, b3⟩ := h.ofs
  refine ⟨?_, ?_, h.h4, h.hn, h.hdn, h.hs.put h.hn hd (fun _ _ m r => NsL.upd m r) upd_same, h.rgof, ⟨k1, ?_, a2, fun e' f he' => ?_⟩, ⟨k2, ?_, b2, b3⟩⟩
  · rw [upd_ne (ne_of h.tup nd (by intro z; cases z))]; exact h.tup
  · rw [upd_ne (fun z => h.hdn (by rw [z]; exact dm))]; exact h.hdl
  · rw [upd_ne (ne_of a1 nd (by intro z; cases z))]; exact a1
  · rw [a3 e' f he', getD_set e4]
    by_cases q : e' = e
    · rw [if_pos q, hl, q]
    · rw [if_neg q]
  · rw [upd_ne (ne_of b1 nd (by intro z; cases z))]; exact b1
def spMoreL : Sp := fun vs H Q _ => ∃ (hd sp : Addr) (h : List Addr) (s : FS) (e : Nat), vs = [.ref hd, .ref sp, .int (s.m : Int), .int (e : Int)] ∧ e < 4 ∧ H hd = some (.lst (h.map V.ref)) ∧ Each (fun H d (l : RL) => NsL H d (keysR l)) H h s.rt ∧ NsL H sp s.sh ∧ s.rt.length = 4 ∧ s.sh.length = 4 ∧ ∀ H', Same H H' → Q (.bl (moreOf s (eD e))) H'
section
variable {P : Program} {w : World} {K : PySem.W.Frag} {mg : Str → Option Value} {base : Heap} {C_Frames C_NotValid : Addr}
abbrev s_law_more : Stmt := topS 22
abbrev ns_law_more : List Str := ["held", "shares", "many", "environment", "left", "row", "one"]
theorem sc_law_more : FnScope ns_law_more ["held", "shares", "many", "environment"] (defScope s_law_more) := ⟨rfl, rfl, rfl, by decide +kernel, rfl, by decide +kernel, by decide +kernel⟩

theorem ok_law_more {f : Addr} {fd : FuncData} (F : Fun K "_law_more" "_law_more" s_law_more f fd) (T : Txt K mg C_Frames C_NotValid) : FnOk P w K mg base CX0 1 f fd ["held", "shares", "many", "environment"] spMoreL := by
  refine F.ok sc_law_more (fun vs H Q E h => ?_) (fun cdv A outer s H vs Q E hr h => ?_)
  · obtain ⟨hd, sp, h, s, e, rfl, _⟩ := h
    rfl
  · obtain ⟨hd, sp, hl, s', e, rfl, e4, h1, h2, h3, r4, s4, k⟩ := h
    refine ⟨_, (pss_cons (ps_if (pt_cmpR op_lt (pe_callB (kLen K) (by rfl) T.b_len (by decide +kernel) (pa_cons (pe_ix (kIxL K) (pv 0) (pv 3) (fun _ _ => rfl)) pa_nil)) (pe_ix (kIxL K) (pv 1) (pv 3) (fun _ _ => rfl)) (nomark _)) (pss_one (ps_ret pe_bl)) pss_nil)
  (pss_cons (ps_set (i := 4) sc_law_more.nd rfl (Or.inl rfl) (pe_op op_sub (pv 2) (pe_callB (kSum K rfl) (by rfl) T.b_sum (by decide +kernel) (pa_cons (pe_lc (own := [("row", 5)]) (by rfl) sc_law_more.nd (kpiL K (pv 0)) (blkOk_by (N := ns_law_more) (sc := defScope s_law_more) (by decide +kernel)) (fun _ _ _ _ _ => (pg_name (i := 5) sc_law_more.nd rfl (Or.inl rfl))) (fun _ _ _ _ _ => pts_nil) (fun _ _ _ _ _ => (pe_callB (kLen K) (by rfl) T.b_len (by decide +kernel) (pa_cons (pv 5) pa_nil)))) pa_nil))))
  (pss_one (ps_ret (pe_cmpR op_gt (pv 4) (pe_callB (kSum K rfl) (by rfl) T.b_sum (by decide +kernel) (pa_cons (pe_lc (own := [("one", 6)]) (by rfl) sc_law_more.nd (pi_range1 (by rfl) T.b_range (pa_cons pe_int pa_nil)) (blkOk_by (N := ns_law_more) (sc := defScope s_law_more) (by decide +kernel)) (fun _ _ _ _ _ => (pg_name (i := 6) sc_law_more.nd rfl (Or.inl rfl))) (fun _ _ _ _ _ => pts_nil) (fun _ _ _ _ _ => (pe_callB (call_max2 rfl) (by rfl) T.b_max (by decide +kernel) (pa_cons pe_int (pa_cons (pe_op op_sub (pe_ix (kIxL K) (pv 1) (pv 6) (fun _ _ => rfl)) (pe_callB (kLen K) (by rfl) T.b_len (by decide +kernel) (pa_cons (pe_ix (kIxL K) (pv 0) (pv 6) (fun _ _ => rfl)) pa_nil))) pa_nil))))) pa_nil)) (nomark _)))))), ?_⟩
    have h3 : H sp = some (.lst (s'.sh.map vN)) := h3
    have one : ∀ j, j < 4 → ∃ d, hl[j]? = some d ∧ H d = some (.lst ((keysR (s'.rt.getD j [])).map vN)) := fun j hj => by
      obtain ⟨d, hd, q⟩ := h2.at (List.getElem?_eq_getElem (show j < s'.rt.length by omega))
      refine ⟨d, hd, ?_⟩
      rw [show s'.rt.getD j [] = s'.rt[j]'(by omega) from by rw [List.getD_eq_getElem?_getD, List.getElem?_eq_getElem]; rfl]
      exact q
    obtain ⟨d, hd1, hd2⟩ := one e e4
    walk_at "ro"
    refine ⟨_, _, _, _, rfl, rfl, SqL.of h1, atC e rfl (by rw [List.getElem?_map, hd1]; rfl), ?_⟩
    walk_at "ro"
    refine ⟨_, _, _, _, rfl, rfl, SqL.of h3, atC e rfl (getVN' (by omega)), ?_⟩
    rw [List.length_map, keys_len]
    have un := unch_nat (s := s') e4
    walk_at "ro"
    refine iteD (fun q => ?_) (fun q => ?_)
    · walk_at "ro"
      have k := k H (Same.refl H)
      unfold moreOf at k
      rw [decide_eq_true (show 0 < unchOf s' (eD e) by omega), Bool.true_or] at k
      exact k
    · walk_at "ro"
      have hlen : hl.length = 4 := by rw [h2.1]; exact r4
      refine ⟨⟨_, SqL.of h1⟩, fun D hD => ?_⟩
      refine lcL (xs := hl.map V.ref) ((s'.rt.map List.length).map vN) (by simp [h2.1]) (by rw [List.length_map, hlen]; decide) h1 hD ?_ ?_
      · intro j y z H2 Q' hy hz s2 q
        have hj : j < s'.rt.length := by
          have := (List.getElem?_eq_some_iff.mp hy).1
          rw [List.length_map, h2.1] at this
          exact this
        obtain ⟨dd, hdd, hdk⟩ := h2.at (List.getElem?_eq_getElem hj)
        have hdk : H dd = some (.lst ((keysR s'.rt[j]).map vN)) := hdk
        have ey : y = .ref dd := by
          rw [List.getElem?_map, hdd] at hy
          exact (Option.some.inj hy).symm
        have ez : z = .int (s'.rt[j].length : Nat) := by
          rw [List.getElem?_map, List.getElem?_map, List.getElem?_eq_getElem hj] at hz
          exact (Option.some.inj hz).symm
        subst ey ez
        have hdk2 := s2 _ _ hdk
        refine ⟨rfl, ?_⟩
        walk_at "ro"
        rw [List.length_map, keys_len]
        exact q H2 (Same.refl _)
      · intro H2 s2 d2
        walk_at "ro"
        refine ⟨D, (s'.rt.map List.length).map fun n : Nat => (n : Int), rfl, SqL.of (by rw [vN_map]; exact d2), ?_⟩
        rw [sum_nat]
        walk_at "ro"
        refine ⟨by decide, by decide, fun D2 hD2 => ?_⟩
        refine lc_range (lo := 0) (n := ((4 : Int) - 0).toNat) (fun j Hx => Hx D2 = some (.lst (((List.range j).map fun n => unchOf s' (eD n)).map vN)) ∧ Same H2 Hx) ⟨upd_same, Same.new hD2⟩ ?_ ?_
        · rintro j Hx hj ⟨hx1, sx⟩
          have hj : j < 4 := hj
          obtain ⟨dj, hj1, hj2⟩ := one j hj
          have s0x := s2.trans sx
          have hj2 := s0x _ _ hj2
          have h1x := s0x _ _ h1
          have h3x := s0x _ _ h3
          refine ⟨rfl, ?_⟩
          walk_at "ro"
          refine ⟨_, _, _, _, rfl, rfl, SqL.of h3x, atC j (by omega) (getVN' (by omega)), ?_⟩
          walk_at "ro"
          refine ⟨_, _, _, _, rfl, rfl, SqL.of h1x, atC j (by omega) (by rw [List.getElem?_map, hj1]; rfl), ?_⟩
          walk_at "ro"
          refine ⟨_, _, rfl, ?_⟩
          rw [List.length_map, keys_len]
          have e1 : (if ((s'.sh.getD j 0 : Nat) : Int) - (((s'.rt.getD j []).length : Nat) : Int) > 0 then ((s'.sh.getD j 0 : Nat) : Int) - (((s'.rt.getD j []).length : Nat) : Int) else 0) = ((unchOf s' (eD j) : Nat) : Int) := by
            rw [unch_nat hj]; split <;> omega
          rw [e1]
          refine ⟨_, hx1, szt (by rw [List.length_map, List.length_map, List.length_range]; omega), ?_, Same.mut sx hD2⟩
          rw [upd_same, List.range_succ, List.map_append, List.map_append]; rfl
        · rintro Hx ⟨hx1, sx⟩
          walk_at "ro"
          refine ⟨D2, ((List.range 4).map fun n => unchOf s' (eD n)).map fun n : Nat => (n : Int), rfl, SqL.of (by rw [vN_map]; exact hx1), ?_⟩
          rw [sum_nat]
          have k := k Hx (s2.trans sx)
          unfold moreOf at k
          rw [decide_eq_false (by omega : ¬ 0 < unchOf s' (eD e)), Bool.false_or] at k
          refine ⟨_, _, rfl, rfl, ?_⟩
          exact k
end
theorem eraseIdx_mapG {α β : Type} (f : α → β) : ∀ (l : List α) (j : Nat), (l.map f).eraseIdx j = (l.eraseIdx j).map f
  | [], _ => rfl
  | a :: l, 0 => rfl
  | a :: l, j + 1 => by
    show f a :: (l.map f).eraseIdx j = f a :: (l.eraseIdx j).map f
    rw [eraseIdx_mapG f l j]
theorem erase_key {g : Nat} : ∀ {l : RL} {j : Nat}, (keysR l).Nodup → (keysR l)[j]? = some g → (keysR l).eraseIdx j = keysR (dropR l g)
  | [], j, _, h => by simp [keysR] at h
  | p :: l, 0, nd, h => by
    have h : p.1 = g := Option.some.inj h
    subst h
    have nd' : (p.1 :: keysR l).Nodup := nd
    show keysR l = keysR (dropR (p :: l) p.1)
    have e : dropR (p :: l) p.1 = dropR l p.1 := by
      unfold dropR
      rw [List.filter_cons_of_neg (by simp)]
    rw [e, drop_none (List.nodup_cons.mp nd').1]
  | p :: l, j + 1, nd, h => by
    have nd' : (p.1 :: keysR l).Nodup := nd
    have h' : (keysR l)[j]? = some g := h
    have ne : p.1 ≠ g := fun z => (List.nodup_cons.mp nd').1 (by rw [z]; exact List.mem_of_getElem? h')
    have e : dropR (p :: l) g = p :: dropR l g := by
      unfold dropR
      rw [List.filter_cons_of_pos (by simp [ne])]
    rw [e]
    show p.1 :: (keysR l).eraseIdx j = p.1 :: keysR (dropR l g)
    rw [erase_key (List.nodup_cons.mp nd').2 h']
theorem Bh.kinds {H : Hp} {b : BA} {rt : List RL} {off : Nat → Nat → Nat → Option Bool} {n : Nat} (B : Bh H b rt off n) : ¬ bhS b b.bk ∧ ¬ bhS b b.hd ∧ b.rg ∉ b.h ∧ b.of ∉ b.h := by
  obtain ⟨k1, a1, _, _⟩ := B.rgs
  obtain ⟨k2, b1, _, _⟩ := B.ofs
  have l : ∀ z ∈ b.h, ∃ xs, H z = some (.lst xs) := fun z hz => by
    obtain ⟨j, hj, ej⟩ := List.mem_iff_getElem.mp hz
    exact ⟨_, B.hs.2 j z (rt[j]'(by rw [← B.hs.1]; exact hj)) (by rw [List.getElem?_eq_getElem hj, ej]) (List.getElem?_eq_getElem _)⟩
  refine ⟨fun q => ?_, fun q => ?_, fun q => ?_, fun q => ?_⟩
  · rcases q with q | q | q
    · obtain ⟨xs, e⟩ := l _ q; rw [B.tup] at e; cases e
    · rw [← q, B.tup] at a1; cases a1
    · rw [← q, B.tup] at b1; cases b1
  · rcases q with q | q | q
    · exact B.hdn q
    · rw [← q, B.hdl] at a1; cases a1
    · rw [← q, B.hdl] at b1; cases b1
  · obtain ⟨xs, e⟩ := l _ q; rw [a1] at e; cases e
  · obtain ⟨xs, e⟩ := l _ q; rw [b1] at e; cases e
theorem Bh.fin {H H' : Hp} {b : BA} {rt : List RL} {off off' : Nat → Nat → Nat → Option Bool} {n n' e : Nat} {d : Addr} {l' : RL} (B : Bh H b rt off n) (hd : b.h[e]? = some d) (c : ChgP (bhS b) H H') (c2 : ∀ z o, z ∈ b.h → z ≠ d → H z = some o → H' z = some o) (hl : NsL H' d (keysR l'))
    (hr : ∃ kvs, H' b.rg = some (.dT kvs) ∧ kvs.length ≤ n' ∧ ∀ e' f, e' < 4 → valV kvs (kk2 e' f) = (getR ((rt.set e l').getD e' []) f).map rV)
    (ho : ∃ kvs, H' b.of = some (.dT kvs) ∧ kvs.length ≤ n' ∧ ∀ e f o, e < 4 → o < 4 → valV kvs (kk3 e f o) = (off' e f o).map rV) : Bh H' b (rt.set e l') off' n' := by
  obtain ⟨d1, d2, _, _⟩ := B.kinds
  refine ⟨c _ _ d1 B.tup, c _ _ d2 B.hdl, B.h4, B.hn, B.hdn, ⟨by rw [List.length_set]; exact B.hs.1, fun j z l hz hl2 => ?_⟩, B.rgof, hr, ho⟩
  by_cases q : e = j
  · subst q
    rw [hd] at hz
    cases hz
    rw [List.getElem?_set_self (by rw [← B.hs.1]; exact (List.getElem?_eq_some_iff.mp hd).1)] at hl2
    cases hl2
    exact hl
  · rw [List.getElem?_set_ne q] at hl2
    refine c2 z _ (List.mem_of_getElem? hz) (fun y => q ?_) (B.hs.2 j z l hz hl2)
    subst y
    exact (List.getElem?_inj (List.getElem?_eq_some_iff.mp hd).1 B.hn).mp (hd.trans hz.symm)
def spEndL : Sp := fun vs H Q _ => ∃ (b : BA) (rt : List RL) (off : Nat → Nat → Nat → Option Bool) (n e f : Nat), vs = [.ref b.bk, .int (e : Int), .int (f : Int)] ∧ Bh H b rt off n ∧ n ≤ 1000 ∧ e < 4 ∧ rt.length = 4 ∧ (keysR (rt.getD e [])).Nodup ∧ (rt.getD e []).length ≤ 1000 ∧ getR (rt.getD e []) f ≠ none ∧
  ∀ H', Bh H' b (rt.set e (dropR (rt.getD e []) f)) (offDrop off e f) n → ChgP (bhS b) H H' → Q .non H'
section
variable {P : Program} {w : World} {K : PySem.W.Frag} {mg : Str → Option Value} {base : Heap} {C_Frames C_NotValid : Addr}
abbrev s_law_end : Stmt := topS 23
abbrev ns_law_end : List Str := ["book", "environment", "frame", "held", "rights", "offers", "wanted", "other"]
theorem sc_law_end : FnScope ns_law_end ["book", "environment", "frame"] (defScope s_law_end) := ⟨rfl, rfl, rfl, by decide +kernel, rfl, by decide +kernel, by decide +kernel⟩

theorem ok_law_end {f : Addr} {fd : FuncData} (F : Fun K "_law_end" "_law_end" s_law_end f fd) (T : Txt K mg C_Frames C_NotValid) : FnOk P w K mg base CX0 1 f fd ["book", "environment", "frame"] spEndL := by
  refine F.ok sc_law_end (fun vs H Q E h => ?_) (fun cdv A outer s H vs Q E hr h => ?_)
  · obtain ⟨b, rt, off, n, e, g, rfl, _⟩ := h
    rfl
  · obtain ⟨b, rt, off, n, e, g, rfl, B, nz, e4, r4, nd, hz, hg, k⟩ := h
    refine ⟨_, (pss_cons (ps_asg (pv 0) (kpgT K (n := 4) (by rfl) (pgs_cons (pg_name (i := 3) sc_law_end.nd rfl (Or.inl rfl)) (pgs_cons (pg_name (i := 4) sc_law_end.nd rfl (Or.inl rfl)) (pgs_cons (pg_name (i := 5) sc_law_end.nd rfl (Or.inl rfl)) (pgs_cons (pg_name (i := 6) sc_law_end.nd rfl (Or.inl rfl)) pgs_nil))))))
  (pss_cons (ps_expr (kBM K PySem.F.plainAttrs_list PySem.F.slot_list_remove PySem.F.type_list_remove mt_remove (pe_ix (kIxL K) (pv 3) (pv 1) (fun _ _ => rfl)) (pa_cons (pv 2) pa_nil)))
  (pss_cons (ps_expr (kBM K PySem.F.plainAttrs_dict PySem.F.slot_dict_pop PySem.F.type_dict_pop (mt_popT1 (units1 hr)) (pv 4) (pa_cons (pe_tup (pa_cons (pv 1) (pa_cons (pv 2) pa_nil))) pa_nil)))
  (pss_one (ps_for PassesOwn.never (by rfl) (pi_range1 (by rfl) T.b_range (pa_cons pe_int pa_nil)) (pg_name (i := 7) sc_law_end.nd rfl (Or.inl rfl)) (pss_one (ps_expr (kBM K PySem.F.plainAttrs_dict PySem.F.slot_dict_pop PySem.F.type_dict_pop (L2.DX.mt_popT (units1 hr)) (pv 5) (pa_cons (pe_tup (pa_cons (pv 1) (pa_cons (pv 2) (pa_cons (pv 7) pa_nil)))) (pa_cons pe_non pa_nil)))))))))), ?_⟩
    have h1 := B.tup
    have h2 := B.hdl
    walk_at "ro"
    refine ⟨_, _, rfl, SqT.of h1, rfl, _, _, rfl, _, _, rfl, _, _, rfl, _, _, rfl, rfl, ?_⟩
    have el : e < rt.length := by omega
    obtain ⟨d, hd, hdk⟩ := B.hs.at (List.getElem?_eq_getElem el)
    have eg : rt.getD e [] = rt[e] := by rw [List.getD_eq_getElem?_getD, List.getElem?_eq_getElem el]; rfl
    have hdk : H d = some (.lst ((keysR rt[e]).map vN)) := hdk
    rw [eg] at nd hz hg k
    have dm := List.mem_of_getElem? hd
    obtain ⟨kb1, kb2, kb3, kb4⟩ := B.kinds
    obtain ⟨r1, r2, r3, r4'⟩ := B.rgs
    obtain ⟨o1, o2, o3, o4⟩ := B.ofs
    obtain ⟨j, hj, ej⟩ := List.mem_iff_getElem.mp (mem_get.mpr hg)
    have ej' : (keysR rt[e])[j]? = some g := by rw [List.getElem?_eq_getElem hj, ej]
    walk_at "ro"
    refine ⟨_, _, _, _, rfl, rfl, SqL.of h2, atC e rfl (by rw [List.getElem?_map, hd]; rfl), ?_⟩
    walk_at "ro"
    refine ⟨.inl ⟨rfl, _, SqL.of hdk⟩, ?_⟩
    walk_at "ro"
    refine ⟨d, (keysR rt[e]).map (fun n : Nat => (n : Int)), (g : Int), j, rfl, rfl, by rw [vN_map]; exact hdk, by rw [List.getElem?_map, ej']; rfl, fun m hm q => ?_, ?_⟩
    · rw [List.getElem?_map] at q
      cases y : (keysR rt[e])[m]? with
      | none => rw [y] at q; cases q
      | some v =>
        rw [y] at q
        have : v = g := Int.ofNat.inj (Option.some.inj q)
        subst this
        exact absurd ((List.getElem?_inj (by omega) nd).mp (y.trans ej'.symm)) (by omega)
    have e1 : (((keysR rt[e]).map (fun n : Nat => (n : Int))).eraseIdx j).map V.int = (keysR (dropR rt[e] g)).map vN := by
      rw [← erase_key nd ej', ← vN_map, eraseIdx_mapG]
    rw [e1]
    have n1 : NsL (upd H d (.lst ((keysR (dropR rt[e] g)).map vN))) d (keysR (dropR rt[e] g)) := upd_same
    have c1 : Chg d H (upd H d (.lst ((keysR (dropR rt[e] g)).map vN))) := Chg.upd
    generalize upd H d (.lst ((keysR (dropR rt[e] g)).map vN)) = H1 at n1 c1
    have r21 := c1 _ _ (fun z => kb3 (by rw [z]; exact dm)) r2
    have o21 := c1 _ _ (fun z => kb4 (by rw [z]; exact dm)) o2
    walk_at "ro"
    refine ⟨.inr (.inr (.inl ⟨rfl, .inr ⟨_, r21⟩⟩)), ?_⟩
    walk_at "ro"
    refine ⟨szl rfl, fun q1 hq1 => ?_⟩
    have sq1 := Same.new (o := .tup [.int (e : Int), .int (g : Int)]) hq1
    obtain ⟨bv, hbv⟩ : ∃ bv, getR rt[e] g = some bv := by
      cases y : getR rt[e] g with
      | none => exact absurd y hg
      | some bv => exact ⟨bv, rfl⟩
    refine ⟨b.rg, r1, kk2 e g, q1, rV bv, rfl, rfl, sq1 _ _ r21, upd_same, by rw [r4' e g e4, eg, hbv]; rfl, ?_⟩
    have k2 : Chg b.rg H1 (upd (upd H1 q1 (.tup [.int (e : Int), .int (g : Int)])) b.rg (.dT (dropK r1 (kk2 e g)))) := (Same.chg sq1).trans Chg.upd
    have rg2 : (upd (upd H1 q1 (.tup [.int (e : Int), .int (g : Int)])) b.rg (.dT (dropK r1 (kk2 e g)))) b.rg = some (.dT (dropK r1 (kk2 e g))) := upd_same
    generalize upd (upd H1 q1 (.tup [.int (e : Int), .int (g : Int)])) b.rg (.dT (dropK r1 (kk2 e g))) = H2 at k2 rg2
    have o22 := k2 _ _ (fun z => B.rgof z.symm) o21
    walk_at "ro"
    refine ⟨by decide, by decide, ?_⟩
    refine for_range (fun i σ Hx => Hide (∃ (v7 : Option V) (kvs : List (List Key × V)), σ = [some (.ref b.bk), some (.int (e : Int)), some (.int (g : Int)), some (.ref b.hd), some (.ref b.rg), some (.ref b.of), some (.ref b.wn), v7] ∧ Hx b.of = some (.dT kvs) ∧ kvs.length ≤ n ∧ (∀ e' f' o', e' < 4 → o' < 4 → valV kvs (kk3 e' f' o') = (if e' = e ∧ f' = g ∧ o' < i then none else off e' f' o').map rV) ∧ Chg b.of H2 Hx)) ?_ ?_ ?_
    · refine hide ⟨none, o1, rfl, o22, o3, fun e' f' o' he ho => ?_, Chg.refl _ _⟩
      rw [if_neg (fun z => by omega)]
      exact o4 e' f' o' he ho
    · rintro i σ Hx hi hh
      obtain ⟨v7, kvs, rfl, x1, x2, x3, x4⟩ := hh.out
      have hi4 : i < 4 := hi
      walk_at "ro"
      refine ⟨.inr (.inr (.inl ⟨rfl, .inr ⟨_, x1⟩⟩)), ?_⟩
      walk_at "ro"
      refine ⟨szl rfl, fun q2 hq2 => ?_⟩
      have sq2 := Same.new (o := .tup [.int (e : Int), .int (g : Int), .int (0 + (i : Int))]) hq2
      refine ⟨b.of, kvs, kk3 e g i, q2, .non, rfl, rfl, sq2 _ _ x1, ?_, fun v hv => ?_, fun hv => ?_⟩
      · rw [Int.zero_add]; exact upd_same
      · refine hide ⟨_, _, rfl, upd_same, Nat.le_trans (dropK_le kvs _) x2, fun e' f' o' he ho => ?_, x4.trans ((Same.chg sq2).trans Chg.upd)⟩
        rw [valV_dropG, x3 e' f' o' he ho]
        by_cases q : e' = e ∧ f' = g ∧ o' = i
        · obtain ⟨rfl, rfl, rfl⟩ := q
          rw [if_pos rfl, if_pos ⟨rfl, rfl, by omega⟩]; rfl
        · rw [if_neg (fun z => q (kk3_inj.mp z))]
          by_cases y : e' = e ∧ f' = g ∧ o' < i
          · rw [if_pos y, if_pos ⟨y.1, y.2.1, by omega⟩]
          · rw [if_neg y, if_neg (fun z => y ⟨z.1, z.2.1, by
              have : o' ≠ i := fun h => q ⟨z.1, z.2.1, h⟩
              omega⟩)]
      · refine hide ⟨_, _, rfl, sq2 _ _ x1, x2, fun e' f' o' he ho => ?_, x4.trans (Same.chg sq2)⟩
        rw [x3 e' f' o' he ho]
        by_cases q : e' = e ∧ f' = g ∧ o' = i
        · obtain ⟨rfl, rfl, rfl⟩ := q
          have := x3 e' f' o' he ho
          rw [hv] at this
          rw [← this, if_pos ⟨rfl, rfl, by omega⟩]; rfl
        · by_cases y : e' = e ∧ f' = g ∧ o' < i
          · rw [if_pos y, if_pos ⟨y.1, y.2.1, by omega⟩]
          · rw [if_neg y, if_neg (fun z => y ⟨z.1, z.2.1, by
              have : o' ≠ i := fun h => q ⟨z.1, z.2.1, h⟩
              omega⟩)]
    · rintro σ Hx hh
      obtain ⟨v7, kvs, rfl, x1, x2, x3, x4⟩ := hh.out
      have rgof := B.rgof
      have cc : ∀ z o, z ≠ d → z ≠ b.rg → z ≠ b.of → H z = some o → Hx z = some o := fun z o n1 n2 n3 h => x4 _ _ n3 (k2 _ _ n2 (c1 _ _ n1 h))
      refine k Hx (B.fin hd (fun z o nz h => cc z o (fun y => nz (.inl (by rw [y]; exact dm))) (fun y => nz (.inr (.inl y))) (fun y => nz (.inr (.inr y))) h) (fun z o hz nz h => cc z o nz (fun y => kb3 (by rw [← y]; exact hz)) (fun y => kb4 (by rw [← y]; exact hz)) h) ?_ ⟨_, x4 _ _ rgof rg2, Nat.le_trans (dropK_le _ _) r3, fun e' f' he => ?_⟩ ⟨kvs, x1, x2, fun e' f' o' he ho => ?_⟩) (fun z o nz h => cc z o (fun y => nz (.inl (by rw [y]; exact dm))) (fun y => nz (.inr (.inl y))) (fun y => nz (.inr (.inr y))) h)
      · exact x4 _ _ (fun y => kb4 (by rw [← y]; exact dm)) (k2 _ _ (fun y => kb3 (by rw [← y]; exact dm)) n1)
      · rw [valV_dropG, r4' e' f' he, getD_set el]
        by_cases q : e' = e
        · subst q
          rw [if_pos rfl, get_drop]
          by_cases q2 : f' = g
          · subst q2
            rw [if_pos rfl, if_pos rfl]; rfl
          · rw [if_neg (fun z => q2 (kk2_inj.mp z).2), if_neg q2, eg]
        · rw [if_neg (fun z => q (kk2_inj.mp z).1), if_neg q]
      · rw [x3 e' f' o' he ho]
        unfold offDrop
        by_cases q : e' = e ∧ f' = g
        · rw [if_pos ⟨q.1, q.2, ho⟩, if_pos q]
        · rw [if_neg (fun z => q ⟨z.1, z.2.1⟩), if_neg q]
end
end My

namespace My
open PySem L2
local macro_rules | `(tactic| walk_at "ne") => `(tactic| first | assumption | exact Ne.symm (by assumption) | exact ne_of_none (by assumption) (by assumption) | exact Ne.symm (ne_of_none (by assumption) (by assumption)))
local macro_rules | `(tactic| walk_at "hp") => `(tactic| first | assumption | with_reducible exact upd_same | (with_reducible refine Eq.trans (upd_ne ?_) ?_; rotate_left; walk_at "hp"; walk_at "ne"))
local macro_rules | `(tactic| walk_at "cnd") => `(tactic| first | omega | (show (0 : Int) < _; omega) | exact ⟨by omega, by omega⟩ | exact Or.inl ⟨by omega, by omega⟩ | exact Or.inr ⟨by omega, by omega⟩ | exact ⟨by omega, by omega, by decide⟩ | exact ⟨by omega, by omega, by omega⟩)
local macro_rules | `(tactic| walk_at "at") => `(tactic| first | exact atC 0 rfl rfl | exact atC 1 rfl rfl | exact atC 2 rfl rfl | exact atC 3 rfl rfl | exact atC 4 rfl rfl | exact atC 5 rfl rfl | exact atC 6 rfl rfl | exact atC 7 rfl rfl)
local macro_rules | `(tactic| walk_at "ix") => `(tactic| first | exact ixC 0 rfl (Nat.le_of_ble_eq_true rfl) | exact ixC 1 rfl (Nat.le_of_ble_eq_true rfl) | exact ixC 2 rfl (Nat.le_of_ble_eq_true rfl) | exact ixC 3 rfl (Nat.le_of_ble_eq_true rfl) | exact ixC 4 rfl (Nat.le_of_ble_eq_true rfl) | exact ixC 5 rfl (Nat.le_of_ble_eq_true rfl))
local macro_rules | `(tactic| walk_at "st") => `(tactic| first
  | refine ⟨_, rfl, ?_⟩
  | refine ⟨_, _, rfl, rfl, (by walk_at "cnd" : (_ : Prop)), ?_⟩
  | refine ⟨_, _, rfl, rfl, ?_⟩
  | refine ⟨rfl, ?_⟩
  | refine Or.inl ⟨_, rfl, ?_⟩
  | refine ⟨_, _, _, _, rfl, rfl, by exact SqL.of (by walk_at "hp"), by walk_at "at", ?_⟩
  | refine ⟨_, _, _, _, rfl, rfl, by exact SqT.of (by walk_at "hp"), by walk_at "at", ?_⟩
  | refine ⟨_, _, _, _, rfl, rfl, by walk_at "hp", by walk_at "ix", ?_⟩
  | refine ⟨_, _, rfl, Or.inl (by exact SqL.of (by walk_at "hp")), ?_⟩
  | refine ⟨_, _, rfl, Or.inr (by exact SqT.of (by walk_at "hp")), ?_⟩)
local macro_rules | `(tactic| walk_at "so") => `(tactic| first
  | refine ⟨_, _, _, _, _, rfl, by walk_at "hp", by assumption, by assumption, rfl, ?_⟩
  | refine ⟨_, _, _, _, rfl, by walk_at "hp", by assumption, by assumption, Nat.le_of_ble_eq_true rfl, ?_⟩
  | refine ⟨_, _, _, rfl, by walk_at "hp", rfl, ?_⟩
  | walk_at "st")
local macro_rules | `(tactic| walk_at "ro") => `(tactic| repeat walk_at "so")
local macro_rules | `(tactic| walk_at "run") => `(tactic| repeat walk_at "st")

theorem flat_vN : ∀ ns : List Nat, (ns.map vN).all flatV = true
  | [] => rfl
  | n :: ns => by
    show (flatV (vN n) && (ns.map vN).all flatV) = true
    rw [flat_vN ns]; rfl
theorem inV_nat (n : Nat) : ∀ ns : List Nat, inV (.int (n : Int)) (ns.map vN) = decide (n ∈ ns)
  | [] => by simp [inV]
  | m :: ns => by
    have ih := inV_nat n ns
    unfold inV at ih ⊢
    rw [List.map_cons, List.any_cons, ih]
    have e : eqV (vN m) (.int (n : Int)) = decide (m = n) := by
      show ((m : Int) == (n : Int)) = decide (m = n)
      by_cases h : m = n
      · rw [h]; simp
      · rw [decide_eq_false h]; simp; omega
    rw [e]
    by_cases h : m = n <;> by_cases h2 : n ∈ ns <;> simp [h, h2] <;> omega
section
variable {X : Cx} (K : PySem.W.Frag)
theorem kTruth {a : Expr} {ta : TE} (ha : PE X a ta) (he : ∀ whole, isTrue a X.env whole = (do let v ← whole; standAt a.pos; holding [v] (truthy v))) (h : X.K = K := by rfl) :
    PT X a (fun σ H Q => ta σ H fun x H' => ∃ k, TruV K x H' k ∧ Q k H') := by subst h; exact pt_truth ha he
end
def spTakeL : Sp := fun vs H Q _ => ∃ (b : BA) (sp : Addr) (s : FS) (off : Nat → Nat → Nat → Option Bool) (n e : Nat), vs = [.ref b.bk, .ref sp, .int (s.m : Int), .int (e : Int)] ∧ Bh H b s.rt off n ∧ NsL H sp s.sh ∧ s.rt.length = 4 ∧ s.sh.length = 4 ∧ s.m ≤ 64 ∧ e < 4 ∧ n ≤ 1000 ∧ (s.rt.getD e []).length ≤ 1000 ∧
  (freeT s s.m = [] ∨ moreOf s (eD e) = false → ∀ H', Same H H' → Q .non H') ∧
  (moreOf s (eD e) = true → ∀ f, (freeT s s.m).head? = some f → ∀ H', Bh H' b (s.rt.set e (s.rt.getD e [] ++ [(f, true)])) off (n + 1) → ChgP (bhS b) H H' → Q (.int (f : Int)) H')
theorem held_at {s : FS} {g j : Nat} (h4 : s.rt.length = 4) : (List.range 4).any (fun j => decide (g ∈ keysR (s.rt.getD j []))) = heldBy s g := by
  unfold heldBy
  match q : s.rt, h4 with
  | [a, b, c, d], _ =>
    show ([0, 1, 2, 3] : List Nat).any _ = [a, b, c, d].any _
    have one : ∀ l : RL, decide (g ∈ keysR l) = (getR l g).isSome := fun l => by
      cases y : getR l g with
      | none => exact decide_eq_false fun z => mem_get.mp z y
      | some v => exact decide_eq_true (mem_get.mpr (by rw [y]; exact fun z => by cases z))
    simp only [List.any_cons, List.any_nil]
    show (decide (g ∈ keysR a) || (decide (g ∈ keysR b) || (decide (g ∈ keysR c) || (decide (g ∈ keysR d) || false)))) = _
    rw [one, one, one, one]
section
variable {P : Program} {w : World} {K : PySem.W.Frag} {mg : Str → Option Value} {base : Heap} {C_Frames C_NotValid : Addr}
abbrev s_law_take : Stmt := topS 24
abbrev ns_law_take : List Str := ["book", "shares", "many", "environment", "held", "rights", "offers", "wanted", "free", "frame", "one"]
theorem sc_law_take : FnScope ns_law_take ["book", "shares", "many", "environment"] (defScope s_law_take) := ⟨rfl, rfl, rfl, by decide +kernel, rfl, by decide +kernel, by decide +kernel⟩

theorem ok_law_take {f : Addr} {fd : FuncData} (F : Fun K "_law_take" "_law_take" s_law_take f fd) (T : Txt K mg C_Frames C_NotValid) (D_law_more : Dfn P w K mg base CX0 1 "_law_more" ["held", "shares", "many", "environment"] spMoreL) : FnOk P w K mg base CX0 2 f fd ["book", "shares", "many", "environment"] spTakeL := by
  refine F.ok sc_law_take (fun vs H Q E h => ?_) (fun cdv A outer s H vs Q E hr h => ?_)
  · obtain ⟨b, sp, s, off, n, e, rfl, _⟩ := h
    rfl
  · obtain ⟨b, sp, s', off, n, e, rfl, B, hsp, r4, sh4, m64, e4, nz, hz, kn, kt⟩ := h
    refine ⟨_, (pss_cons (ps_asg (pv 0) (kpgT K (n := 4) (by rfl) (pgs_cons (pg_name (i := 4) sc_law_take.nd rfl (Or.inr rfl)) (pgs_cons (pg_name (i := 5) sc_law_take.nd rfl (Or.inl rfl)) (pgs_cons (pg_name (i := 6) sc_law_take.nd rfl (Or.inl rfl)) (pgs_cons (pg_name (i := 7) sc_law_take.nd rfl (Or.inl rfl)) pgs_nil))))))
  (pss_cons (ps_setLc (i := 8) (own := [("frame", 9)]) (by rfl) sc_law_take.nd rfl rfl (sw_true rfl rfl rfl (by decide +kernel)) (pi_range1 (by rfl) T.b_range (pa_cons (pv 2) pa_nil)) (blkOk_by (N := ns_law_take) (sc := defScope s_law_take) (by decide +kernel)) (fun _ _ _ _ _ => (pg_name (i := 9) sc_law_take.nd rfl (Or.inr rfl))) (fun _ _ _ _ _ => (pts_one (pt_not (kTruth K (pe_lc (own := [("one", 10)]) (by rfl) sc_law_take.nd (pi_range1 (by rfl) T.b_range (pa_cons pe_int pa_nil)) (blkOk_by (N := ns_law_take) (sc := { kind := .function, names := [(".0", .local), ("frame", .cell), ("range", .globalImplicit), ("held", .cell)], isGenerator := false, isCoroutine := false }) (by decide +kernel)) (fun _ _ _ _ _ => (pg_name (i := 10) sc_law_take.nd rfl (Or.inl rfl))) (fun _ _ _ _ _ => (pts_one (pt_cmpR (kIn K) (pv 9) (pe_ix (kIxL K) (pv 4) (pv 10) (fun _ _ => rfl)) (by rfl)))) (fun _ _ _ _ _ => pe_int)) (by intro _; rfl))))) (fun _ _ _ _ _ => (pv 9)))
  (pss_cons (ps_if (PW.pt (pw_or (pt_not (pt_truth (pv 8) (by intro _; rfl))) (pw_or1 (pt_not (pt_val (pe_dcall D_law_more (hr.mono (by decide)) (by rfl) pass0 (pa_cons (pv 4) (pa_cons (pv 1) (pa_cons (pv 2) (pa_cons (pv 3) pa_nil)))))))))) (pss_one (ps_ret pe_non)) pss_nil)
  (pss_cons (ps_expr (kBM K PySem.F.plainAttrs_list PySem.F.slot_list_append PySem.F.type_list_append mt_append (pe_ix (kIxL K) (pv 4) (pv 3) (fun _ _ => rfl)) (pa_cons (pe_ix (kIxL K) (pv 8) pe_int (fun _ _ => rfl)) pa_nil)))
  (pss_cons (ps_dput (units1 hr) (pv 5) (pe_tup (pa_cons (pv 3) (pa_cons (pe_ix (kIxL K) (pv 8) pe_int (fun _ _ => rfl)) pa_nil))) pe_str rfl)
  (pss_one (ps_ret (pe_ix (kIxL K) (pv 8) pe_int (fun _ _ => rfl))))))))), ?_⟩
    have h1 := B.tup
    have h2 := B.hdl
    have one : ∀ j, j < 4 → ∃ d, b.h[j]? = some d ∧ H d = some (.lst ((keysR (s'.rt.getD j [])).map vN)) := fun j hj => by
      obtain ⟨d, hd, q⟩ := B.hs.at (List.getElem?_eq_getElem (show j < s'.rt.length by omega))
      refine ⟨d, hd, ?_⟩
      rw [show s'.rt.getD j [] = s'.rt[j]'(by omega) from by rw [List.getD_eq_getElem?_getD, List.getElem?_eq_getElem]; rfl]
      exact q
    walk_at "ro"
    refine ⟨_, _, rfl, SqT.of h1, rfl, _, _, rfl, _, _, rfl, _, _, rfl, _, _, rfl, rfl, ?_⟩
    walk_at "ro"
    refine ⟨by omega, by omega, fun D hD => ?_⟩
    refine lc_range (lo := 0) (n := ((s'.m : Int) - 0).toNat) (fun j Hx => Hx D = some (.lst ((freeT s' j).map vN)) ∧ Same H Hx) ⟨upd_same, Same.new hD⟩ ?_ ?_
    · rintro j Hx hj ⟨hx1, sx⟩
      have fl := freeT_len s' j
      refine ⟨rfl, ?_⟩
      have h2x := sx _ _ h2
      show tNot _ _ _ _
      refine ⟨4, rfl, by decide, by decide, fun D2 hD2 => ?_⟩
      have ev : ∀ i, i ≤ 4 → ((List.range i).filter (fun i => decide (j ∈ keysR (s'.rt.getD i [])))).length ≤ i := fun i _ => Nat.le_trans (List.length_filter_le _ _) (by rw [List.length_range]; exact Nat.le_refl _)
      refine lc_range (lo := 0) (n := ((4 : Int) - 0).toNat) (fun i Hy => Hy D2 = some (.lst (((List.range i).filter (fun i => decide (j ∈ keysR (s'.rt.getD i [])))).map fun _ => V.int 1)) ∧ Same Hx Hy) ⟨upd_same, Same.new hD2⟩ ?_ ?_
      · rintro i Hy hi ⟨hy1, sy⟩
        have hi4 : i < 4 := hi
        obtain ⟨d, hd1, hd2⟩ := one i hi4
        have hd2 := sy _ _ (sx _ _ hd2)
        have h2y := sy _ _ h2x
        have l1 := ev i (by omega)
        refine ⟨rfl, ?_⟩
        walk_at "ro"
        refine ⟨_, _, _, _, rfl, rfl, SqL.of h2y, atC i (by omega) (by rw [List.getElem?_map, hd1]; rfl), ?_⟩
        refine ⟨d, _, rfl, .inl (SqL.of hd2), rfl, flat_vN _, _, rfl, ?_⟩
        show if inV _ _ = true then _ else _
        rw [Int.zero_add, inV_nat, List.range_succ, List.filter_append]
        by_cases q : j ∈ keysR (s'.rt.getD i [])
        · rw [decide_eq_true q]
          refine iteT ?_
          walk_at "ro"
          refine ⟨_, hy1, by rw [List.length_map]; exact szt (by omega), ?_, Same.mut sy hD2⟩
          rw [upd_same, List.filter_cons_of_pos (by rw [decide_eq_true q]), List.map_append]; rfl
        · rw [decide_eq_false q]
          refine iteF ?_
          refine ⟨?_, sy⟩
          rw [List.filter_cons_of_neg (by rw [decide_eq_false q]; decide), List.filter_nil, List.append_nil]
          exact hy1
      · rintro Hy ⟨hy1, sy⟩
        have hb : (((List.range (Int.toNat (4 - 0))).filter (fun i => decide (j ∈ keysR (s'.rt.getD i [])))).map fun _ => V.int 1).isEmpty = !heldBy s' j := by
          rw [← held_at (g := j) (j := 0) r4, List.isEmpty_map]
          show (List.filter _ (List.range 4)).isEmpty = _
          cases y : (List.range 4).any fun i => decide (j ∈ keysR (s'.rt.getD i [])) with
          | true =>
            obtain ⟨i, hi, hp⟩ := List.any_eq_true.mp y
            cases z : (List.range 4).filter fun i => decide (j ∈ keysR (s'.rt.getD i [])) with
            | nil =>
              have : i ∈ (List.range 4).filter fun i => decide (j ∈ keysR (s'.rt.getD i [])) := List.mem_filter.mpr ⟨hi, hp⟩
              rw [z] at this; cases this
            | cons a l => rfl
          | false =>
            cases z : (List.range 4).filter fun i => decide (j ∈ keysR (s'.rt.getD i [])) with
            | nil => rfl
            | cons a l =>
              have : a ∈ (List.range 4).filter fun i => decide (j ∈ keysR (s'.rt.getD i [])) := by rw [z]; exact List.mem_cons_self
              obtain ⟨h1, h2⟩ := List.mem_filter.mp this
              rw [List.any_eq_false] at y
              exact absurd h2 (y a h1)
        refine ⟨_, .inl ⟨_, SqL.of hy1, rfl⟩, ?_⟩
        rw [hb, Bool.not_not]
        have hx2 := sy _ _ hx1
        have sxy := sx.trans sy
        cases e : heldBy s' j with
        | true =>
          refine iteF ?_
          refine ⟨?_, sxy⟩
          rw [freeT_snoc, e, if_pos rfl, List.append_nil]
          exact hx2
        | false =>
          refine iteT ?_
          walk_at "ro"
          refine ⟨_, hx2, szt (by rw [List.length_map]; omega), ?_, Same.mut sxy hD⟩
          rw [upd_same, freeT_snoc, e, Int.zero_add, List.map_append]; rfl
    · rintro Hx ⟨hx1, sx⟩
      have h1x := sx _ _ h1
      rw [show ((s'.m : Int) - 0).toNat = s'.m by omega] at hx1
      walk_at "ro"
      refine ⟨_, .inl ⟨_, SqL.of hx1, rfl⟩, ?_⟩
      cases ef : freeT s' s'.m with
      | nil =>
        refine iteT ?_
        walk_at "ro"
        exact kn (.inl ef) Hx sx
      | cons g gs =>
        refine iteF ?_
        rw [ef] at hx1
        have h2x := sx _ _ h2
        walk_at "ro"
        refine ⟨b.hd, sp, b.h, s', e, rfl, e4, h2x, (B.same sx).hs, sx _ _ hsp, r4, sh4, fun H2 s2 => ?_⟩
        refine ⟨_, rfl, ?_⟩
        have s02 := sx.trans s2
        cases em : moreOf s' (eD e) with
        | false =>
          refine iteT ?_
          walk_at "ro"
          exact kn (.inr em) H2 s02
        | true =>
          refine iteF ?_
          have kt := kt em g (by rw [ef]; rfl)
          have hx2 := s2 _ _ hx1
          obtain ⟨d, hd1, hd20⟩ := one e e4
          have hd2 := s02 _ _ hd20
          have h22 := s02 _ _ h2
          have B2 := B.same s02
          have dm := List.mem_of_getElem? hd1
          obtain ⟨kb1, kb2, kb3, kb4⟩ := B2.kinds
          obtain ⟨r1, r2, r3, r5⟩ := B2.rgs
          obtain ⟨o1, o2, o3, o4⟩ := B2.ofs
          have Dd : D ≠ d := (ne_of_none hd20 hD).symm
          walk_at "ro"
          refine ⟨_, _, _, _, rfl, rfl, SqL.of h22, atC e rfl (by rw [List.getElem?_map, hd1]; rfl), ?_⟩
          walk_at "ro"
          refine ⟨.inl ⟨rfl, _, SqL.of hd2⟩, ?_⟩
          walk_at "ro"
          refine ⟨d, _, _, rfl, rfl, hd2, by rw [List.length_map, keys_len]; exact szt (by omega), ?_⟩
          have ek : (keysR (s'.rt.getD e [])).map vN ++ [vN g] = (keysR (s'.rt.getD e [] ++ [(g, true)])).map vN := by
            unfold keysR
            rw [List.map_append, List.map_append]; rfl
          rw [ek]
          have n3 : NsL (upd H2 d (.lst ((keysR (s'.rt.getD e [] ++ [(g, true)])).map vN))) d (keysR (s'.rt.getD e [] ++ [(g, true)])) := upd_same
          have c3 : Chg d H2 (upd H2 d (.lst ((keysR (s'.rt.getD e [] ++ [(g, true)])).map vN))) := Chg.upd
          generalize upd H2 d (.lst ((keysR (s'.rt.getD e [] ++ [(g, true)])).map vN)) = H3 at n3 c3
          have hx3 := c3 _ _ Dd hx2
          have r23 := c3 _ _ (fun z => kb3 (by rw [z]; exact dm)) r2
          have o23 := c3 _ _ (fun z => kb4 (by rw [z]; exact dm)) o2
          walk_at "ro"
          refine ⟨szl rfl, fun q1 hq1 => ?_⟩
          have sq1 := Same.new (o := .tup [.int (e : Int), vN g]) hq1
          refine ⟨b.rg, _, rfl, DPut.t (k := kk2 e g) (sq1 _ _ r23) upd_same (szt (by omega)), ?_⟩
          have k4 : Chg b.rg H3 (upd (upd H3 q1 (.tup [.int (e : Int), vN g])) b.rg (.dT (putK r1 (kk2 e g) (.str "rw")))) := (Same.chg sq1).trans Chg.upd
          have rg4 : (upd (upd H3 q1 (.tup [.int (e : Int), vN g])) b.rg (.dT (putK r1 (kk2 e g) (.str "rw")))) b.rg = some (.dT (putK r1 (kk2 e g) (.str "rw"))) := upd_same
          have Drg : D ≠ b.rg := ne_of hx3 r23 (by intro z; cases z)
          generalize upd (upd H3 q1 (.tup [.int (e : Int), vN g])) b.rg (.dT (putK r1 (kk2 e g) (.str "rw"))) = H4 at k4 rg4
          have hx4 := k4 _ _ Drg hx3
          walk_at "ro"
          have cc : ∀ z o, z ≠ d → z ≠ b.rg → H2 z = some o → H4 z = some o := fun z o n1 n2 h => k4 _ _ n2 (c3 _ _ n1 h)
          have el : e < s'.rt.length := by omega
          have c24 : ChgP (bhS b) H2 H4 := fun z o nz h => cc z o (fun y => nz (.inl (by rw [y]; exact dm))) (fun y => nz (.inr (.inl y))) h
          refine kt H4 (B2.fin hd1 c24 (fun z o hz nz h => cc z o nz (fun y => kb3 (by rw [← y]; exact hz)) h) (k4 _ _ (fun y => kb3 (by rw [← y]; exact dm)) n3) ⟨_, rg4, Nat.le_trans (length_putK _ _ _) (by omega), fun e' f' he => ?_⟩ ⟨o1, k4 _ _ (fun y => B.rgof y.symm) o23, by omega, o4⟩) ((ChgP.same s02).trans c24)
          have gn : getR (s'.rt.getD e []) g = none := (free_get (s := s') (n := s'.m) (f := g) (by rw [ef]; exact List.mem_cons_self)).2 e
          rw [valV_put, r5 e' f' he, getD_set el]
          by_cases q : e' = e
          · subst q
            rw [if_pos rfl, ← putR_new true gn, get_put]
            by_cases q2 : f' = g
            · subst q2
              rw [if_pos rfl, if_pos rfl]; rfl
            · rw [if_neg (fun z => q2 (kk2_inj.mp z).2), if_neg q2]
          · rw [if_neg (fun z => q (kk2_inj.mp z).1), if_neg q]
end
end My

namespace My
open PySem L2
local macro_rules | `(tactic| walk_at "ne") => `(tactic| first | assumption | exact Ne.symm (by assumption) | exact ne_of_none (by assumption) (by assumption) | exact Ne.symm (ne_of_none (by assumption) (by assumption)))
local macro_rules | `(tactic| walk_at "hp") => `(tactic| first | assumption | with_reducible exact upd_same | (with_reducible refine Eq.trans (upd_ne ?_) ?_; rotate_left; walk_at "hp"; walk_at "ne"))
local macro_rules | `(tactic| walk_at "cnd") => `(tactic| first | omega | (show (0 : Int) < _; omega) | exact ⟨by omega, by omega⟩ | exact Or.inl ⟨by omega, by omega⟩ | exact Or.inr ⟨by omega, by omega⟩ | exact ⟨by omega, by omega, by decide⟩ | exact ⟨by omega, by omega, by omega⟩)
local macro_rules | `(tactic| walk_at "at") => `(tactic| first | exact atC 0 rfl rfl | exact atC 1 rfl rfl | exact atC 2 rfl rfl | exact atC 3 rfl rfl | exact atC 4 rfl rfl | exact atC 5 rfl rfl | exact atC 6 rfl rfl | exact atC 7 rfl rfl)
local macro_rules | `(tactic| walk_at "ix") => `(tactic| first | exact ixC 0 rfl (Nat.le_of_ble_eq_true rfl) | exact ixC 1 rfl (Nat.le_of_ble_eq_true rfl) | exact ixC 2 rfl (Nat.le_of_ble_eq_true rfl) | exact ixC 3 rfl (Nat.le_of_ble_eq_true rfl) | exact ixC 4 rfl (Nat.le_of_ble_eq_true rfl) | exact ixC 5 rfl (Nat.le_of_ble_eq_true rfl))
local macro_rules | `(tactic| walk_at "st") => `(tactic| first
  | refine ⟨_, rfl, ?_⟩
  | refine ⟨_, _, rfl, rfl, (by walk_at "cnd" : (_ : Prop)), ?_⟩
  | refine ⟨_, _, rfl, rfl, ?_⟩
  | refine ⟨rfl, ?_⟩
  | refine Or.inl ⟨_, rfl, ?_⟩
  | refine ⟨_, _, _, _, rfl, rfl, by exact SqL.of (by walk_at "hp"), by walk_at "at", ?_⟩
  | refine ⟨_, _, _, _, rfl, rfl, by exact SqT.of (by walk_at "hp"), by walk_at "at", ?_⟩
  | refine ⟨_, _, _, _, rfl, rfl, by walk_at "hp", by walk_at "ix", ?_⟩
  | refine ⟨_, _, rfl, Or.inl (by exact SqL.of (by walk_at "hp")), ?_⟩
  | refine ⟨_, _, rfl, Or.inr (by exact SqT.of (by walk_at "hp")), ?_⟩)
local macro_rules | `(tactic| walk_at "so") => `(tactic| first
  | refine ⟨_, _, _, _, _, rfl, by walk_at "hp", by assumption, by assumption, rfl, ?_⟩
  | refine ⟨_, _, _, _, rfl, by walk_at "hp", by assumption, by assumption, Nat.le_of_ble_eq_true rfl, ?_⟩
  | refine ⟨_, _, _, rfl, by walk_at "hp", rfl, ?_⟩
  | walk_at "st")
local macro_rules | `(tactic| walk_at "ro") => `(tactic| repeat walk_at "so")
local macro_rules | `(tactic| walk_at "run") => `(tactic| repeat walk_at "st")

def spAcceptL : Sp := fun vs H Q _ => ∃ (b : BA) (sp : Addr) (s : FS) (off : Nat → Nat → Nat → Option Bool) (n e f o : Nat), vs = [.ref b.bk, .ref sp, .int (s.m : Int), .int (e : Int), .int (f : Int), .int (o : Int)] ∧ Bh H b s.rt off n ∧ NsL H sp s.sh ∧ s.rt.length = 4 ∧ s.sh.length = 4 ∧ e < 4 ∧ o < 4 ∧ n ≤ 1000 ∧ (s.rt.getD e []).length ≤ 1000 ∧
  (inclO (getR (s.rt.getD o []) f) (off o f e) = false ∨ getR (s.rt.getD e []) f ≠ none ∨ moreOf s (eD e) = false → ∀ H', Same H H' → Q (.bl false) H') ∧
  (∀ c, off o f e = some c → inclO (getR (s.rt.getD o []) f) (some c) = true → getR (s.rt.getD e []) f = none → moreOf s (eD e) = true → ∀ H', Bh H' b (s.rt.set e (s.rt.getD e [] ++ [(f, c)])) (offSet off o f e none) (n + 1) → ChgP (bhS b) H H' → Q (.bl true) H')
theorem in_incl (x : Option Bool) (c : Bool) : inV (optR x) [rV c, .str "rw"] = inclO x (some c) := by
  rcases x with _ | (_ | _) <;> cases c <;> decide
theorem flat_opt (x : Option Bool) : flatV (optR x) = true := by rcases x with _ | (_ | _) <;> rfl
theorem opt_getD (x : Option Bool) : (x.map rV).getD .non = optR x := by rcases x with _ | (_ | _) <;> rfl
section
variable {P : Program} {w : World} {K : PySem.W.Frag} {mg : Str → Option Value} {base : Heap} {C_Frames C_NotValid : Addr}
abbrev s_law_accept : Stmt := topS 25
abbrev ns_law_accept : List Str := ["book", "shares", "many", "environment", "frame", "owner", "held", "rights", "offers", "wanted", "right"]
theorem sc_law_accept : FnScope ns_law_accept ["book", "shares", "many", "environment", "frame", "owner"] (defScope s_law_accept) := ⟨rfl, rfl, rfl, by decide +kernel, rfl, by decide +kernel, by decide +kernel⟩

theorem ok_law_accept {f : Addr} {fd : FuncData} (F : Fun K "_law_accept" "_law_accept" s_law_accept f fd) (T : Txt K mg C_Frames C_NotValid) (D_law_more : Dfn P w K mg base CX0 1 "_law_more" ["held", "shares", "many", "environment"] spMoreL) : FnOk P w K mg base CX0 2 f fd ["book", "shares", "many", "environment", "frame", "owner"] spAcceptL := by
  refine F.ok sc_law_accept (fun vs H Q E h => ?_) (fun cdv A outer s H vs Q E hr h => ?_)
  · obtain ⟨b, sp, s, off, n, e, g, o, rfl, _⟩ := h
    rfl
  · obtain ⟨b, sp, s', off, n, e, g, o, rfl, B, hsp, r4, sh4, e4, oo4, nz, hz, kn, kt⟩ := h
    refine ⟨_, (pss_cons (ps_asg (pv 0) (kpgT K (n := 4) (by rfl) (pgs_cons (pg_name (i := 6) sc_law_accept.nd rfl (Or.inl rfl)) (pgs_cons (pg_name (i := 7) sc_law_accept.nd rfl (Or.inl rfl)) (pgs_cons (pg_name (i := 8) sc_law_accept.nd rfl (Or.inl rfl)) (pgs_cons (pg_name (i := 9) sc_law_accept.nd rfl (Or.inl rfl)) pgs_nil))))))
  (pss_cons (ps_set (i := 10) sc_law_accept.nd rfl (Or.inl rfl) (pe_dget1 (units1 hr) (pv 8) (pe_tup (pa_cons (pv 5) (pa_cons (pv 4) (pa_cons (pv 3) pa_nil)))) ⟨rfl, rfl, rfl, rfl⟩))
  (pss_cons (ps_if (PW.pt (pw_or (pt_cmpR op_isN (pv 10) pe_non (nomark _)) (pw_or (pt_cmpR (kNotIn K) (pe_dget1 (units1 hr) (pv 7) (pe_tup (pa_cons (pv 5) (pa_cons (pv 4) pa_nil))) ⟨rfl, rfl, rfl, rfl⟩) (pe_tup (pa_cons (pv 10) (pa_cons pe_str pa_nil))) (by rfl)) (pw_or1 (pt_cmp (pc_din (units1 hr) (pe_tup (pa_cons (pv 3) (pa_cons (pv 4) pa_nil))) (pv 7))))))) (pss_one (ps_ret pe_bl)) pss_nil)
  (pss_cons (ps_if (pt_not (pt_val (pe_dcall D_law_more (hr.mono (by decide)) (by rfl) pass0 (pa_cons (pv 6) (pa_cons (pv 1) (pa_cons (pv 2) (pa_cons (pv 3) pa_nil))))))) (pss_one (ps_ret pe_bl)) pss_nil)
  (pss_cons (ps_expr (kBM K PySem.F.plainAttrs_dict PySem.F.slot_dict_pop PySem.F.type_dict_pop (mt_popT1 (units1 hr)) (pv 8) (pa_cons (pe_tup (pa_cons (pv 5) (pa_cons (pv 4) (pa_cons (pv 3) pa_nil)))) pa_nil)))
  (pss_cons (ps_expr (kBM K PySem.F.plainAttrs_list PySem.F.slot_list_append PySem.F.type_list_append mt_append (pe_ix (kIxL K) (pv 6) (pv 3) (fun _ _ => rfl)) (pa_cons (pv 4) pa_nil)))
  (pss_cons (ps_dput (units1 hr) (pv 7) (pe_tup (pa_cons (pv 3) (pa_cons (pv 4) pa_nil))) (pv 10) rfl)
  (pss_one (ps_ret pe_bl))))))))), ?_⟩
    have h1 := B.tup
    obtain ⟨r1, r2, r3, r5⟩ := B.rgs
    obtain ⟨o1, o2, o3, o4⟩ := B.ofs
    walk_at "ro"
    refine ⟨_, _, rfl, SqT.of h1, rfl, _, _, rfl, _, _, rfl, _, _, rfl, _, _, rfl, rfl, ?_⟩
    walk_at "ro"
    refine ⟨.inr ⟨_, .inl o2⟩, ?_⟩
    walk_at "ro"
    refine ⟨szl rfl, fun q1 hq1 => ?_⟩
    have sq1 := Same.new (o := .tup [.int (o : Int), .int (g : Int), .int (e : Int)]) hq1
    refine ⟨_, DGet.t (k := kk3 o g e) (sq1 _ _ o2) upd_same, ?_⟩
    rw [o4 o g e oo4 e4, opt_getD]
    cases eo : off o g e with
    | none =>
      walk_at "ro"
      exact kn (.inl (by rw [eo]; rcases getR (s'.rt.getD o []) g with _ | (_ | _) <;> rfl)) _ sq1
    | some c =>
      walk_at "ro"
      have B1 := B.same sq1
      have r21 := sq1 _ _ r2
      refine ⟨.inr ⟨_, .inl r21⟩, ?_⟩
      walk_at "ro"
      refine ⟨szl rfl, fun q2 hq2 => ?_⟩
      have sq2 := Same.new (o := .tup [.int (o : Int), .int (g : Int)]) hq2
      refine ⟨_, DGet.t (k := kk2 o g) (sq2 _ _ r21) upd_same, ?_⟩
      rw [r5 o g oo4, opt_getD]
      walk_at "ro"
      refine ⟨szl rfl, fun q3 hq3 => ?_⟩
      have sq3 := Same.new (o := .tup [optR (some c), .str "rw"]) hq3
      refine ⟨q3, _, rfl, .inr (SqT.of upd_same), flat_opt _, by cases c <;> rfl, ?_⟩
      have ei : inV (optR (getR (s'.rt.getD o []) g)) [optR (some c), .str "rw"] = inclO (getR (s'.rt.getD o []) g) (some c) := in_incl _ _
      rw [ei]
      have s13 := (sq1.trans sq2).trans sq3
      refine ⟨_, rfl, ?_⟩
      cases e1 : inclO (getR (s'.rt.getD o []) g) (some c) with
      | false =>
        refine iteT ?_
        walk_at "ro"
        exact kn (.inl (by rw [eo]; exact e1)) _ s13
      | true =>
        refine iteF ?_
        have B3 := B.same s13
        have s13' := s13
        generalize upd (upd (upd H q1 (.tup [.int (o : Int), .int (g : Int), .int (e : Int)])) q2 (.tup [.int (o : Int), .int (g : Int)])) q3 (.tup [optR (some c), .str "rw"]) = H3 at s13' B3 ⊢
        have r23 := s13' _ _ r2
        walk_at "ro"
        refine ⟨szl rfl, fun q4 hq4 => ?_⟩
        have sq4 := Same.new (o := .tup [.int (e : Int), .int (g : Int)]) hq4
        refine ⟨_, rfl, b.rg, _, rfl, DGet.t (k := kk2 e g) (sq4 _ _ r23) upd_same, ?_⟩
        rw [r5 e g e4]
        refine ⟨_, rfl, ?_⟩
        have s14 := s13'.trans sq4
        cases e2 : getR (s'.rt.getD e []) g with
        | some c2 =>
          refine iteT ?_
          walk_at "ro"
          exact kn (.inr (.inl (by rw [e2]; intro z; cases z))) _ s14
        | none =>
          refine iteF ?_
          have B4 := B.same s14
          generalize upd H3 q4 (.tup [.int (e : Int), .int (g : Int)]) = H4 at s14 B4 ⊢
          walk_at "ro"
          refine ⟨b.hd, sp, b.h, s', e, rfl, e4, B4.hdl, B4.hs, s14 _ _ hsp, r4, sh4, fun H5 s5 => ?_⟩
          refine ⟨_, rfl, ?_⟩
          have s15 := s14.trans s5
          cases em : moreOf s' (eD e) with
          | false =>
            refine iteT ?_
            walk_at "ro"
            exact kn (.inr (.inr em)) H5 s15
          | true =>
            refine iteF ?_
            have kt := kt c eo e1 e2 em
            have B5 := B.same s15
            have o25 := s15 _ _ o2
            have r25 := s15 _ _ r2
            have el : e < s'.rt.length := by omega
            obtain ⟨d, hd, hdk⟩ := B5.hs.at (List.getElem?_eq_getElem el)
            have eg : s'.rt.getD e [] = s'.rt[e] := by rw [List.getD_eq_getElem?_getD, List.getElem?_eq_getElem el]; rfl
            have hdk : H5 d = some (.lst ((keysR s'.rt[e]).map vN)) := hdk
            have dm := List.mem_of_getElem? hd
            obtain ⟨kb1, kb2, kb3, kb4⟩ := B5.kinds
            have h5h := B5.hdl
            walk_at "ro"
            refine ⟨.inr (.inr (.inl ⟨rfl, .inr ⟨_, o25⟩⟩)), ?_⟩
            walk_at "ro"
            refine ⟨szl rfl, fun q5 hq5 => ?_⟩
            have sq5 := Same.new (o := .tup [.int (o : Int), .int (g : Int), .int (e : Int)]) hq5
            refine ⟨b.of, o1, kk3 o g e, q5, rV c, rfl, rfl, sq5 _ _ o25, upd_same, by rw [o4 o g e oo4 e4, eo]; rfl, ?_⟩
            have k6 : Chg b.of H5 (upd (upd H5 q5 (.tup [.int (o : Int), .int (g : Int), .int (e : Int)])) b.of (.dT (dropK o1 (kk3 o g e)))) := (Same.chg sq5).trans Chg.upd
            have of6 : (upd (upd H5 q5 (.tup [.int (o : Int), .int (g : Int), .int (e : Int)])) b.of (.dT (dropK o1 (kk3 o g e)))) b.of = some (.dT (dropK o1 (kk3 o g e))) := upd_same
            generalize upd (upd H5 q5 (.tup [.int (o : Int), .int (g : Int), .int (e : Int)])) b.of (.dT (dropK o1 (kk3 o g e))) = H6 at k6 of6 ⊢
            have h6h := k6 _ _ (fun z => kb2 (.inr (.inr z))) h5h
            have hdk6 := k6 _ _ (fun z => kb4 (by rw [← z]; exact dm)) hdk
            have r26 := k6 _ _ B.rgof r25
            walk_at "ro"
            refine ⟨_, _, _, _, rfl, rfl, SqL.of h6h, atC e rfl (by rw [List.getElem?_map, hd]; rfl), ?_⟩
            walk_at "ro"
            refine ⟨.inl ⟨rfl, _, SqL.of hdk6⟩, ?_⟩
            walk_at "ro"
            refine ⟨d, _, _, rfl, rfl, hdk6, by rw [List.length_map, keys_len, ← eg]; exact szt (by omega), ?_⟩
            have ek : (keysR s'.rt[e]).map vN ++ [.int (g : Int)] = (keysR (s'.rt.getD e [] ++ [(g, c)])).map vN := by
              unfold keysR
              rw [List.map_append, List.map_append, eg]; rfl
            rw [ek]
            have n7 : NsL (upd H6 d (.lst ((keysR (s'.rt.getD e [] ++ [(g, c)])).map vN))) d (keysR (s'.rt.getD e [] ++ [(g, c)])) := upd_same
            have c7 : Chg d H6 (upd H6 d (.lst ((keysR (s'.rt.getD e [] ++ [(g, c)])).map vN))) := Chg.upd
            generalize upd H6 d (.lst ((keysR (s'.rt.getD e [] ++ [(g, c)])).map vN)) = H7 at n7 c7 ⊢
            have r27 := c7 _ _ (fun z => kb3 (by rw [z]; exact dm)) r26
            have of7 := c7 _ _ (fun z => kb4 (by rw [z]; exact dm)) of6
            walk_at "ro"
            refine ⟨szl rfl, fun q6 hq6 => ?_⟩
            have sq6 := Same.new (o := .tup [.int (e : Int), .int (g : Int)]) hq6
            refine ⟨b.rg, _, rfl, DPut.t (k := kk2 e g) (sq6 _ _ r27) upd_same (szt (by omega)), ?_⟩
            have k8 : Chg b.rg H7 (upd (upd H7 q6 (.tup [.int (e : Int), .int (g : Int)])) b.rg (.dT (putK r1 (kk2 e g) (optR (some c))))) := (Same.chg sq6).trans Chg.upd
            have rg8 : (upd (upd H7 q6 (.tup [.int (e : Int), .int (g : Int)])) b.rg (.dT (putK r1 (kk2 e g) (optR (some c))))) b.rg = some (.dT (putK r1 (kk2 e g) (optR (some c)))) := upd_same
            generalize upd (upd H7 q6 (.tup [.int (e : Int), .int (g : Int)])) b.rg (.dT (putK r1 (kk2 e g) (optR (some c)))) = H8 at k8 rg8 ⊢
            walk_at "ro"
            have cc : ∀ z u, z ≠ d → z ≠ b.rg → z ≠ b.of → H5 z = some u → H8 z = some u := fun z u n1 n2 n3 h => k8 _ _ n2 (c7 _ _ n1 (k6 _ _ n3 h))
            have c58 : ChgP (bhS b) H5 H8 := fun z u nz h => cc z u (fun y => nz (.inl (by rw [y]; exact dm))) (fun y => nz (.inr (.inl y))) (fun y => nz (.inr (.inr y))) h
            refine kt H8 (B5.fin hd c58 (fun z u hz nz h => cc z u nz (fun y => kb3 (by rw [← y]; exact hz)) (fun y => kb4 (by rw [← y]; exact hz)) h) (k8 _ _ (fun y => kb3 (by rw [← y]; exact dm)) n7) ⟨_, rg8, Nat.le_trans (length_putK _ _ _) (by omega), fun e' f' he => ?_⟩ ⟨_, k8 _ _ (fun y => B.rgof y.symm) of7, Nat.le_trans (dropK_le _ _) (by omega), fun e' f' o' he ho => ?_⟩) ((ChgP.same s15).trans c58)
            · rw [valV_put, r5 e' f' he, getD_set el]
              by_cases q : e' = e
              · subst q
                rw [if_pos rfl, ← putR_new c e2, get_put]
                by_cases q2 : f' = g
                · subst q2
                  rw [if_pos rfl, if_pos rfl]; rfl
                · rw [if_neg (fun z => q2 (kk2_inj.mp z).2), if_neg q2]
              · rw [if_neg (fun z => q (kk2_inj.mp z).1), if_neg q]
            · rw [valV_dropG, o4 e' f' o' he ho]
              unfold offSet
              by_cases q : e' = o ∧ f' = g ∧ o' = e
              · rw [if_pos (kk3_inj.mpr q), if_pos q]; rfl
              · rw [if_neg (fun z => q (kk3_inj.mp z)), if_neg q]
end
end My

namespace My
open PySem L2
local macro_rules | `(tactic| walk_at "ne") => `(tactic| first | assumption | exact Ne.symm (by assumption) | exact ne_of_none (by assumption) (by assumption) | exact Ne.symm (ne_of_none (by assumption) (by assumption)))
local macro_rules | `(tactic| walk_at "hp") => `(tactic| first | assumption | with_reducible exact upd_same | (with_reducible refine Eq.trans (upd_ne ?_) ?_; rotate_left; walk_at "hp"; walk_at "ne"))
local macro_rules | `(tactic| walk_at "cnd") => `(tactic| first | omega | (show (0 : Int) < _; omega) | exact ⟨by omega, by omega⟩ | exact Or.inl ⟨by omega, by omega⟩ | exact Or.inr ⟨by omega, by omega⟩ | exact ⟨by omega, by omega, by decide⟩ | exact ⟨by omega, by omega, by omega⟩)
local macro_rules | `(tactic| walk_at "at") => `(tactic| first | exact atC 0 rfl rfl | exact atC 1 rfl rfl | exact atC 2 rfl rfl | exact atC 3 rfl rfl | exact atC 4 rfl rfl | exact atC 5 rfl rfl | exact atC 6 rfl rfl | exact atC 7 rfl rfl)
local macro_rules | `(tactic| walk_at "ix") => `(tactic| first | exact ixC 0 rfl (Nat.le_of_ble_eq_true rfl) | exact ixC 1 rfl (Nat.le_of_ble_eq_true rfl) | exact ixC 2 rfl (Nat.le_of_ble_eq_true rfl) | exact ixC 3 rfl (Nat.le_of_ble_eq_true rfl) | exact ixC 4 rfl (Nat.le_of_ble_eq_true rfl) | exact ixC 5 rfl (Nat.le_of_ble_eq_true rfl))
local macro_rules | `(tactic| walk_at "st") => `(tactic| first
  | refine ⟨_, rfl, ?_⟩
  | refine ⟨_, _, rfl, rfl, (by walk_at "cnd" : (_ : Prop)), ?_⟩
  | refine ⟨_, _, rfl, rfl, ?_⟩
  | refine ⟨rfl, ?_⟩
  | refine Or.inl ⟨_, rfl, ?_⟩
  | refine ⟨_, _, _, _, rfl, rfl, by exact SqL.of (by walk_at "hp"), by walk_at "at", ?_⟩
  | refine ⟨_, _, _, _, rfl, rfl, by exact SqT.of (by walk_at "hp"), by walk_at "at", ?_⟩
  | refine ⟨_, _, _, _, rfl, rfl, by walk_at "hp", by walk_at "ix", ?_⟩
  | refine ⟨_, _, rfl, Or.inl (by exact SqL.of (by walk_at "hp")), ?_⟩
  | refine ⟨_, _, rfl, Or.inr (by exact SqT.of (by walk_at "hp")), ?_⟩)
local macro_rules | `(tactic| walk_at "so") => `(tactic| first
  | refine ⟨_, _, _, _, _, rfl, by walk_at "hp", by assumption, by assumption, rfl, ?_⟩
  | refine ⟨_, _, _, _, rfl, by walk_at "hp", by assumption, by assumption, Nat.le_of_ble_eq_true rfl, ?_⟩
  | refine ⟨_, _, _, rfl, by walk_at "hp", rfl, ?_⟩
  | walk_at "st")
local macro_rules | `(tactic| walk_at "ro") => `(tactic| repeat walk_at "so")
local macro_rules | `(tactic| walk_at "run") => `(tactic| repeat walk_at "st")

theorem atLast {xs : List V} {v : V} (h0 : 0 < xs.length) (h : xs[xs.length - 1]? = some v) : atI xs (-1) = some v := by
  unfold atI ixN
  rw [if_neg (by omega), if_pos (by omega)]
  show xs[((-1 : Int) + (xs.length : Int)).toNat]? = some v
  rw [show ((-1 : Int) + (xs.length : Int)).toNat = xs.length - 1 by omega]
  exact h
theorem off_endS {s : FS} {e f : Nat} (h : e < s.of.length) : offN (endS s e f).of = offDrop (offN s.of) e f := by
  funext e' f' o'
  show offN (s.of.set e (dropO (s.of.getD e []) f)) e' f' o' = _
  rw [offN_set h, getO_drop]
  unfold offDrop
  by_cases q : e' = e
  · subst q
    rw [if_pos rfl]
    by_cases q2 : f' = f
    · rw [if_pos q2, if_pos ⟨rfl, q2⟩]; rfl
    · rw [if_neg q2, if_neg (fun z => q2 z.2)]; rfl
  · rw [if_neg q, if_neg (fun z => q z.1)]
def wiSet (w : Nat → Option Addr) (e : Nat) (i : Option Addr) : Nat → Option Addr := fun j => if j = e then i else w j
theorem Bh.wi {H : Hp} {b : BA} {rt : List RL} {off : Nat → Nat → Nat → Option Bool} {n : Nat} (h : Bh H b rt off n) (w : Nat → Option Addr) : Bh H { b with wi := w } rt off n := ⟨h.tup, h.hdl, h.h4, h.hn, h.hdn, h.hs, h.rgof, h.rgs, h.ofs⟩
/-- an asking is over -/
theorem Bw.gone {H : Hp} {b : BA} {ask wt wt' : List Nat} {n e : Nat} {kvs : List (Key × V)} (h : Bw H b ask wt n) (a4 : ask.length = 4) (e4 : e < 4) (hw : ∀ j, j < 4 → j ≠ e → wt'.getD j 0 = wt.getD j 0) (hk : H b.wn = some (.dK kvs)) : Bw (upd H b.wn (.dK (dropK kvs (.inl (e : Int))))) { b with wi := wiSet b.wi e none } (ask.set e 0) wt' n := by
  obtain ⟨k1, x1, x2, x3⟩ := h.wns
  rw [hk] at x1
  cases x1
  refine ⟨⟨_, upd_same, Nat.le_trans (dropK_le _ _) x2, fun j hj => ?_⟩, fun j hj => ?_, fun j j' i hj hj' q1 q2 => ?_, fun j i hj q1 => ?_⟩
  · rw [valV_dropG, x3 j hj]
    show _ = (wiSet b.wi e none j).map V.ref
    unfold wiSet
    by_cases q : j = e
    · rw [if_pos (keyI.mpr q), if_pos q]; rfl
    · rw [if_neg (fun z => q (keyI.mp z)), if_neg q]
  · show (wiSet b.wi e none j = none ∧ _) ∨ ∃ i, wiSet b.wi e none j = some i ∧ _
    unfold wiSet
    rw [getD_set (by omega)]
    by_cases q : j = e
    · rw [if_pos q, if_pos q]; exact .inl ⟨rfl, rfl⟩
    · rw [if_neg q, if_neg q]
      rcases h.wis j hj with y | ⟨i, y1, y2, y3⟩
      · exact .inl y
      · refine .inr ⟨i, y1, y2, ?_⟩
        rw [upd_ne (ne_of y3 hk (by intro z; cases z)), hw j hj q]
        exact y3
  · have q1 : wiSet b.wi e none j = some i := q1
    have q2 : wiSet b.wi e none j' = some i := q2
    unfold wiSet at q1 q2
    by_cases y : j = e
    · rw [if_pos y] at q1; cases q1
    · by_cases y' : j' = e
      · rw [if_pos y'] at q2; cases q2
      · rw [if_neg y] at q1
        rw [if_neg y'] at q2
        exact h.winj j j' i hj hj' q1 q2
  · have q1 : wiSet b.wi e none j = some i := q1
    unfold wiSet at q1
    by_cases y : j = e
    · rw [if_pos y] at q1; cases q1
    · rw [if_neg y] at q1
      exact h.wsep j i hj q1
/-- an asking changes in place -/
theorem Bw.setI {H : Hp} {b : BA} {ask wt : List Nat} {n e a w : Nat} {i : Addr} (h : Bw H b ask wt n) (a4 : ask.length = 4) (w4 : wt.length = 4) (e4 : e < 4) (hi : b.wi e = some i) (a0 : 0 < a) : Bw (upd H i (.lst [.int (a : Int), .int (w : Int)])) b (ask.set e a) (wt.set e w) n := by
  obtain ⟨k1, x1, x2, x3⟩ := h.wns
  have hil : ∃ xs, H i = some (.lst xs) := by
    rcases h.wis e e4 with y | ⟨i', y1, y2, y3⟩
    · rw [hi] at y; cases y.1
    · rw [hi] at y1; cases y1; exact ⟨_, y3⟩
  obtain ⟨xs, hil⟩ := hil
  refine ⟨⟨k1, by rw [upd_ne (ne_of x1 hil (by intro z; cases z))]; exact x1, x2, x3⟩, fun j hj => ?_, h.winj, h.wsep⟩
  rw [getD_set (by omega), getD_set (by omega)]
  by_cases q : j = e
  · subst q
    rw [if_pos rfl, if_pos rfl]
    exact .inr ⟨i, hi, a0, upd_same⟩
  · rw [if_neg q, if_neg q]
    rcases h.wis j hj with y | ⟨i', y1, y2, y3⟩
    · exact .inl y
    · refine .inr ⟨i', y1, y2, ?_⟩
      rw [upd_ne (fun z => q (h.winj j e i hj e4 (by rw [y1, z]) hi))]
      exact y3
theorem Bh.updI {H : Hp} {b : BA} {rt : List RL} {off : Nat → Nat → Nat → Option Bool} {n : Nat} {i : Addr} {xs : List V} {o : HO} (h : Bh H b rt off n) (hi : H i = some (.lst xs)) (h1 : i ≠ b.hd) (h2 : i ∉ b.h) : Bh (upd H i o) b rt off n := by
  obtain ⟨r1, r2, _⟩ := h.rgs
  obtain ⟨o1, o2, _⟩ := h.ofs
  refine h.chg (S := fun z => z = i) (fun z u nz e => by rw [upd_ne nz]; exact e) fun z hz q => ?_
  have q : z = i := q
  rcases hz with y | y | y | y | y
  · rw [← q, y, h.tup] at hi; cases hi
  · exact h1 (by rw [← q, y])
  · rw [← q, y, r2] at hi; cases hi
  · rw [← q, y, o2] at hi; cases hi
  · exact h2 (by rw [← q]; exact y)
def spBackL : Sp := fun vs H Q _ => ∃ (b : BA) (sp : Addr) (s : FS) (n e : Nat), vs = [.ref b.bk, .ref sp, .int (e : Int)] ∧ Bh H b s.rt (offN s.of) n ∧ Bw H b s.ask s.wt n ∧ NsL H sp s.sh ∧ ¬ bkS b sp ∧ FOk s ∧ e < 4 ∧ n ≤ 1000 ∧ (keysR (s.rt.getD e [])).Nodup ∧ (s.rt.getD e []).length ≤ 1000 ∧ (0 < s.ask.getD e 0 → 0 < s.wt.getD e 0) ∧
  (s.ask.getD e 0 = 0 → ∀ p H', H p = none → NsL H' p [] → Same H H' → Q (.ref p) H') ∧
  (0 < s.ask.getD e 0 → 1 < s.wt.getD e 0 → ∀ p H', Bh H' b s.rt (offN s.of) n → Bw H' b s.ask (s.wt.set e (s.wt.getD e 0 - 1)) n → H p = none → NsL H' p [] → ChgP (bkS b) H H' → Q (.ref p) H') ∧
  (0 < s.ask.getD e 0 → s.wt.getD e 0 = 1 → ∀ p H', Bh H' { b with wi := wiSet b.wi e none } (endsS s e (newsOf s e)).rt (offN (endsS s e (newsOf s e)).of) n → Bw H' { b with wi := wiSet b.wi e none } (s.ask.set e 0) (s.wt.set e (s.wt.getD e 0 - 1)) n → H p = none → NsL H' p (newsOf s e) → ChgP (bkS b) H H' → Q (.ref p) H')
section
variable {P : Program} {w : World} {K : PySem.W.Frag} {mg : Str → Option Value} {base : Heap} {C_Frames C_NotValid : Addr}
abbrev s_law_back : Stmt := topS 26
abbrev ns_law_back : List Str := ["book", "shares", "environment", "held", "rights", "offers", "wanted", "many", "taken"]
theorem sc_law_back : FnScope ns_law_back ["book", "shares", "environment"] (defScope s_law_back) := ⟨rfl, rfl, rfl, by decide +kernel, rfl, by decide +kernel, by decide +kernel⟩

theorem ok_law_back {f : Addr} {fd : FuncData} (F : Fun K "_law_back" "_law_back" s_law_back f fd) (T : Txt K mg C_Frames C_NotValid) (D_law_end : Dfn P w K mg base CX0 1 "_law_end" ["book", "environment", "frame"] spEndL) : FnOk P w K mg base CX0 2 f fd ["book", "shares", "environment"] spBackL := by
  refine F.ok sc_law_back (fun vs H Q E h => ?_) (fun cdv A outer s H vs Q E hr h => ?_)
  · obtain ⟨b, sp, s, n, e, rfl, _⟩ := h
    rfl
  · obtain ⟨b, sp, s', n, e, rfl, B, W, hsp, nsp, ok, e4, nz, nd, hz, aw, k0, k2, k1⟩ := h
    refine ⟨_, (pss_cons (ps_asg (pv 0) (kpgT K (n := 4) (by rfl) (pgs_cons (pg_name (i := 3) sc_law_back.nd rfl (Or.inl rfl)) (pgs_cons (pg_name (i := 4) sc_law_back.nd rfl (Or.inl rfl)) (pgs_cons (pg_name (i := 5) sc_law_back.nd rfl (Or.inl rfl)) (pgs_cons (pg_name (i := 6) sc_law_back.nd rfl (Or.inl rfl)) pgs_nil))))))
  (pss_cons (ps_if (pt_cmp (pc_dnotin (units1 hr) (pv 2) (pv 6))) (pss_one (ps_ret (pe_lst pa_nil))) pss_nil)
  (pss_cons (ps_augS (pe_dget (units1 hr) (pv 6) (pv 2) (fun _ _ => rfl)) pe_int (kGetL K) pe_int ip_sub set_list)
  (pss_cons (ps_if (pt_cmpR op_gt (pe_ix (kIxL K) (pe_dget (units1 hr) (pv 6) (pv 2) (fun _ _ => rfl)) pe_int (fun _ _ => rfl)) pe_int (nomark _)) (pss_one (ps_ret (pe_lst pa_nil))) pss_nil)
  (pss_cons (ps_set (i := 7) sc_law_back.nd rfl (Or.inl rfl) (pe_ix (kIxL K) (pe_dpop1 (pv 6) (pv 2) ⟨rfl, rfl, rfl, rfl⟩) pe_int (fun _ _ => rfl)))
  (pss_cons (ps_set (i := 8) sc_law_back.nd rfl (Or.inl rfl) (pe_lst pa_nil))
  (pss_cons (ps_while PassesOwn.never (PW.pt (pw_and (pt_cmpR op_lt (pe_callB (kLen K) (by rfl) T.b_len (by decide +kernel) (pa_cons (pv 8) pa_nil)) (pv 7) (nomark _)) (pw_and1 (pt_cmpR op_gt (pe_callB (kLen K) (by rfl) T.b_len (by decide +kernel) (pa_cons (pe_ix (kIxL K) (pv 3) (pv 2) (fun _ _ => rfl)) pa_nil)) (pe_ix (kIxL K) (pv 1) (pv 2) (fun _ _ => rfl)) (nomark _))))) (pss_cons (ps_expr (kBM K PySem.F.plainAttrs_list PySem.F.slot_list_append PySem.F.type_list_append mt_append (pv 8) (pa_cons (pe_ix (kIxL K) (pe_ix (kIxL K) (pv 3) (pv 2) (fun _ _ => rfl)) (pe_un un_neg pe_int) (fun _ _ => rfl)) pa_nil)))
  (pss_one (ps_expr (pe_dcall D_law_end (hr.mono (by decide)) (by rfl) pass0 (pa_cons (pv 0) (pa_cons (pv 2) (pa_cons (pe_ix (kIxL K) (pv 8) (pe_un un_neg pe_int) (fun _ _ => rfl)) pa_nil))))))))
  (pss_one (ps_ret (pv 8)))))))))), ?_⟩
    have h1 := B.tup
    obtain ⟨w1, w2, w3, w4⟩ := W.wns
    walk_at "ro"
    refine ⟨_, _, rfl, SqT.of h1, rfl, _, _, rfl, _, _, rfl, _, _, rfl, _, _, rfl, rfl, ?_⟩
    walk_at "ro"
    refine ⟨b.wn, _, rfl, DGet.k (k := .inl (e : Int)) w2, ?_⟩
    rw [w4 e e4]
    refine ⟨_, rfl, ?_⟩
    rcases W.wis e e4 with ⟨y1, y2⟩ | ⟨i, y1, y2, y3⟩
    · rw [y1]
      refine iteT ?_
      walk_at "ro"
      refine ⟨szl rfl, fun p hp => ?_⟩
      exact k0 y2 p _ hp upd_same (Same.new hp)
    · rw [y1]
      refine iteF ?_
      walk_at "ro"
      refine ⟨b.wn, .ref i, rfl, by have := DGet.k (k := .inl (e : Int)) w2; rw [w4 e e4, y1] at this; exact this, ?_⟩
      walk_at "ro"
      have wt0 := aw y2
      have es : ([V.int ((s'.ask.getD e 0 : Nat) : Int), V.int ((s'.wt.getD e 0 : Nat) : Int)].set 1 (V.int ((fun i j : Int => i - j) ((s'.wt.getD e 0 : Nat) : Int) 1))) = [V.int ((s'.ask.getD e 0 : Nat) : Int), V.int ((s'.wt.getD e 0 - 1 : Nat) : Int)] := by
        show [V.int _, V.int (((s'.wt.getD e 0 : Nat) : Int) - 1)] = _
        rw [show ((s'.wt.getD e 0 : Nat) : Int) - 1 = ((s'.wt.getD e 0 - 1 : Nat) : Int) by omega]
      rw [es]
      obtain ⟨is1, is2⟩ := W.wsep e i e4 y1
      have iS : bkS b i := .inr (.inr (.inr (.inr (.inr (.inr ⟨e, e4, y1⟩)))))
      have hwn : b.wn ≠ i := ne_of w2 y3 (by intro z; cases z)
      have B1 := B.updI (o := .lst [V.int ((s'.ask.getD e 0 : Nat) : Int), V.int ((s'.wt.getD e 0 - 1 : Nat) : Int)]) y3 is1 is2
      have W1 := W.setI (a := s'.ask.getD e 0) (w := s'.wt.getD e 0 - 1) ok.ask4 ok.wt4 e4 y1 y2
      rw [set_getD (by rw [ok.ask4]; exact e4)] at W1
      have c1 : Chg i H (upd H i (.lst [V.int ((s'.ask.getD e 0 : Nat) : Int), V.int ((s'.wt.getD e 0 - 1 : Nat) : Int)])) := Chg.upd
      have n1 : (upd H i (.lst [V.int ((s'.ask.getD e 0 : Nat) : Int), V.int ((s'.wt.getD e 0 - 1 : Nat) : Int)])) i = some (.lst [V.int ((s'.ask.getD e 0 : Nat) : Int), V.int ((s'.wt.getD e 0 - 1 : Nat) : Int)]) := upd_same
      generalize upd H i (.lst [V.int ((s'.ask.getD e 0 : Nat) : Int), V.int ((s'.wt.getD e 0 - 1 : Nat) : Int)]) = H1 at B1 W1 c1 n1 ⊢
      have w21 := c1 _ _ hwn w2
      refine ⟨b.wn, .ref i, rfl, by have := DGet.k (k := .inl (e : Int)) w21; rw [w4 e e4, y1] at this; exact this, ?_⟩
      walk_at "ro"
      refine iteD (fun q => ?_) (fun q => ?_)
      · walk_at "ro"
        refine ⟨szl rfl, fun p hp => ?_⟩
        refine k2 y2 (by omega) p _ (B1.same (Same.new hp)) (W1.same (Same.new hp)) (none_back c1 (fun z => by rw [z, n1] at hp; cases hp) hp) upd_same ?_
        exact fun z o nz h => Same.new hp _ _ (c1 _ _ (fun y => nz (by rw [y]; exact iS)) h)
      · have k1 := k1 y2 (by omega)
        have i12 := n1
        walk_at "ro"
        refine ⟨.inl ⟨_, .inl w21⟩, ?_⟩
        walk_at "ro"
        refine ⟨w1, .inl (e : Int), .ref i, w21, rfl, by rw [w4 e e4, y1]; rfl, ?_⟩
        have W2 := W1.gone (wt' := s'.wt.set e (s'.wt.getD e 0 - 1)) ok.ask4 e4 (fun _ _ _ => rfl) w21
        have B2 : Bh (upd H1 b.wn (.dK (dropK w1 (.inl (e : Int))))) b s'.rt (offN s'.of) n := by
          obtain ⟨r1, r2, _⟩ := B1.rgs
          obtain ⟨o1, o2, _⟩ := B1.ofs
          refine B1.chg (S := fun z => z = b.wn) (fun z u nz h => by rw [upd_ne nz]; exact h) fun z hz q => ?_
          have q : z = b.wn := q
          rcases hz with y | y | y | y | y
          · rw [← q, y, B1.tup] at w21; cases w21
          · rw [← q, y, B1.hdl] at w21; cases w21
          · rw [← q, y, r2] at w21; cases w21
          · rw [← q, y, o2] at w21; cases w21
          · obtain ⟨j, hj, ej⟩ := List.mem_iff_getElem.mp y
            have := B1.hs.2 j z (s'.rt[j]'(by rw [← B1.hs.1]; exact hj)) (by rw [List.getElem?_eq_getElem hj, ej]) (List.getElem?_eq_getElem _)
            rw [← q, show H1 z = _ from this] at w21; cases w21
        have c2 : Chg b.wn H1 (upd H1 b.wn (.dK (dropK w1 (.inl (e : Int))))) := Chg.upd
        have i2 := c2 _ _ hwn.symm n1
        generalize upd H1 b.wn (.dK (dropK w1 (.inl (e : Int)))) = H2 at B2 W2 c2 i2 ⊢
        have wnS : bkS b b.wn := .inr (.inr (.inr (.inr (.inl rfl))))
        have c02 : ChgP (bkS b) H H2 := fun z o nz h => c2 _ _ (fun y => nz (by rw [y]; exact wnS)) (c1 _ _ (fun y => nz (by rw [y]; exact iS)) h)
        walk_at "ro"
        refine ⟨szl rfl, fun p hp => ?_⟩
        have sp2 := Same.new (o := .lst []) hp
        have B3 := B2.same sp2
        have W3 := W2.same sp2
        have hp0 : H p = none := none_back c1 (fun z => by rw [z] at hp; have := c2 _ _ hwn.symm n1; rw [hp] at this; cases this) (none_back c2 (fun z => by
          obtain ⟨kk, x1, _⟩ := W2.wns
          rw [z] at hp
          have x1 : H2 b.wn = _ := x1
          rw [hp] at x1; cases x1) hp)
        have n3 : (upd H2 p (.lst [])) p = some (.lst []) := upd_same
        have c03 : ∀ z u, z ≠ p → ¬ bkS b z → H z = some u → (upd H2 p (.lst [])) z = some u := fun z u np nz h => sp2 _ _ (c02 z u nz h)
        have pS : ¬ bkS b p := fun qq => by
          have al : H2 p ≠ none := by
            rcases qq with qq | qq | qq | qq | qq | qq | ⟨j, hj, qq⟩
            · rw [qq, B2.tup]; exact fun z => by cases z
            · rw [qq, B2.hdl]; exact fun z => by cases z
            · obtain ⟨r1, r2, _⟩ := B2.rgs
              rw [qq, r2]; exact fun z => by cases z
            · obtain ⟨r1, r2, _⟩ := B2.ofs
              rw [qq, r2]; exact fun z => by cases z
            · obtain ⟨r1, r2, _⟩ := W2.wns
              have r2 : H2 b.wn = _ := r2
              rw [qq, r2]; exact fun z => by cases z
            · obtain ⟨j, hj, ej⟩ := List.mem_iff_getElem.mp qq
              have := B2.hs.2 j p (s'.rt[j]'(by rw [← B2.hs.1]; exact hj)) (by rw [List.getElem?_eq_getElem hj, ej]) (List.getElem?_eq_getElem _)
              rw [show H2 p = _ from this]; exact fun z => by cases z
            · by_cases y : j = e
              · subst y
                rw [y1] at qq
                rw [← Option.some.inj qq, i2]; exact fun z => by cases z
              · rcases W2.wis j hj with ⟨z, _⟩ | ⟨i', z1, _, z3⟩
                · have z : wiSet b.wi e none j = none := z
                  unfold wiSet at z
                  rw [if_neg y, qq] at z; cases z
                · have z1 : wiSet b.wi e none j = some i' := z1
                  unfold wiSet at z1
                  rw [if_neg y, qq] at z1
                  rw [Option.some.inj z1, z3]; exact fun z => by cases z
          exact al hp
        generalize upd H2 p (.lst []) = H3 at sp2 B3 W3 n3 c03 ⊢
        -- the loop
        have el : e < s'.rt.length := by rw [ok.rt4]; exact e4
        have kl : (newsOf s' e).length = min ((s'.rt.getD e []).length - s'.sh.getD e 0) (s'.ask.getD e 0) := by
          unfold newsOf
          rw [List.length_take, List.length_reverse, keys_len]
          omega
        have ntake : ∀ j, j ≤ (newsOf s' e).length → (newsOf s' e).take j = (keysR (s'.rt.getD e [])).reverse.take j := by
          intro j hj
          rw [kl] at hj
          unfold newsOf
          rw [List.take_take]
          congr 1
          omega
        walk_at "ro"
        have p3n : ∀ z, ¬ bkS b z → z ≠ p → ∀ u, H z = some u → H3 z = some u := fun z nz np u h => c03 z u np nz h
        have spp : sp ≠ p := fun z => by rw [z] at hsp; rw [show H p = _ from hsp] at hp0; cases hp0
        have hsp3 : H3 sp = some (.lst (s'.sh.map vN)) := p3n sp nsp spp _ hsp
        have hz64 := hz
        have cTake : ∀ i, i ≤ (newsOf s' e).length → (endsS s' e ((newsOf s' e).take i)).rt.getD e [] = (s'.rt.getD e []).take ((s'.rt.getD e []).length - i) := fun i hi => by
          have := ends_rt (s := s') (e := e) el nd i (by omega)
          rw [← ntake i hi] at this
          exact this
        refine ⟨fun m σ Hx => Hide (∃ i, i ≤ (newsOf s' e).length ∧ m = (newsOf s' e).length - i ∧ σ = [some (.ref b.bk), some (.ref sp), some (.int (e : Int)), some (.ref b.hd), some (.ref b.rg), some (.ref b.of), some (.ref b.wn), some (.int ((s'.ask.getD e 0 : Nat) : Int)), some (.ref p)] ∧ Hx p = some (.lst (((newsOf s' e).take i).map vN)) ∧ Bh Hx b (endsS s' e ((newsOf s' e).take i)).rt (offN (endsS s' e ((newsOf s' e).take i)).of) n ∧ ∀ z u, z ≠ p → ¬ bhS b z → H3 z = some u → Hx z = some u), ⟨_, hide ⟨0, Nat.zero_le _, rfl, rfl, n3, B3, fun _ _ _ _ h => h⟩⟩, ?_⟩
        intro m σ Hx hh
        obtain ⟨j, hj, rfl, rfl, x1, x2, x3⟩ := hh.out
        have kt : ((newsOf s' e).take j).length = j := by rw [List.length_take]; omega
        have hrt := cTake j hj
        have same := endsS_same e ((newsOf s' e).take j) s'
        have rl : (endsS s' e ((newsOf s' e).take j)).rt.length = 4 := by rw [same.2.2.2.2.2.1]; exact ok.rt4
        obtain ⟨d, hd, hdk⟩ := x2.hs.at (List.getElem?_eq_getElem (show e < (endsS s' e ((newsOf s' e).take j)).rt.length by omega))
        have eg : (endsS s' e ((newsOf s' e).take j)).rt[e]'(by omega) = (s'.rt.getD e []).take ((s'.rt.getD e []).length - j) := by
          rw [← hrt, List.getD_eq_getElem?_getD, List.getElem?_eq_getElem (by omega)]; rfl
        rw [eg] at hdk
        have hdk : Hx d = some (.lst ((keysR ((s'.rt.getD e []).take ((s'.rt.getD e []).length - j))).map vN)) := hdk
        have xh := x2.hdl
        have xsp : Hx sp = some (.lst (s'.sh.map vN)) := x3 sp _ spp (fun z => nsp (by
          rcases z with z | z | z
          · exact .inr (.inr (.inr (.inr (.inr (.inl z)))))
          · exact .inr (.inr (.inl z))
          · exact .inr (.inr (.inr (.inl z))))) hsp3
        walk_at "ro"
        rw [List.length_map, kt]
        have bhk : ∀ z, bhS b z → bkS b z := fun z q => by
          rcases q with q | q | q
          · exact .inr (.inr (.inr (.inr (.inr (.inl q)))))
          · exact .inr (.inr (.inl q))
          · exact .inr (.inr (.inr (.inl q)))
        have fin : ¬ j < (newsOf s' e).length → Q (.ref p) Hx := fun hj2 => by
          have ej : j = (newsOf s' e).length := by omega
          rw [ej, List.take_length] at x1 x2
          obtain ⟨r1, r2, _⟩ := B3.rgs
          obtain ⟨o1, o2, _⟩ := B3.ofs
          obtain ⟨v1, v2, _⟩ := W3.wns
          have v2 : H3 b.wn = some (.dK v1) := v2
          have hl : ∀ z ∈ b.h, ∃ xs, H3 z = some (.lst xs) := fun z hz => by
            obtain ⟨k, hk, ek⟩ := List.mem_iff_getElem.mp hz
            exact ⟨_, B3.hs.2 k z (s'.rt[k]'(by rw [← B3.hs.1]; exact hk)) (by rw [List.getElem?_eq_getElem hk, ek]) (List.getElem?_eq_getElem _)⟩
          refine k1 p Hx (x2.wi _) (W3.chg (S := fun z => z = p ∨ bhS b z) (fun z u nz h => x3 z u (fun y => nz (.inl y)) (fun y => nz (.inr y)) h) ?_) hp0 x1 fun z u nz h => x3 z u (fun y => by rw [y, hp0] at h; cases h) (fun y => nz (bhk z y)) (p3n z nz (fun y => by rw [y, hp0] at h; cases h) u h)
          rintro z (hz | ⟨k, hk4, hk⟩) (y | y)
          · exact pS (by rw [← y, hz]; exact wnS)
          · have hz : z = b.wn := hz
            rcases y with y | y | y
            · obtain ⟨xs, e1⟩ := hl z y
              rw [hz, v2] at e1; cases e1
            · rw [← y, hz, v2] at r2; cases r2
            · rw [← y, hz, v2] at o2; cases o2
          · have hk : wiSet b.wi e none k = some z := hk
            unfold wiSet at hk
            by_cases q2 : k = e
            · rw [if_pos q2] at hk; cases hk
            · rw [if_neg q2] at hk
              exact pS (by rw [← y]; exact .inr (.inr (.inr (.inr (.inr (.inr ⟨k, hk4, hk⟩))))))
          · obtain ⟨_, s2⟩ := W3.wsep k z hk4 hk
            rcases W3.wis k hk4 with ⟨z1, _⟩ | ⟨i', z1, _, z3⟩
            · rw [hk] at z1; cases z1
            · rw [hk] at z1
              have z1 := Option.some.inj z1
              rw [← z1] at z3
              rcases y with y | y | y
              · exact s2 y
              · rw [← y, z3] at r2; cases r2
              · rw [← y, z3] at o2; cases o2
        refine iteD (fun t1 => ?_) (fun t1 => ?_)
        · walk_at "ro"
          refine ⟨_, _, _, _, rfl, rfl, SqL.of xh, atC e rfl (by rw [List.getElem?_map, hd]; rfl), ?_⟩
          walk_at "ro"
          rw [List.length_map, keys_len, List.length_take]
          refine ⟨_, _, _, _, rfl, rfl, SqL.of xsp, atC e rfl (getVN' (by rw [ok.sh4]; exact e4)), ?_⟩
          walk_at "ro"
          refine iteD (fun t2 => ?_) (fun t2 => ?_)
          · have hjK : j < (newsOf s' e).length := by rw [kl]; omega
            refine ⟨fun σ' H' => Hide (σ' = [some (.ref b.bk), some (.ref sp), some (.int (e : Int)), some (.ref b.hd), some (.ref b.rg), some (.ref b.of), some (.ref b.wn), some (.int ((s'.ask.getD e 0 : Nat) : Int)), some (.ref p)] ∧ H' p = some (.lst (((newsOf s' e).take (j + 1)).map vN)) ∧ Bh H' b (endsS s' e ((newsOf s' e).take (j + 1))).rt (offN (endsS s' e ((newsOf s' e).take (j + 1))).of) n ∧ ∀ z u, z ≠ p → ¬ bhS b z → H3 z = some u → H' z = some u), fun σ' H' hh2 => ?_, ?_⟩
            · obtain ⟨g1, g2, g3, g4⟩ := hh2.out
              exact ⟨(newsOf s' e).length - (j + 1), by omega, hide ⟨j + 1, by omega, rfl, g1, g2, g3, g4⟩⟩
            have ln : (s'.rt.getD e []).length - j = ((s'.rt.getD e []).length - 1 - j) + 1 := by omega
            have hni : (newsOf s' e)[j] = ((s'.rt.getD e [])[(s'.rt.getD e []).length - 1 - j]'(by omega)).1 := by
              have q := news_at (l := s'.rt.getD e []) (i := j) (by omega)
              have q2 : (newsOf s' e)[j]? = (keysR (s'.rt.getD e [])).reverse[j]? := by
                unfold newsOf
                rw [List.getElem?_take, if_pos]
                unfold newsOf at hjK
                rw [List.length_take] at hjK
                omega
              rw [q, List.getElem?_eq_getElem hjK] at q2
              exact Option.some.inj q2
            have last : ((keysR ((s'.rt.getD e []).take ((s'.rt.getD e []).length - j))).map vN)[((keysR ((s'.rt.getD e []).take ((s'.rt.getD e []).length - j))).map vN).length - 1]? = some (.int (((newsOf s' e)[j] : Nat) : Int)) := by
              rw [List.length_map, keys_len, List.length_take, List.getElem?_map]
              unfold keysR
              rw [List.getElem?_map, List.getElem?_take, if_pos (by omega), show min ((s'.rt.getD e []).length - j) (s'.rt.getD e []).length - 1 = (s'.rt.getD e []).length - 1 - j by omega, List.getElem?_eq_getElem (by omega), hni]; rfl
            walk_at "ro"
            refine ⟨.inl ⟨rfl, _, SqL.of x1⟩, ?_⟩
            walk_at "ro"
            refine ⟨_, _, _, _, rfl, rfl, SqL.of xh, atC e rfl (by rw [List.getElem?_map, hd]; rfl), ?_⟩
            walk_at "ro"
            refine ⟨d, _, _, _, rfl, rfl, SqL.of hdk, atLast (by rw [List.length_map, keys_len, List.length_take]; omega) last, ?_⟩
            refine ⟨p, _, _, rfl, rfl, x1, by rw [List.length_map, kt]; exact szt (by omega), ?_⟩
            have ea : ((newsOf s' e).take j).map vN ++ [.int (((newsOf s' e)[j] : Nat) : Int)] = ((newsOf s' e).take (j + 1)).map vN := by
              rw [List.take_add_one, List.getElem?_eq_getElem hjK, List.map_append]; rfl
            rw [ea]
            have yp : (upd Hx p (.lst (((newsOf s' e).take (j + 1)).map vN))) p = some (.lst (((newsOf s' e).take (j + 1)).map vN)) := upd_same
            have cy : Chg p Hx (upd Hx p (.lst (((newsOf s' e).take (j + 1)).map vN))) := Chg.upd
            generalize upd Hx p (.lst (((newsOf s' e).take (j + 1)).map vN)) = Hy at yp cy ⊢
            have BY : Bh Hy b (endsS s' e ((newsOf s' e).take j)).rt (offN (endsS s' e ((newsOf s' e).take j)).of) n := x2.chg (S := fun z => z = p) cy fun z hz q => by
              have q : z = p := q
              refine pS (by
                rw [← q]
                rcases hz with y | y | y | y | y
                · exact .inl y
                · exact .inr (.inl y)
                · exact .inr (.inr (.inl y))
                · exact .inr (.inr (.inr (.inl y)))
                · exact .inr (.inr (.inr (.inr (.inr (.inl y))))))
            walk_at "ro"
            refine ⟨p, _, _, _, rfl, rfl, SqL.of yp, atLast (v := .int (((newsOf s' e)[j] : Nat) : Int)) (by rw [List.length_map, List.length_take]; omega) (by
              rw [List.length_map, List.length_take, List.getElem?_map, List.getElem?_take, if_pos (by omega), show min (j + 1) (newsOf s' e).length - 1 = j by omega, List.getElem?_eq_getElem hjK]; rfl), ?_⟩
            refine ⟨b, (endsS s' e ((newsOf s' e).take j)).rt, offN (endsS s' e ((newsOf s' e).take j)).of, n, e, (newsOf s' e)[j], rfl, BY, nz, e4, rl, ?_, ?_, ?_, fun H' B' c' => ?_⟩
            · rw [hrt]
              exact nd.sublist ((List.take_sublist _ _).map _)
            · rw [hrt, List.length_take]; omega
            · rw [hrt, hni]
              refine get_mem (p := (s'.rt.getD e [])[(s'.rt.getD e []).length - 1 - j]'(by omega)) ?_
              rw [List.mem_take_iff_getElem]
              exact ⟨(s'.rt.getD e []).length - 1 - j, by omega, rfl⟩
            · have es2 : endsS s' e ((newsOf s' e).take (j + 1)) = endS (endsS s' e ((newsOf s' e).take j)) e (newsOf s' e)[j] := by
                rw [List.take_add_one, List.getElem?_eq_getElem hjK]
                show endsS s' e (_ ++ [_]) = _
                rw [endsS_snoc]
              refine hide ⟨rfl, c' _ _ (fun q => pS (bhk _ q)) yp, ?_, fun z u np nz h => c' _ _ nz (cy _ _ np (x3 z u np nz h))⟩
              rw [es2, off_endS (by rw [same.2.2.2.2.2.2.1, ok.of4]; exact e4)]
              exact B'
          · walk_at "ro"
            exact fin (by rw [kl]; omega)
        · walk_at "ro"
          exact fin (by rw [kl]; omega)
end
end My

namespace My
open PySem L2
local macro_rules | `(tactic| walk_at "ne") => `(tactic| first | assumption | exact Ne.symm (by assumption) | exact ne_of_none (by assumption) (by assumption) | exact Ne.symm (ne_of_none (by assumption) (by assumption)))
local macro_rules | `(tactic| walk_at "hp") => `(tactic| first | assumption | with_reducible exact upd_same | (with_reducible refine Eq.trans (upd_ne ?_) ?_; rotate_left; walk_at "hp"; walk_at "ne"))
local macro_rules | `(tactic| walk_at "cnd") => `(tactic| first | omega | (show (0 : Int) < _; omega) | exact ⟨by omega, by omega⟩ | exact Or.inl ⟨by omega, by omega⟩ | exact Or.inr ⟨by omega, by omega⟩ | exact ⟨by omega, by omega, by decide⟩ | exact ⟨by omega, by omega, by omega⟩)
local macro_rules | `(tactic| walk_at "at") => `(tactic| first | exact atC 0 rfl rfl | exact atC 1 rfl rfl | exact atC 2 rfl rfl | exact atC 3 rfl rfl | exact atC 4 rfl rfl | exact atC 5 rfl rfl | exact atC 6 rfl rfl | exact atC 7 rfl rfl)
local macro_rules | `(tactic| walk_at "ix") => `(tactic| first | exact ixC 0 rfl (Nat.le_of_ble_eq_true rfl) | exact ixC 1 rfl (Nat.le_of_ble_eq_true rfl) | exact ixC 2 rfl (Nat.le_of_ble_eq_true rfl) | exact ixC 3 rfl (Nat.le_of_ble_eq_true rfl) | exact ixC 4 rfl (Nat.le_of_ble_eq_true rfl) | exact ixC 5 rfl (Nat.le_of_ble_eq_true rfl))
local macro_rules | `(tactic| walk_at "st") => `(tactic| first
  | refine ⟨_, rfl, ?_⟩
  | refine ⟨_, _, rfl, rfl, (by walk_at "cnd" : (_ : Prop)), ?_⟩
  | refine ⟨_, _, rfl, rfl, ?_⟩
  | refine ⟨rfl, ?_⟩
  | refine Or.inl ⟨_, rfl, ?_⟩
  | refine ⟨_, _, _, _, rfl, rfl, by exact SqL.of (by walk_at "hp"), by walk_at "at", ?_⟩
  | refine ⟨_, _, _, _, rfl, rfl, by exact SqT.of (by walk_at "hp"), by walk_at "at", ?_⟩
  | refine ⟨_, _, _, _, rfl, rfl, by walk_at "hp", by walk_at "ix", ?_⟩
  | refine ⟨_, _, rfl, Or.inl (by exact SqL.of (by walk_at "hp")), ?_⟩
  | refine ⟨_, _, rfl, Or.inr (by exact SqT.of (by walk_at "hp")), ?_⟩)
local macro_rules | `(tactic| walk_at "so") => `(tactic| first
  | refine ⟨_, _, _, _, _, rfl, by walk_at "hp", by assumption, by assumption, rfl, ?_⟩
  | refine ⟨_, _, _, _, rfl, by walk_at "hp", by assumption, by assumption, Nat.le_of_ble_eq_true rfl, ?_⟩
  | refine ⟨_, _, _, rfl, by walk_at "hp", rfl, ?_⟩
  | walk_at "st")
local macro_rules | `(tactic| walk_at "ro") => `(tactic| repeat walk_at "so")
local macro_rules | `(tactic| walk_at "run") => `(tactic| repeat walk_at "st")

/-! ### deeds, what they give, what is behind them -/
inductive Dd where
  | take (e : Nat)
  | offer (e f o : Nat) (b : Bool)
  | accept (e f o : Nat) (b : Bool)
  | drop (e f o : Nat) (b : Bool)
  | narrow (e f o : Nat) (b : Bool)
  | slot (e f o : Nat) (v : V)
  | ask (e n : Nat)
def Dd.vals : Dd → List V
  | .take e => [.str "take", .int (e : Int), .int 0, .int 0, .int 0]
  | .offer e f o b => [.str "offer", .int (e : Int), .int (f : Int), .int (o : Int), rV b]
  | .accept e f o b => [.str "accept", .int (e : Int), .int (f : Int), .int (o : Int), rV b]
  | .drop e f o b => [.str "drop", .int (e : Int), .int (f : Int), .int (o : Int), rV b]
  | .narrow e f o b => [.str "narrow", .int (e : Int), .int (f : Int), .int (o : Int), rV b]
  | .slot e f o v => [.str "slot", .int (e : Int), .int (f : Int), .int (o : Int), v]
  | .ask e n => [.str "ask", .int (e : Int), .int 0, .int 0, .int (n : Int)]
def Dd.ok (m : Nat) : Dd → Prop
  | .take e => e < 4
  | .offer e f o _ => e < 4 ∧ f < m ∧ o < 4
  | .accept e f o _ => e < 4 ∧ f < m ∧ o < 4
  | .drop e f o _ => e < 4 ∧ f < m ∧ o < 4
  | .narrow e f o _ => e < 4 ∧ f < m ∧ o < 4
  | .slot e _ _ v => e < 4 ∧ flatV v = true
  | .ask e n => e < 4 ∧ 1 ≤ n ∧ n ≤ 5
inductive Res where
  | non
  | int (f : Nat)
  | bl (b : Bool)
  | lst (l : List Nat)
def RV (H : Hp) (v : V) : Res → Prop
  | .non => v = .non
  | .int f => v = .int (f : Int)
  | .bl b => v = .bl b
  | .lst l => ∃ p, v = .ref p ∧ NsL H p l
structure BV where
  rt : List RL
  off : Nat → Nat → Nat → Option Bool
  ask : List Nat
  wt : List Nat
def vw (s : FS) : BV := ⟨s.rt, offN s.of, s.ask, s.wt⟩
def canAcc (s : FS) (e f o : Nat) (c : Bool) : Prop := offN s.of o f e = some c ∧ inclO (getR (s.rt.getD o []) f) (some c) = true ∧ getR (s.rt.getD e []) f = none ∧ moreOf s (eD e) = true
def accB (s : FS) (e f o : Nat) : Bool := match offN s.of o f e with
  | some c => inclO (getR (s.rt.getD o []) f) (some c) && (getR (s.rt.getD e []) f).isNone && moreOf s (eD e)
  | none => false
theorem accB_iff {s : FS} {e f o : Nat} : accB s e f o = true ↔ ∃ c, canAcc s e f o c := by
  unfold accB canAcc
  cases y : offN s.of o f e with
  | none => exact ⟨fun z => (by cases z), fun ⟨c, z, _⟩ => (by cases z)⟩
  | some c =>
    show (_ && _ && _) = true ↔ _
    rw [Bool.and_eq_true, Bool.and_eq_true, Option.isNone_iff_eq_none]
    exact ⟨fun ⟨⟨a, b⟩, d⟩ => ⟨c, rfl, a, b, d⟩, fun ⟨c', z, a, b, d⟩ => (by cases z; exact ⟨⟨a, b⟩, d⟩)⟩
def resV (s : FS) : Dd → Res
  | .take e => if moreOf s (eD e) = true then (match (freeT s s.m).head? with | some f => .int f | none => .non) else .non
  | .offer e f o b => .bl (decide (o ≠ e) && inclO (getR (s.rt.getD e []) f) (some b))
  | .accept e f o _ => .bl (accB s e f o)
  | .drop e f _ _ => .bl (getR (s.rt.getD e []) f).isSome
  | .narrow e f _ _ => .bl (decide (getR (s.rt.getD e []) f = some true))
  | .slot e _ _ _ => .lst (if s.wt.getD e 0 = 1 then newsOf s e else [])
  | .ask _ _ => .non
/-- v is the view behind the deed -/
def Nxt (s : FS) (v : BV) : Dd → Prop
  | .take e => (moreOf s (eD e) = false ∧ v = vw s) ∨ (moreOf s (eD e) = true ∧ ∃ f, (freeT s s.m).head? = some f ∧ v = { vw s with rt := s.rt.set e (s.rt.getD e [] ++ [(f, true)]) })
  | .offer e f o b => ((o = e ∨ inclO (getR (s.rt.getD e []) f) (some b) = false) ∧ v = vw s) ∨ (o ≠ e ∧ inclO (getR (s.rt.getD e []) f) (some b) = true ∧ v = { vw s with off := offSet (offN s.of) e f o (some b) })
  | .accept e f o _ => ((¬ ∃ c, canAcc s e f o c) ∧ v = vw s) ∨ ∃ c, canAcc s e f o c ∧ v = { vw s with rt := s.rt.set e (s.rt.getD e [] ++ [(f, c)]), off := offSet (offN s.of) o f e none }
  | .drop e f _ _ => (getR (s.rt.getD e []) f = none ∧ v = vw s) ∨ (getR (s.rt.getD e []) f ≠ none ∧ v = ⟨s.rt.set e (dropR (s.rt.getD e []) f), offDrop (offN s.of) e f, s.ask.set e (s.ask.getD e 0 - 1), s.wt⟩)
  | .narrow e f _ _ => (getR (s.rt.getD e []) f ≠ some true ∧ v = vw s) ∨ (getR (s.rt.getD e []) f = some true ∧ v = { vw s with rt := s.rt.set e (thinR (s.rt.getD e []) f) })
  | .slot e _ _ _ => (s.wt.getD e 0 = 0 ∧ v = vw s) ∨ (1 < s.wt.getD e 0 ∧ v = { vw s with wt := s.wt.set e (s.wt.getD e 0 - 1) }) ∨ (s.wt.getD e 0 = 1 ∧ v = ⟨(endsS s e (newsOf s e)).rt, offN (endsS s e (newsOf s e)).of, s.ask.set e 0, s.wt.set e (s.wt.getD e 0 - 1)⟩)
  | .ask e n => v = { vw s with ask := s.ask.set e n, wt := s.wt.set e 2 }
theorem Bw.wtEq {H : Hp} {b : BA} {ask wt wt' : List Nat} {n : Nat} (h : Bw H b ask wt n) (e : ∀ j, j < 4 → 0 < ask.getD j 0 → wt'.getD j 0 = wt.getD j 0) : Bw H b ask wt' n := by
  refine ⟨h.wns, fun j hj => ?_, h.winj, h.wsep⟩
  rcases h.wis j hj with q | ⟨i, q1, q2, q3⟩
  · exact .inl q
  · exact .inr ⟨i, q1, q2, by rw [e j hj q2]; exact q3⟩
theorem Bw.put {H : Hp} {b : BA} {ask wt : List Nat} {n e a w : Nat} {q : Addr} {kvs : List (Key × V)} (h : Bw H b ask wt n) (a4 : ask.length = 4) (w4 : wt.length = 4) (e4 : e < 4) (hk : H b.wn = some (.dK kvs)) (hq : H q = none) (a0 : 0 < a) (q1 : q ≠ b.hd) (q2 : q ∉ b.h) : Bw (upd (upd H q (.lst [.int (a : Int), .int (w : Int)])) b.wn (.dK (putK kvs (.inl (e : Int)) (.ref q)))) { b with wi := wiSet b.wi e (some q) } (ask.set e a) (wt.set e w) (n + 1) := by
  obtain ⟨k1, x1, x2, x3⟩ := h.wns
  rw [hk] at x1
  cases x1
  have qn : q ≠ b.wn := fun z => by rw [z, hk] at hq; cases hq
  refine ⟨⟨_, upd_same, Nat.le_trans (length_putK _ _ _) (by omega), fun j hj => ?_⟩, fun j hj => ?_, fun j j' i hj hj' y1 y2 => ?_, fun j i hj y1 => ?_⟩
  · rw [valV_put, x3 j hj]
    show _ = (wiSet b.wi e (some q) j).map V.ref
    unfold wiSet
    by_cases y : j = e
    · rw [if_pos (keyI.mpr y), if_pos y]; rfl
    · rw [if_neg (fun z => y (keyI.mp z)), if_neg y]
  · show (wiSet b.wi e (some q) j = none ∧ _) ∨ ∃ i, wiSet b.wi e (some q) j = some i ∧ _
    unfold wiSet
    rw [getD_set (by omega), getD_set (by omega)]
    by_cases y : j = e
    · rw [if_pos y, if_pos y, if_pos y]
      exact .inr ⟨q, rfl, a0, by rw [upd_ne qn]; exact upd_same⟩
    · rw [if_neg y, if_neg y, if_neg y]
      rcases h.wis j hj with z | ⟨i, z1, z2, z3⟩
      · exact .inl z
      · refine .inr ⟨i, z1, z2, ?_⟩
        rw [upd_ne (fun z => by rw [z, hk] at z3; cases z3), upd_ne (fun z => by rw [z, hq] at z3; cases z3)]
        exact z3
  · have y1 : wiSet b.wi e (some q) j = some i := y1
    have y2 : wiSet b.wi e (some q) j' = some i := y2
    have old : ∀ k, k < 4 → b.wi k = some i → i ≠ q := fun k hk4 hb z => by
      rcases h.wis k hk4 with y | ⟨i', z1, _, z3⟩
      · rw [hb] at y; cases y.1
      · rw [hb] at z1; cases z1; rw [z, hq] at z3; cases z3
    unfold wiSet at y1 y2
    by_cases z : j = e
    · by_cases z' : j' = e
      · rw [z, z']
      · rw [if_pos z] at y1
        rw [if_neg z'] at y2
        exact absurd (Option.some.inj y1).symm (old j' hj' y2)
    · by_cases z' : j' = e
      · rw [if_neg z] at y1
        rw [if_pos z'] at y2
        exact absurd (Option.some.inj y2).symm (old j hj y1)
      · rw [if_neg z] at y1
        rw [if_neg z'] at y2
        exact h.winj j j' i hj hj' y1 y2
  · have y1 : wiSet b.wi e (some q) j = some i := y1
    unfold wiSet at y1
    by_cases z : j = e
    · rw [if_pos z] at y1
      rw [← Option.some.inj y1]
      exact ⟨q1, q2⟩
    · rw [if_neg z] at y1
      exact h.wsep j i hj y1
/-- offers change -/
theorem Bh.setOf {H : Hp} {b : BA} {rt : List RL} {off off' : Nat → Nat → Nat → Option Bool} {n n' : Nat} {kvs : List (List Key × V)} (h : Bh H b rt off n) (hn : n ≤ n') (hl : kvs.length ≤ n') (ho : ∀ e f o, e < 4 → o < 4 → valV kvs (kk3 e f o) = (off' e f o).map rV) : Bh (upd H b.of (.dT kvs)) b rt off' n' := by
  obtain ⟨r1, r2, r3, r4⟩ := h.rgs
  obtain ⟨o1, o2, o3, o4⟩ := h.ofs
  obtain ⟨_, _, _, kb4⟩ := h.kinds
  refine ⟨?_, ?_, h.h4, h.hn, h.hdn, h.hs.mono fun z _ m r => ?_, h.rgof, ⟨r1, ?_, by omega, r4⟩, ⟨kvs, upd_same, hl, ho⟩⟩
  · rw [upd_ne (ne_of h.tup o2 (by intro z; cases z))]; exact h.tup
  · rw [upd_ne (ne_of h.hdl o2 (by intro z; cases z))]; exact h.hdl
  · exact NsL.upd (fun y => kb4 (by rw [← y]; exact m)) r
  · rw [upd_ne h.rgof]; exact r2
theorem keys_thin (l : RL) (f : Nat) : keysR (thinR l f) = keysR l := by
  unfold keysR thinR
  rw [List.map_map]
  congr 1
  funext p
  show (if p.1 = f then (p.1, false) else p).1 = p.1
  split <;> rfl
theorem get_thin {l : RL} {f : Nat} (h : getR l f ≠ none) (g : Nat) : getR (thinR l f) g = if g = f then some false else getR l g := by
  apply rV_inj
  rw [← valR, ← thin_ent h, valV_put]
  by_cases q : g = f
  · rw [if_pos (keyI.mpr q), if_pos q]; rfl
  · rw [if_neg (fun z => q (keyI.mp z)), if_neg q, valR]
/-- rights of one change, the frames held stay -/
theorem Bh.setRg {H : Hp} {b : BA} {rt : List RL} {off : Nat → Nat → Nat → Option Bool} {n n' e : Nat} {l' : RL} {kvs : List (List Key × V)} (h : Bh H b rt off n) (e4 : e < rt.length) (hk : keysR l' = keysR (rt.getD e [])) (hn : n ≤ n') (hl : kvs.length ≤ n') (hr : ∀ e' f, e' < 4 → valV kvs (kk2 e' f) = (getR ((rt.set e l').getD e' []) f).map rV) : Bh (upd H b.rg (.dT kvs)) b (rt.set e l') off n' := by
  obtain ⟨r1, r2, r3, r4⟩ := h.rgs
  obtain ⟨o1, o2, o3, o4⟩ := h.ofs
  obtain ⟨kb1, kb2, kb3, kb4⟩ := h.kinds
  obtain ⟨d, hd, hdk⟩ := h.hs.at (List.getElem?_eq_getElem e4)
  have eg : rt.getD e [] = rt[e] := by rw [List.getD_eq_getElem?_getD, List.getElem?_eq_getElem e4]; rfl
  have c : Chg b.rg H (upd H b.rg (.dT kvs)) := Chg.upd
  refine h.fin hd (fun z u nz q => c z u (fun y => nz (.inr (.inl y))) q) (fun z u hz _ q => c z u (fun y => kb3 (by rw [← y]; exact hz)) q) ?_ ⟨kvs, upd_same, hl, hr⟩ ⟨o1, ?_, by omega, o4⟩
  · refine c _ _ (fun y => kb3 (by rw [← y]; exact List.mem_of_getElem? hd)) ?_
    rw [hk, eg]
    exact hdk
  · exact c _ _ (fun y => h.rgof y.symm) o2
end My

namespace My
open PySem L2
local macro_rules | `(tactic| walk_at "ne") => `(tactic| first | assumption | exact Ne.symm (by assumption) | exact ne_of_none (by assumption) (by assumption) | exact Ne.symm (ne_of_none (by assumption) (by assumption)))
local macro_rules | `(tactic| walk_at "hp") => `(tactic| first | assumption | with_reducible exact upd_same | (with_reducible refine Eq.trans (upd_ne ?_) ?_; rotate_left; walk_at "hp"; walk_at "ne"))
local macro_rules | `(tactic| walk_at "cnd") => `(tactic| first | omega | (show (0 : Int) < _; omega) | exact ⟨by omega, by omega⟩ | exact Or.inl ⟨by omega, by omega⟩ | exact Or.inr ⟨by omega, by omega⟩ | exact ⟨by omega, by omega, by decide⟩ | exact ⟨by omega, by omega, by omega⟩)
local macro_rules | `(tactic| walk_at "at") => `(tactic| first | exact atC 0 rfl rfl | exact atC 1 rfl rfl | exact atC 2 rfl rfl | exact atC 3 rfl rfl | exact atC 4 rfl rfl | exact atC 5 rfl rfl | exact atC 6 rfl rfl | exact atC 7 rfl rfl)
local macro_rules | `(tactic| walk_at "ix") => `(tactic| first | exact ixC 0 rfl (Nat.le_of_ble_eq_true rfl) | exact ixC 1 rfl (Nat.le_of_ble_eq_true rfl) | exact ixC 2 rfl (Nat.le_of_ble_eq_true rfl) | exact ixC 3 rfl (Nat.le_of_ble_eq_true rfl) | exact ixC 4 rfl (Nat.le_of_ble_eq_true rfl) | exact ixC 5 rfl (Nat.le_of_ble_eq_true rfl))
local macro_rules | `(tactic| walk_at "st") => `(tactic| first
  | refine ⟨_, rfl, ?_⟩
  | refine ⟨_, _, rfl, rfl, (by walk_at "cnd" : (_ : Prop)), ?_⟩
  | refine ⟨_, _, rfl, rfl, ?_⟩
  | refine ⟨rfl, ?_⟩
  | refine Or.inl ⟨_, rfl, ?_⟩
  | refine ⟨_, _, _, _, rfl, rfl, by exact SqL.of (by walk_at "hp"), by walk_at "at", ?_⟩
  | refine ⟨_, _, _, _, rfl, rfl, by exact SqT.of (by walk_at "hp"), by walk_at "at", ?_⟩
  | refine ⟨_, _, _, _, rfl, rfl, by walk_at "hp", by walk_at "ix", ?_⟩
  | refine ⟨_, _, rfl, Or.inl (by exact SqL.of (by walk_at "hp")), ?_⟩
  | refine ⟨_, _, rfl, Or.inr (by exact SqT.of (by walk_at "hp")), ?_⟩)
local macro_rules | `(tactic| walk_at "so") => `(tactic| first
  | refine ⟨_, _, _, _, _, rfl, by walk_at "hp", by assumption, by assumption, rfl, ?_⟩
  | refine ⟨_, _, _, _, rfl, by walk_at "hp", by assumption, by assumption, Nat.le_of_ble_eq_true rfl, ?_⟩
  | refine ⟨_, _, _, rfl, by walk_at "hp", rfl, ?_⟩
  | walk_at "st")
local macro_rules | `(tactic| walk_at "ro") => `(tactic| repeat walk_at "so")
local macro_rules | `(tactic| walk_at "run") => `(tactic| repeat walk_at "st")

def spOwnL : Sp := fun vs H Q _ => ∃ (b : BA) (dd sp : Addr) (s : FS) (n : Nat) (d : Dd), vs = [.ref dd, .ref b.bk, .ref sp, .int (s.m : Int)] ∧ H dd = some (.tup d.vals) ∧ d.ok s.m ∧ Bh H b s.rt (offN s.of) n ∧ Bw H b s.ask s.wt n ∧ NsL H sp s.sh ∧ ¬ bkS b sp ∧ FOk s ∧ Good s ∧ n ≤ 900 ∧
  ∀ v wi' V H', Nxt s v d → Bh H' { b with wi := wi' } v.rt v.off (n + 1) → Bw H' { b with wi := wi' } v.ask v.wt (n + 1) → RV H' V (resV s d) → (∀ p, V = .ref p → H p = none) → (∀ j i, j < 4 → wi' j = some i → b.wi j = some i ∨ (H i = none ∧ V = .non)) → ChgP (bkS b) H H' → Q V H'
theorem BA.eta (b : BA) : ({ b with wi := b.wi } : BA) = b := rfl
section
variable {P : Program} {w : World} {K : PySem.W.Frag} {mg : Str → Option Value} {base : Heap} {C_Frames C_NotValid : Addr}
abbrev s_law_own : Stmt := topS 27
abbrev ns_law_own : List Str := ["deed", "book", "shares", "many", "held", "rights", "offers", "wanted", "word", "environment", "frame", "other", "right", "mine"]
theorem sc_law_own : FnScope ns_law_own ["deed", "book", "shares", "many"] (defScope s_law_own) := ⟨rfl, rfl, rfl, by decide +kernel, rfl, by decide +kernel, by decide +kernel⟩

theorem ok_law_own {f : Addr} {fd : FuncData} (F : Fun K "_law_own" "_law_own" s_law_own f fd) (T : Txt K mg C_Frames C_NotValid) (D_law_take : Dfn P w K mg base CX0 2 "_law_take" ["book", "shares", "many", "environment"] spTakeL) (D_law_accept : Dfn P w K mg base CX0 2 "_law_accept" ["book", "shares", "many", "environment", "frame", "owner"] spAcceptL) (D_law_back : Dfn P w K mg base CX0 2 "_law_back" ["book", "shares", "environment"] spBackL) (D_law_end : Dfn P w K mg base CX0 1 "_law_end" ["book", "environment", "frame"] spEndL) : FnOk P w K mg base CX0 3 f fd ["deed", "book", "shares", "many"] spOwnL := by
  refine F.ok sc_law_own (fun vs H Q E h => ?_) (fun cdv A outer s H vs Q E hr h => ?_)
  · obtain ⟨b, dd, sp, s, n, d, rfl, _⟩ := h
    rfl
  · obtain ⟨b, dd, sp, s', n, d, rfl, hd, dok, B, W, hsp, nsp, ok, g, nz, k⟩ := h
    refine ⟨_, (pss_cons (ps_asg (pv 1) (kpgT K (n := 4) (by rfl) (pgs_cons (pg_name (i := 4) sc_law_own.nd rfl (Or.inl rfl)) (pgs_cons (pg_name (i := 5) sc_law_own.nd rfl (Or.inl rfl)) (pgs_cons (pg_name (i := 6) sc_law_own.nd rfl (Or.inl rfl)) (pgs_cons (pg_name (i := 7) sc_law_own.nd rfl (Or.inl rfl)) pgs_nil))))))
  (C8.pss_cut (ps_asg (pv 0) (kpgT K (n := 5) (by rfl) (pgs_cons (pg_name (i := 8) sc_law_own.nd rfl (Or.inl rfl)) (pgs_cons (pg_name (i := 9) sc_law_own.nd rfl (Or.inl rfl)) (pgs_cons (pg_name (i := 10) sc_law_own.nd rfl (Or.inl rfl)) (pgs_cons (pg_name (i := 11) sc_law_own.nd rfl (Or.inl rfl)) (pgs_cons (pg_name (i := 12) sc_law_own.nd rfl (Or.inl rfl)) pgs_nil)))))))
  (pss_cons (ps_if (pt_cmpR op_eq (pv 8) pe_str (nomark _)) (pss_one (ps_ret (pe_dcall D_law_take (hr.mono (by decide)) (by rfl) pass0 (pa_cons (pv 1) (pa_cons (pv 2) (pa_cons (pv 3) (pa_cons (pv 9) pa_nil))))))) pss_nil)
  (pss_cons (ps_if (pt_cmpR op_eq (pv 8) pe_str (nomark _)) (pss_one (ps_ret (pe_dcall D_law_accept (hr.mono (by decide)) (by rfl) pass0 (pa_cons (pv 1) (pa_cons (pv 2) (pa_cons (pv 3) (pa_cons (pv 9) (pa_cons (pv 10) (pa_cons (pv 11) pa_nil))))))))) pss_nil)
  (pss_cons (ps_if (pt_cmpR op_eq (pv 8) pe_str (nomark _)) (pss_one (ps_ret (pe_dcall D_law_back (hr.mono (by decide)) (by rfl) pass0 (pa_cons (pv 1) (pa_cons (pv 2) (pa_cons (pv 9) pa_nil)))))) pss_nil)
  (pss_cons (ps_if (pt_cmpR op_eq (pv 8) pe_str (nomark _)) (pss_cons (ps_dput (units1 hr) (pv 7) (pv 9) (pe_lst (pa_cons (pv 12) (pa_cons pe_int pa_nil))) rfl)
  (pss_one (ps_ret pe_non))) pss_nil)
  (C8.pss_cut (ps_set (i := 13) sc_law_own.nd rfl (Or.inl rfl) (pe_dget1 (units1 hr) (pv 5) (pe_tup (pa_cons (pv 9) (pa_cons (pv 10) pa_nil))) ⟨rfl, rfl, rfl, rfl⟩))
  (pss_cons (ps_if (pt_cmpR op_eq (pv 8) pe_str (nomark _)) (pss_cons (ps_if (PW.pt (pw_or (pt_cmpR op_isN (pv 13) pe_non (nomark _)) (pw_or (pt_cmpR op_eq (pv 11) (pv 9) (nomark _)) (pw_or1 (PW.pt (pw_and (pt_cmpR op_eq (pv 13) pe_str (nomark _)) (pw_and1 (pt_cmpR op_ne (pv 12) pe_str (nomark _))))))))) (pss_one (ps_ret pe_bl)) pss_nil)
  (pss_cons (ps_dput (units1 hr) (pv 6) (pe_tup (pa_cons (pv 9) (pa_cons (pv 10) (pa_cons (pv 11) pa_nil)))) (pv 12) rfl)
  (pss_one (ps_ret pe_bl)))) pss_nil)
  (pss_cons (ps_if (pt_cmpR op_eq (pv 8) pe_str (nomark _)) (C8.pss_cut (ps_if (pt_cmpR op_eq (pv 13) pe_str (nomark _)) (pss_one (ps_dput (units1 hr) (pv 5) (pe_tup (pa_cons (pv 9) (pa_cons (pv 10) pa_nil))) pe_str rfl)) pss_nil)
  (pss_one (ps_ret (pe_cmpR op_eq (pv 13) pe_str (nomark _))))) pss_nil)
  (pss_cons (ps_if (pt_cmpR op_isN (pv 13) pe_non (nomark _)) (pss_one (ps_ret pe_bl)) pss_nil)
  (pss_cons (ps_expr (pe_dcall D_law_end (hr.mono (by decide)) (by rfl) pass0 (pa_cons (pv 1) (pa_cons (pv 9) (pa_cons (pv 10) pa_nil)))))
  (C8.pss_cut (ps_if (pt_cmp (pc_din (units1 hr) (pv 9) (pv 7))) (pss_cons (ps_augS (pe_dget (units1 hr) (pv 7) (pv 9) (fun _ _ => rfl)) pe_int (kGetL K) pe_int ip_sub set_list)
  (pss_one (ps_if (pt_cmpR op_eq (pe_ix (kIxL K) (pe_dget (units1 hr) (pv 7) (pv 9) (fun _ _ => rfl)) pe_int (fun _ _ => rfl)) pe_int (nomark _)) (pss_one (ps_expr (pe_dpop1 (pv 7) (pv 9) ⟨rfl, rfl, rfl, rfl⟩))) pss_nil))) pss_nil)
  (pss_one (ps_ret pe_bl)))))))))))))), ?_⟩
    have h1 := B.tup
    obtain ⟨r1, r2, r3, r4⟩ := B.rgs
    obtain ⟨o1, o2, o3, o4⟩ := B.ofs
    obtain ⟨w1, w2, w3, w4⟩ := W.wns
    have m64 := ok.m64
    have gl := g.len
    have bhk : ∀ z, bhS b z → bkS b z := fun z q => by
      rcases q with q | q | q
      · exact .inr (.inr (.inr (.inr (.inr (.inl q)))))
      · exact .inr (.inr (.inl q))
      · exact .inr (.inr (.inr (.inl q)))
    -- W over changes of what is held
    have Wk : ∀ {H' : Hp}, ChgP (bhS b) H H' → Bw H' b s'.ask s'.wt n := fun c => W.chg c fun z hz q => by
      obtain ⟨kb1, kb2, kb3, kb4⟩ := B.kinds
      have hl : ∀ z ∈ b.h, ∃ xs, H z = some (.lst xs) := fun z hz => by
        obtain ⟨k, hk, ek⟩ := List.mem_iff_getElem.mp hz
        exact ⟨_, B.hs.2 k z (s'.rt[k]'(by rw [← B.hs.1]; exact hk)) (by rw [List.getElem?_eq_getElem hk, ek]) (List.getElem?_eq_getElem _)⟩
      rcases hz with hz | ⟨j, hj, hz⟩
      · rcases q with y | y | y
        · obtain ⟨xs, e1⟩ := hl z y
          rw [hz, w2] at e1; cases e1
        · rw [← y, hz, w2] at r2; cases r2
        · rw [← y, hz, w2] at o2; cases o2
      · obtain ⟨_, s2⟩ := W.wsep j z hj hz
        rcases W.wis j hj with ⟨z1, _⟩ | ⟨i', z1, _, z3⟩
        · rw [hz] at z1; cases z1
        · rw [hz] at z1
          have z1 := Option.some.inj z1
          rw [← z1] at z3
          rcases q with y | y | y
          · exact s2 y
          · rw [← y, z3] at r2; cases r2
          · rw [← y, z3] at o2; cases o2
    have keep : ∀ (U : V) (j : Nat) (i : Addr), j < 4 → b.wi j = some i → b.wi j = some i ∨ (H i = none ∧ U = .non) := fun _ j i _ h => .inl h
    walk_at "ro"
    refine ⟨_, _, rfl, SqT.of h1, rfl, _, _, rfl, _, _, rfl, _, _, rfl, _, _, rfl, rfl, ?_⟩
    obtain ⟨vw_, ve, vf, vo, vr, hv⟩ : ∃ w e0 f0 o0 v0, d.vals = [w, e0, f0, o0, v0] := by cases d <;> exact ⟨_, _, _, _, _, rfl⟩
    rw [hv] at hd
    refine ⟨fun σ Hx => Hide (σ = [some (.ref dd), some (.ref b.bk), some (.ref sp), some (.int (s'.m : Int)), some (.ref b.hd), some (.ref b.rg), some (.ref b.of), some (.ref b.wn), some vw_, some ve, some vf, some vo, some vr, none] ∧ H = Hx), ?_, ?_⟩
    · walk_at "ro"
      refine ⟨_, _, rfl, SqT.of hd, rfl, _, _, rfl, _, _, rfl, _, _, rfl, _, _, rfl, _, _, rfl, rfl, ?_⟩
      exact hide ⟨rfl, rfl⟩
    rintro σ Hx hh
    obtain ⟨rfl, rfl⟩ := hh.out
    clear hh hd
    cases d with
    | take e =>
      cases (show ([.str "take", .int (e : Int), .int 0, .int 0, .int 0] : List V) = [vw_, ve, vf, vo, vr] from hv)
      walk_at "ro"
      have e4 : e < 4 := dok
      refine ⟨b, sp, s', offN s'.of, n, e, rfl, B, hsp, ok.rt4, ok.sh4, ok.m64, e4, by omega, by have := gl e; omega, fun q H' sm => ?_, fun q f' hf H' B' c' => ?_⟩
      · have em : moreOf s' (eD e) = false := by
          rcases q with q | q
          · cases y : moreOf s' (eD e) with
            | false => rfl
            | true => exact absurd q (g.free ok.rt4 e4 y)
          · exact q
        refine k (vw s') b.wi _ H' (.inl ⟨em, rfl⟩) ((B.same sm).le (by omega)) ((W.same sm).le (by omega)) ?_ (fun p z => by cases z) (keep _) (ChgP.same sm)
        show RV _ _ (if moreOf s' (eD e) = true then _ else _)
        rw [em, if_neg (by decide)]; rfl
      · refine k _ b.wi _ H' (.inr ⟨q, f', hf, rfl⟩) B' ((Wk c').le (by omega)) ?_ (fun p z => by cases z) (keep _) (c'.mono bhk)
        show RV _ _ (if moreOf s' (eD e) = true then _ else _)
        rw [q, if_pos rfl, hf]; rfl
    | accept e g' o b' =>
      cases (show ([.str "accept", .int (e : Int), .int (g' : Int), .int (o : Int), rV b'] : List V) = [vw_, ve, vf, vo, vr] from hv)
      walk_at "ro"
      obtain ⟨e4, gm, oo4⟩ := dok
      refine ⟨b, sp, s', offN s'.of, n, e, g', o, rfl, B, hsp, ok.rt4, ok.sh4, e4, oo4, by omega, by have := gl e; omega, fun q H' sm => ?_, fun c q1 q2 q3 q4 H' B' c' => ?_⟩
      · have no : ¬ ∃ c, canAcc s' e g' o c := fun ⟨c, y1, y2, y3, y4⟩ => by
          rw [y1] at q
          rcases q with q | q | q
          · rw [y2] at q; cases q
          · exact q y3
          · rw [y4] at q; cases q
        refine k (vw s') b.wi _ H' (.inl ⟨no, rfl⟩) ((B.same sm).le (by omega)) ((W.same sm).le (by omega)) ?_ (fun p z => by cases z) (keep _) (ChgP.same sm)
        show RV _ _ (.bl (accB s' e g' o))
        cases y : accB s' e g' o with
        | true => exact absurd (accB_iff.mp y) no
        | false => rfl
      · have yes : ∃ c, canAcc s' e g' o c := ⟨c, q1, q2, q3, q4⟩
        refine k _ b.wi _ H' (.inr ⟨c, ⟨q1, q2, q3, q4⟩, rfl⟩) B' ((Wk c').le (by omega)) ?_ (fun p z => by cases z) (keep _) (c'.mono bhk)
        show RV _ _ (.bl (accB s' e g' o))
        rw [accB_iff.mpr yes]; rfl
    | slot e g' o v =>
      cases (show ([.str "slot", .int (e : Int), .int (g' : Int), .int (o : Int), v] : List V) = [vw_, ve, vf, vo, vr] from hv)
      walk_at "ro"
      obtain ⟨e4, fv⟩ := dok
      have nwait : (newsOf s' e).length ≤ s'.ask.getD e 0 := by
        unfold newsOf
        rw [List.length_take]
        omega
      refine ⟨b, sp, s', n, e, rfl, B, W, hsp, nsp, ok, e4, by omega, g.nd e, by have := gl e; omega, fun q => g.aw e e4 q, fun q p H' hp np sm => ?_, fun q1 q2 p H' B' W' hp np c' => ?_, fun q1 q2 p H' B' W' hp np c' => ?_⟩
      · have nn : newsOf s' e = [] := List.length_eq_zero_iff.mp (by omega)
        have res : resV s' (.slot e g' o vr) = .lst [] := by
          show Res.lst (if _ then _ else _) = _
          rw [nn]; split <;> rfl
        have wEq : ∀ w' j, j < 4 → 0 < s'.ask.getD j 0 → (s'.wt.set e w').getD j 0 = s'.wt.getD j 0 := fun w' j hj h0 => by
          rw [getD_set (by rw [ok.wt4]; exact e4), if_neg (fun z => by rw [z] at h0; omega)]
        have np' : ∀ p', V.ref p = .ref p' → H p' = none := fun p' z => by cases z; exact hp
        rcases Nat.lt_trichotomy (s'.wt.getD e 0) 1 with y | y | y
        · refine k (vw s') b.wi _ H' (.inl ⟨by omega, rfl⟩) ((B.same sm).le (by omega)) ((W.same sm).le (by omega)) (by rw [res]; exact ⟨p, rfl, np⟩) np' (keep _) (ChgP.same sm)
        · have ea : s'.ask.set e 0 = s'.ask := by
            have := set_getD (l := s'.ask) (e := e) (d := 0) (by rw [ok.ask4]; exact e4)
            rw [q] at this
            exact this
          refine k ⟨(endsS s' e (newsOf s' e)).rt, offN (endsS s' e (newsOf s' e)).of, s'.ask.set e 0, s'.wt.set e (s'.wt.getD e 0 - 1)⟩ b.wi _ H' (.inr (.inr ⟨y, rfl⟩)) ?_ ?_ (by rw [res]; exact ⟨p, rfl, np⟩) np' (keep _) (ChgP.same sm)
          · rw [nn]
            exact (B.same sm).le (by omega)
          · show Bw H' b (s'.ask.set e 0) _ _
            rw [ea]
            exact ((W.same sm).le (by omega)).wtEq (wEq _)
        · refine k { vw s' with wt := s'.wt.set e (s'.wt.getD e 0 - 1) } b.wi _ H' (.inr (.inl ⟨y, rfl⟩)) ((B.same sm).le (by omega)) (((W.same sm).le (by omega)).wtEq (wEq _)) (by rw [res]; exact ⟨p, rfl, np⟩) np' (keep _) (ChgP.same sm)
      · refine k { vw s' with wt := s'.wt.set e (s'.wt.getD e 0 - 1) } b.wi _ H' (.inr (.inl ⟨q2, rfl⟩)) (B'.le (by omega)) (W'.le (by omega)) ?_ (fun p' z => by cases z; exact hp) (keep _) c'
        show RV _ _ (Res.lst (if s'.wt.getD e 0 = 1 then _ else _))
        rw [if_neg (by omega)]
        exact ⟨p, rfl, np⟩
      · refine k ⟨(endsS s' e (newsOf s' e)).rt, offN (endsS s' e (newsOf s' e)).of, s'.ask.set e 0, s'.wt.set e (s'.wt.getD e 0 - 1)⟩ (wiSet b.wi e none) _ H' (.inr (.inr ⟨q2, rfl⟩)) (B'.le (by omega)) (W'.le (by omega)) ?_ (fun p' z => by cases z; exact hp) (fun j i hj hi => ?_) c'
        · show RV _ _ (Res.lst (if s'.wt.getD e 0 = 1 then _ else _))
          rw [if_pos q2]
          exact ⟨p, rfl, np⟩
        · unfold wiSet at hi
          by_cases y : j = e
          · rw [if_pos y] at hi; cases hi
          · rw [if_neg y] at hi; exact .inl hi
    | ask e a =>
      cases (show ([.str "ask", .int (e : Int), .int 0, .int 0, .int (a : Int)] : List V) = [vw_, ve, vf, vo, vr] from hv)
      walk_at "ro"
      obtain ⟨e4, a1, a5⟩ := dok
      refine ⟨szl rfl, fun q hq => ?_⟩
      have sq := Same.new (o := .lst [.int (a : Int), .int 2]) hq
      walk_at "ro"
      refine ⟨b.wn, _, rfl, DPut.k (k := .inl (e : Int)) (sq _ _ w2) (szt (by omega)), ?_⟩
      have qh : q ≠ b.hd := fun z => by rw [z, B.hdl] at hq; cases hq
      have qhs : q ∉ b.h := fun z => by
        obtain ⟨j, hj, ej⟩ := List.mem_iff_getElem.mp z
        have := B.hs.2 j q (s'.rt[j]'(by rw [← B.hs.1]; exact hj)) (by rw [List.getElem?_eq_getElem hj, ej]) (List.getElem?_eq_getElem _)
        rw [show H q = _ from this] at hq; cases hq
      have W' := W.put (a := a) (w := 2) ok.ask4 ok.wt4 e4 w2 hq (by omega) qh qhs
      have B' := (B.same sq).chg (H' := upd (upd H q (.lst [.int (a : Int), .int 2])) b.wn (.dK (putK w1 (.inl (e : Int)) (.ref q)))) (S := fun z => z = b.wn) (fun z u nz h => by rw [upd_ne nz]; exact h) fun z hz y => by
        have y : z = b.wn := y
        rcases hz with x | x | x | x | x
        · rw [← y, x, B.tup] at w2; cases w2
        · rw [← y, x, B.hdl] at w2; cases w2
        · rw [← y, x, r2] at w2; cases w2
        · rw [← y, x, o2] at w2; cases w2
        · obtain ⟨j, hj, ej⟩ := List.mem_iff_getElem.mp x
          have := B.hs.2 j z (s'.rt[j]'(by rw [← B.hs.1]; exact hj)) (by rw [List.getElem?_eq_getElem hj, ej]) (List.getElem?_eq_getElem _)
          rw [← y, show H z = _ from this] at w2; cases w2
      walk_at "ro"
      refine k { vw s' with ask := s'.ask.set e a, wt := s'.wt.set e 2 } (wiSet b.wi e (some q)) _ _ rfl ((B'.wi _).le (by omega)) W' rfl (fun p z => (by cases z)) (fun j i hj hi => ?_) (fun z u nz h => ?_)
      · unfold wiSet at hi
        by_cases y : j = e
        · rw [if_pos y] at hi; rw [← Option.some.inj hi]; exact .inr ⟨hq, rfl⟩
        · rw [if_neg y] at hi; exact .inl hi
      · rw [upd_ne (fun y => nz (by rw [y]; exact .inr (.inr (.inr (.inr (.inl rfl)))))), upd_ne (fun y => by rw [y, hq] at h; cases h)]
        exact h
    | offer e g' o b' =>
      cases (show ([.str "offer", .int (e : Int), .int (g' : Int), .int (o : Int), rV b'] : List V) = [vw_, ve, vf, vo, vr] from hv)
      walk_at "ro"
      obtain ⟨e4, gm, oo4⟩ := dok
      refine ⟨fun σ Hx => Hide (σ = [some (.ref dd), some (.ref b.bk), some (.ref sp), some (.int (s'.m : Int)), some (.ref b.hd), some (.ref b.rg), some (.ref b.of), some (.ref b.wn), some (.str "offer"), some (.int (e : Int)), some (.int (g' : Int)), some (.int (o : Int)), some (rV b'), some (optR (getR (s'.rt.getD e []) g'))] ∧ Same H Hx), ?_, ?_⟩
      · walk_at "ro"
        refine ⟨.inr ⟨_, .inl r2⟩, ?_⟩
        walk_at "ro"
        refine ⟨szl rfl, fun q1 hq1 => ?_⟩
        have sq1 := Same.new (o := .tup [.int (e : Int), .int (g' : Int)]) hq1
        refine ⟨_, DGet.t (k := kk2 e g') (sq1 _ _ r2) upd_same, ?_⟩
        rw [r4 e g' e4, opt_getD]
        exact hide ⟨rfl, sq1⟩
      rintro σ H1 hh
      obtain ⟨rfl, sq1⟩ := hh.out
      clear hh
      have bad : o = e ∨ inclO (getR (s'.rt.getD e []) g') (some b') = false → Q (.bl false) H1 := fun hb => by
        refine k (vw s') b.wi _ _ (.inl ⟨hb, rfl⟩) ((B.same sq1).le (by omega)) ((W.same sq1).le (by omega)) ?_ (fun p z => by cases z) (keep _) (ChgP.same sq1)
        show RV _ _ (.bl (decide (o ≠ e) && _))
        rcases hb with hb | hb
        · rw [decide_eq_false (fun z => z hb)]; rfl
        · rw [hb, Bool.and_false]; rfl
      have good : o ≠ e → inclO (getR (s'.rt.getD e []) g') (some b') = true → ∀ q2, H1 q2 = none → Q (.bl true) (upd (upd H1 q2 (.tup [.int (e : Int), .int (g' : Int), .int (o : Int)])) b.of (.dT (putK o1 (kk3 e g' o) (rV b')))) := fun hb1 hb2 q2 hq2 => by
        have s12 := sq1.trans (Same.new (o := .tup [.int (e : Int), .int (g' : Int), .int (o : Int)]) hq2)
        have B1 := B.same s12
        have B2 := B1.setOf (off' := offSet (offN s'.of) e g' o (some b')) (n' := n + 1) (kvs := putK o1 (kk3 e g' o) (rV b')) (by omega) (Nat.le_trans (length_putK _ _ _) (by omega)) fun e' f' o' he ho => by
          rw [valV_put, o4 e' f' o' he ho]
          unfold offSet
          by_cases q : e' = e ∧ f' = g' ∧ o' = o
          · rw [if_pos (kk3_inj.mpr q), if_pos q]; rfl
          · rw [if_neg (fun z => q (kk3_inj.mp z)), if_neg q]
        have c2 : ChgP (bhS b) H (upd (upd H1 q2 (.tup [.int (e : Int), .int (g' : Int), .int (o : Int)])) b.of (.dT (putK o1 (kk3 e g' o) (rV b')))) := fun z u nz h => by
          rw [upd_ne (fun y => nz (.inr (.inr y)))]
          exact s12 _ _ h
        refine k _ b.wi _ _ (.inr ⟨hb1, hb2, rfl⟩) B2 ((Wk c2).le (by omega)) ?_ (fun p z => by cases z) (keep _) (c2.mono bhk)
        show RV _ _ (.bl (decide (o ≠ e) && _))
        rw [hb2, decide_eq_true hb1]; rfl
      cases em : getR (s'.rt.getD e []) g' with
      | none =>
        walk_at "ro"
        exact bad (.inr (by rw [em]; rfl))
      | some c =>
        rw [em] at good bad
        have fin : ∀ q2, H1 q2 = none → DPut (upd H1 q2 (.tup [.int (e : Int), .int (g' : Int), .int (o : Int)])) b.of (.ref q2) (rV b') (upd (upd H1 q2 (.tup [.int (e : Int), .int (g' : Int), .int (o : Int)])) b.of (.dT (putK o1 (kk3 e g' o) (rV b')))) := fun q2 hq2 =>
          DPut.t (k := kk3 e g' o) ((Same.new hq2) _ _ (sq1 _ _ o2)) upd_same (szt (by omega))
        by_cases oe : o = e
        · have bad1 := bad (.inl oe)
          subst oe
          cases c <;> (walk_at "ro"; refine iteD (fun _ => ?_) (fun q => absurd rfl q); refine iteT ?_; walk_at "ro"; exact bad1)
        · have ne : ¬ (V.int (o : Int) = V.int (e : Int)) := fun z => oe (by injection z with z; omega)
          cases c <;> cases b'
          · walk_at "ro"
            refine iteD (fun q => absurd q ne) (fun _ => ?_)
            walk_at "ro"
            refine ⟨szl rfl, fun q2 hq2 => ?_⟩
            refine ⟨b.of, _, rfl, fin q2 hq2, ?_⟩
            walk_at "ro"
            exact good oe rfl q2 hq2
          · walk_at "ro"
            refine iteD (fun q => absurd q ne) (fun _ => ?_)
            walk_at "ro"
            exact bad (.inr rfl)
          · walk_at "ro"
            refine iteD (fun q => absurd q ne) (fun _ => ?_)
            walk_at "ro"
            refine ⟨szl rfl, fun q2 hq2 => ?_⟩
            refine ⟨b.of, _, rfl, fin q2 hq2, ?_⟩
            walk_at "ro"
            exact good oe rfl q2 hq2
          · walk_at "ro"
            refine iteD (fun q => absurd q ne) (fun _ => ?_)
            walk_at "ro"
            refine ⟨szl rfl, fun q2 hq2 => ?_⟩
            refine ⟨b.of, _, rfl, fin q2 hq2, ?_⟩
            walk_at "ro"
            exact good oe rfl q2 hq2
    | narrow e g' o b' =>
      cases (show ([.str "narrow", .int (e : Int), .int (g' : Int), .int (o : Int), rV b'] : List V) = [vw_, ve, vf, vo, vr] from hv)
      walk_at "ro"
      obtain ⟨e4, gm, oo4⟩ := dok
      refine ⟨fun σ Hx => Hide (σ = [some (.ref dd), some (.ref b.bk), some (.ref sp), some (.int (s'.m : Int)), some (.ref b.hd), some (.ref b.rg), some (.ref b.of), some (.ref b.wn), some (.str "narrow"), some (.int (e : Int)), some (.int (g' : Int)), some (.int (o : Int)), some (rV b'), some (optR (getR (s'.rt.getD e []) g'))] ∧ Same H Hx), ?_, ?_⟩
      · walk_at "ro"
        refine ⟨.inr ⟨_, .inl r2⟩, ?_⟩
        walk_at "ro"
        refine ⟨szl rfl, fun q1 hq1 => ?_⟩
        have sq1 := Same.new (o := .tup [.int (e : Int), .int (g' : Int)]) hq1
        refine ⟨_, DGet.t (k := kk2 e g') (sq1 _ _ r2) upd_same, ?_⟩
        rw [r4 e g' e4, opt_getD]
        exact hide ⟨rfl, sq1⟩
      rintro σ H1 hh
      obtain ⟨rfl, sq1⟩ := hh.out
      clear hh
      have B1 := B.same sq1
      have W1 := W.same sq1
      have r21 := sq1 _ _ r2
      by_cases em : getR (s'.rt.getD e []) g' = some true
      · have res : RV H1 (.bl true) (resV s' (.narrow e g' o b')) := by
          show RV _ _ (.bl (decide (getR (s'.rt.getD e []) g' = some true)))
          rw [decide_eq_true em]; rfl
        rw [em]
        walk_at "ro"
        refine ⟨fun σ Hx => Hide (σ = [some (.ref dd), some (.ref b.bk), some (.ref sp), some (.int (s'.m : Int)), some (.ref b.hd), some (.ref b.rg), some (.ref b.of), some (.ref b.wn), some (.str "narrow"), some (.int (e : Int)), some (.int (g' : Int)), some (.int (o : Int)), some (rV b'), some (optR (some true))] ∧ Bh Hx b (s'.rt.set e (thinR (s'.rt.getD e []) g')) (offN s'.of) (n + 1) ∧ ChgP (bhS b) H Hx), ?_, ?_⟩
        · walk_at "ro"
          refine ⟨szl rfl, fun q2 hq2 => ?_⟩
          have sq2 := Same.new (o := .tup [.int (e : Int), .int (g' : Int)]) hq2
          refine ⟨b.rg, _, rfl, DPut.t (k := kk2 e g') (sq2 _ _ r21) upd_same (szt (by omega)), ?_⟩
          have en : getR (s'.rt.getD e []) g' ≠ none := by rw [em]; intro z; cases z
          have el : e < s'.rt.length := by rw [ok.rt4]; exact e4
          refine hide ⟨rfl, (B1.same sq2).setRg el (keys_thin _ _) (by omega) (Nat.le_trans (length_putK _ _ _) (by omega)) fun e' f' he => ?_, fun z u nz h => ?_⟩
          · rw [valV_put, r4 e' f' he, getD_set el]
            by_cases q : e' = e
            · subst q
              rw [if_pos rfl, get_thin en]
              by_cases q2 : f' = g'
              · subst q2
                rw [if_pos rfl, if_pos rfl]; rfl
              · rw [if_neg (fun z => q2 (kk2_inj.mp z).2), if_neg q2]
            · rw [if_neg (fun z => q (kk2_inj.mp z).1), if_neg q]
          · rw [upd_ne (fun y => nz (.inr (.inl y)))]
            exact sq2 _ _ (sq1 _ _ h)
        · rintro σ Hx hh
          obtain ⟨rfl, Bx, cx⟩ := hh.out
          walk_at "ro"
          exact k _ b.wi _ Hx (.inr ⟨em, rfl⟩) Bx ((Wk cx).le (by omega)) (by
            show RV _ _ (.bl (decide (getR (s'.rt.getD e []) g' = some true)))
            rw [decide_eq_true em]; rfl) (fun p z => by cases z) (keep _) (cx.mono bhk)
      · have fin : Q (.bl false) H1 := by
          refine k (vw s') b.wi _ _ (.inl ⟨em, rfl⟩) (B1.le (by omega)) (W1.le (by omega)) ?_ (fun p z => by cases z) (keep _) (ChgP.same sq1)
          show RV _ _ (.bl (decide (getR (s'.rt.getD e []) g' = some true)))
          rw [decide_eq_false em]; rfl
        have cut : ∀ mv : Option Bool, mv ≠ some true → getR (s'.rt.getD e []) g' = mv → True := fun _ _ _ => trivial
        cases ey : getR (s'.rt.getD e []) g' with
        | none =>
          walk_at "ro"
          refine ⟨fun σ Hx => Hide (σ = [some (.ref dd), some (.ref b.bk), some (.ref sp), some (.int (s'.m : Int)), some (.ref b.hd), some (.ref b.rg), some (.ref b.of), some (.ref b.wn), some (.str "narrow"), some (.int (e : Int)), some (.int (g' : Int)), some (.int (o : Int)), some (rV b'), some .non] ∧ Hx = H1), ?_, ?_⟩
          · walk_at "ro"
            exact hide ⟨rfl, rfl⟩
          · rintro σ Hx hh
            obtain ⟨rfl, rfl⟩ := hh.out
            walk_at "ro"
            exact fin
        | some c =>
          cases c with
          | true => exact absurd ey em
          | false =>
            walk_at "ro"
            refine ⟨fun σ Hx => Hide (σ = [some (.ref dd), some (.ref b.bk), some (.ref sp), some (.int (s'.m : Int)), some (.ref b.hd), some (.ref b.rg), some (.ref b.of), some (.ref b.wn), some (.str "narrow"), some (.int (e : Int)), some (.int (g' : Int)), some (.int (o : Int)), some (rV b'), some (optR (some false))] ∧ Hx = H1), ?_, ?_⟩
            · walk_at "ro"
              exact hide ⟨rfl, rfl⟩
            · rintro σ Hx hh
              obtain ⟨rfl, rfl⟩ := hh.out
              walk_at "ro"
              exact fin
    | drop e g' o b' =>
      cases (show ([.str "drop", .int (e : Int), .int (g' : Int), .int (o : Int), rV b'] : List V) = [vw_, ve, vf, vo, vr] from hv)
      walk_at "ro"
      obtain ⟨e4, gm, oo4⟩ := dok
      refine ⟨fun σ Hx => Hide (σ = [some (.ref dd), some (.ref b.bk), some (.ref sp), some (.int (s'.m : Int)), some (.ref b.hd), some (.ref b.rg), some (.ref b.of), some (.ref b.wn), some (.str "drop"), some (.int (e : Int)), some (.int (g' : Int)), some (.int (o : Int)), some (rV b'), some (optR (getR (s'.rt.getD e []) g'))] ∧ Same H Hx), ?_, ?_⟩
      · walk_at "ro"
        refine ⟨.inr ⟨_, .inl r2⟩, ?_⟩
        walk_at "ro"
        refine ⟨szl rfl, fun q1 hq1 => ?_⟩
        have sq1 := Same.new (o := .tup [.int (e : Int), .int (g' : Int)]) hq1
        refine ⟨_, DGet.t (k := kk2 e g') (sq1 _ _ r2) upd_same, ?_⟩
        rw [r4 e g' e4, opt_getD]
        exact hide ⟨rfl, sq1⟩
      rintro σ H1 hh
      obtain ⟨rfl, sq1⟩ := hh.out
      clear hh
      have B1 := B.same sq1
      have W1 := W.same sq1
      cases em : getR (s'.rt.getD e []) g' with
      | none =>
        walk_at "ro"
        refine k (vw s') b.wi _ _ (.inl ⟨em, rfl⟩) (B1.le (by omega)) (W1.le (by omega)) ?_ (fun p z => by cases z) (keep _) (ChgP.same sq1)
        show RV _ _ (.bl (getR (s'.rt.getD e []) g').isSome)
        rw [em]; rfl
      | some c =>
        have en : getR (s'.rt.getD e []) g' ≠ none := by rw [em]; intro z; cases z
        have res : ∀ Hx, RV Hx (.bl true) (resV s' (.drop e g' o b')) := fun Hx => by
          show RV _ _ (.bl (getR (s'.rt.getD e []) g').isSome)
          rw [em]; rfl
        cases c
        · walk_at "ro"
          refine ⟨b, s'.rt, offN s'.of, n, e, g', rfl, B1, by omega, e4, ok.rt4, g.nd e, by have := gl e; omega, en, fun H2 B2 c2 => ?_⟩
          have c02 : ChgP (bhS b) H H2 := (ChgP.same sq1).trans c2
          have W2 := Wk c02
          have w22 : H2 b.wn = some (.dK w1) := by
            obtain ⟨v1, v2, v3, v4⟩ := W.wns
            refine c02 _ _ (fun y => ?_) w2
            obtain ⟨kb1, kb2, kb3, kb4⟩ := B.kinds
            rcases y with y | y | y
            · obtain ⟨j, hj, ej⟩ := List.mem_iff_getElem.mp y
              have := B.hs.2 j _ (s'.rt[j]'(by rw [← B.hs.1]; exact hj)) (by rw [List.getElem?_eq_getElem hj, ej]) (List.getElem?_eq_getElem _)
              rw [show H b.wn = _ from this] at w2; cases w2
            · rw [← y, w2] at r2; cases r2
            · rw [← y, w2] at o2; cases o2
          refine ⟨fun σ Hx => Hide (σ = [some (.ref dd), some (.ref b.bk), some (.ref sp), some (.int (s'.m : Int)), some (.ref b.hd), some (.ref b.rg), some (.ref b.of), some (.ref b.wn), some (.str "drop"), some (.int (e : Int)), some (.int (g' : Int)), some (.int (o : Int)), some (rV b'), some (optR (some false))] ∧ ∃ wi', Bh Hx { b with wi := wi' } (s'.rt.set e (dropR (s'.rt.getD e []) g')) (offDrop (offN s'.of) e g') n ∧ Bw Hx { b with wi := wi' } (s'.ask.set e (s'.ask.getD e 0 - 1)) s'.wt n ∧ (∀ j i, j < 4 → wi' j = some i → b.wi j = some i) ∧ ChgP (bkS b) H Hx), ?_, ?_⟩
          · walk_at "ro"
            refine ⟨b.wn, _, rfl, DGet.k (k := .inl (e : Int)) w22, ?_⟩
            rw [w4 e e4]
            refine ⟨_, rfl, ?_⟩
            rcases W2.wis e e4 with ⟨y1, y2⟩ | ⟨i, y1, y2, y3⟩
            · rw [y1]
              refine iteF ?_
              have ea : s'.ask.set e (s'.ask.getD e 0 - 1) = s'.ask := by
                have := set_getD (l := s'.ask) (e := e) (d := 0) (by rw [ok.ask4]; exact e4)
                rw [y2] at this ⊢
                exact this
              exact hide ⟨rfl, b.wi, B2, by rw [ea]; exact W2, fun _ _ _ h => h, c02.mono bhk⟩
            · rw [y1]
              refine iteT ?_
              have i0 : b.wi e = some i := y1
              obtain ⟨is1, is2⟩ := W2.wsep e i e4 y1
              have iS : bkS b i := .inr (.inr (.inr (.inr (.inr (.inr ⟨e, e4, y1⟩)))))
              have hwn : b.wn ≠ i := ne_of w22 y3 (by intro z; cases z)
              have wnS : bkS b b.wn := .inr (.inr (.inr (.inr (.inl rfl))))
              walk_at "ro"
              refine ⟨b.wn, .ref i, rfl, by have := DGet.k (k := .inl (e : Int)) w22; rw [w4 e e4, y1] at this; exact this, ?_⟩
              walk_at "ro"
              have es : ([V.int ((s'.ask.getD e 0 : Nat) : Int), V.int ((s'.wt.getD e 0 : Nat) : Int)].set 0 (V.int ((fun i j : Int => i - j) ((s'.ask.getD e 0 : Nat) : Int) 1))) = [V.int ((s'.ask.getD e 0 - 1 : Nat) : Int), V.int ((s'.wt.getD e 0 : Nat) : Int)] := by
                show [V.int (((s'.ask.getD e 0 : Nat) : Int) - 1), _] = _
                rw [show ((s'.ask.getD e 0 : Nat) : Int) - 1 = ((s'.ask.getD e 0 - 1 : Nat) : Int) by omega]
              rw [es]
              have B3 := B2.updI (o := .lst [V.int ((s'.ask.getD e 0 - 1 : Nat) : Int), V.int ((s'.wt.getD e 0 : Nat) : Int)]) y3 is1 is2
              have c3 : Chg i H2 (upd H2 i (.lst [V.int ((s'.ask.getD e 0 - 1 : Nat) : Int), V.int ((s'.wt.getD e 0 : Nat) : Int)])) := Chg.upd
              have n3 : (upd H2 i (.lst [V.int ((s'.ask.getD e 0 - 1 : Nat) : Int), V.int ((s'.wt.getD e 0 : Nat) : Int)])) i = some (.lst [V.int ((s'.ask.getD e 0 - 1 : Nat) : Int), V.int ((s'.wt.getD e 0 : Nat) : Int)]) := upd_same
              have W3 : 0 < s'.ask.getD e 0 - 1 → Bw (upd H2 i (.lst [V.int ((s'.ask.getD e 0 - 1 : Nat) : Int), V.int ((s'.wt.getD e 0 : Nat) : Int)])) b (s'.ask.set e (s'.ask.getD e 0 - 1)) s'.wt n := fun a0 => by
                have := W2.setI (a := s'.ask.getD e 0 - 1) (w := s'.wt.getD e 0) ok.ask4 ok.wt4 e4 y1 a0
                rw [set_getD (by rw [ok.wt4]; exact e4)] at this
                exact this
              generalize upd H2 i (.lst [V.int ((s'.ask.getD e 0 - 1 : Nat) : Int), V.int ((s'.wt.getD e 0 : Nat) : Int)]) = H3 at B3 c3 n3 W3 ⊢
              have w23 := c3 _ _ hwn w22
              have c23 : ChgP (bkS b) H H3 := fun z u nz h => c3 _ _ (fun y => nz (by rw [y]; exact iS)) (c02 _ _ (fun y => nz (bhk _ y)) h)
              refine ⟨b.wn, .ref i, rfl, by have := DGet.k (k := .inl (e : Int)) w23; rw [w4 e e4, i0] at this; exact this, ?_⟩
              walk_at "ro"
              refine iteD (fun q => ?_) (fun q => ?_)
              · have q0 : s'.ask.getD e 0 - 1 = 0 := by injection q with q; omega
                walk_at "ro"
                refine ⟨.inl ⟨_, .inl w23⟩, ?_⟩
                walk_at "ro"
                refine ⟨w1, .inl (e : Int), .ref i, w23, rfl, by rw [w4 e e4, i0]; rfl, ?_⟩
                have c34 : Chg b.wn H3 (upd H3 b.wn (.dK (dropK w1 (.inl (e : Int))))) := Chg.upd
                have W4 : Bw (upd H3 b.wn (.dK (dropK w1 (.inl (e : Int))))) { b with wi := wiSet b.wi e none } (s'.ask.set e 0) s'.wt n := by
                  refine (W2.gone (wt' := s'.wt) ok.ask4 e4 (fun _ _ _ => rfl) w22).chg (S := fun z => z = i) (fun z u nz h => ?_) fun z hz y => ?_
                  · have nz : z ≠ i := nz
                    by_cases x : z = b.wn
                    · subst x
                      rw [upd_same] at h ⊢
                      exact h
                    · rw [upd_ne x] at h ⊢
                      exact c3 _ _ nz h
                  · have y : z = i := y
                    rcases hz with hz | ⟨j, hj, hz⟩
                    · have hz : z = b.wn := hz
                      exact hwn (hz.symm.trans y)
                    · have hz : wiSet b.wi e none j = some z := hz
                      unfold wiSet at hz
                      by_cases x : j = e
                      · rw [if_pos x] at hz; cases hz
                      · rw [if_neg x, y] at hz
                        exact x (W2.winj j e i hj e4 hz i0)
                have B4 : Bh (upd H3 b.wn (.dK (dropK w1 (.inl (e : Int))))) b (s'.rt.set e (dropR (s'.rt.getD e []) g')) (offDrop (offN s'.of) e g') n := by
                  obtain ⟨t1, t2, _⟩ := B3.rgs
                  obtain ⟨u1, u2, _⟩ := B3.ofs
                  refine B3.chg (S := fun z => z = b.wn) (fun z u nz h => by rw [upd_ne nz]; exact h) fun z hz q => ?_
                  have q : z = b.wn := q
                  rcases hz with y | y | y | y | y
                  · rw [← q, y, B3.tup] at w23; cases w23
                  · rw [← q, y, B3.hdl] at w23; cases w23
                  · rw [← q, y, t2] at w23; cases w23
                  · rw [← q, y, u2] at w23; cases w23
                  · obtain ⟨j, hj, ej⟩ := List.mem_iff_getElem.mp y
                    have := B3.hs.2 j z _ (by rw [List.getElem?_eq_getElem hj, ej]) (List.getElem?_eq_getElem (by rw [← B3.hs.1]; exact hj))
                    rw [← q, show H3 z = _ from this] at w23; cases w23
                refine hide ⟨rfl, wiSet b.wi e none, B4.wi _, by rw [q0]; exact W4, fun j i' _ h => ?_, fun z u nz h => c34 _ _ (fun y => nz (by rw [y]; exact wnS)) (c23 _ _ nz h)⟩
                unfold wiSet at h
                by_cases x : j = e
                · rw [if_pos x] at h; cases h
                · rw [if_neg x] at h; exact h
              · have q0 : 0 < s'.ask.getD e 0 - 1 := by
                  refine Nat.pos_of_ne_zero fun z => q ?_
                  rw [z]; rfl
                exact hide ⟨rfl, b.wi, B3, W3 q0, fun _ _ _ h => h, c23⟩
          · rintro σ Hx hh
            obtain ⟨rfl, wi', Bx, Wx, hw, cx⟩ := hh.out
            walk_at "ro"
            exact k _ wi' _ Hx (.inr ⟨en, rfl⟩) (Bx.le (by omega)) (Wx.le (by omega)) (res Hx) (fun p z => by cases z) (fun j i hj h => .inl (hw j i hj h)) cx
        · walk_at "ro"
          refine ⟨b, s'.rt, offN s'.of, n, e, g', rfl, B1, by omega, e4, ok.rt4, g.nd e, by have := gl e; omega, en, fun H2 B2 c2 => ?_⟩
          have c02 : ChgP (bhS b) H H2 := (ChgP.same sq1).trans c2
          have W2 := Wk c02
          have w22 : H2 b.wn = some (.dK w1) := by
            obtain ⟨v1, v2, v3, v4⟩ := W.wns
            refine c02 _ _ (fun y => ?_) w2
            obtain ⟨kb1, kb2, kb3, kb4⟩ := B.kinds
            rcases y with y | y | y
            · obtain ⟨j, hj, ej⟩ := List.mem_iff_getElem.mp y
              have := B.hs.2 j _ (s'.rt[j]'(by rw [← B.hs.1]; exact hj)) (by rw [List.getElem?_eq_getElem hj, ej]) (List.getElem?_eq_getElem _)
              rw [show H b.wn = _ from this] at w2; cases w2
            · rw [← y, w2] at r2; cases r2
            · rw [← y, w2] at o2; cases o2
          refine ⟨fun σ Hx => Hide (σ = [some (.ref dd), some (.ref b.bk), some (.ref sp), some (.int (s'.m : Int)), some (.ref b.hd), some (.ref b.rg), some (.ref b.of), some (.ref b.wn), some (.str "drop"), some (.int (e : Int)), some (.int (g' : Int)), some (.int (o : Int)), some (rV b'), some (optR (some true))] ∧ ∃ wi', Bh Hx { b with wi := wi' } (s'.rt.set e (dropR (s'.rt.getD e []) g')) (offDrop (offN s'.of) e g') n ∧ Bw Hx { b with wi := wi' } (s'.ask.set e (s'.ask.getD e 0 - 1)) s'.wt n ∧ (∀ j i, j < 4 → wi' j = some i → b.wi j = some i) ∧ ChgP (bkS b) H Hx), ?_, ?_⟩
          · walk_at "ro"
            refine ⟨b.wn, _, rfl, DGet.k (k := .inl (e : Int)) w22, ?_⟩
            rw [w4 e e4]
            refine ⟨_, rfl, ?_⟩
            rcases W2.wis e e4 with ⟨y1, y2⟩ | ⟨i, y1, y2, y3⟩
            · rw [y1]
              refine iteF ?_
              have ea : s'.ask.set e (s'.ask.getD e 0 - 1) = s'.ask := by
                have := set_getD (l := s'.ask) (e := e) (d := 0) (by rw [ok.ask4]; exact e4)
                rw [y2] at this ⊢
                exact this
              exact hide ⟨rfl, b.wi, B2, by rw [ea]; exact W2, fun _ _ _ h => h, c02.mono bhk⟩
            · rw [y1]
              refine iteT ?_
              have i0 : b.wi e = some i := y1
              obtain ⟨is1, is2⟩ := W2.wsep e i e4 y1
              have iS : bkS b i := .inr (.inr (.inr (.inr (.inr (.inr ⟨e, e4, y1⟩)))))
              have hwn : b.wn ≠ i := ne_of w22 y3 (by intro z; cases z)
              have wnS : bkS b b.wn := .inr (.inr (.inr (.inr (.inl rfl))))
              walk_at "ro"
              refine ⟨b.wn, .ref i, rfl, by have := DGet.k (k := .inl (e : Int)) w22; rw [w4 e e4, y1] at this; exact this, ?_⟩
              walk_at "ro"
              have es : ([V.int ((s'.ask.getD e 0 : Nat) : Int), V.int ((s'.wt.getD e 0 : Nat) : Int)].set 0 (V.int ((fun i j : Int => i - j) ((s'.ask.getD e 0 : Nat) : Int) 1))) = [V.int ((s'.ask.getD e 0 - 1 : Nat) : Int), V.int ((s'.wt.getD e 0 : Nat) : Int)] := by
                show [V.int (((s'.ask.getD e 0 : Nat) : Int) - 1), _] = _
                rw [show ((s'.ask.getD e 0 : Nat) : Int) - 1 = ((s'.ask.getD e 0 - 1 : Nat) : Int) by omega]
              rw [es]
              have B3 := B2.updI (o := .lst [V.int ((s'.ask.getD e 0 - 1 : Nat) : Int), V.int ((s'.wt.getD e 0 : Nat) : Int)]) y3 is1 is2
              have c3 : Chg i H2 (upd H2 i (.lst [V.int ((s'.ask.getD e 0 - 1 : Nat) : Int), V.int ((s'.wt.getD e 0 : Nat) : Int)])) := Chg.upd
              have n3 : (upd H2 i (.lst [V.int ((s'.ask.getD e 0 - 1 : Nat) : Int), V.int ((s'.wt.getD e 0 : Nat) : Int)])) i = some (.lst [V.int ((s'.ask.getD e 0 - 1 : Nat) : Int), V.int ((s'.wt.getD e 0 : Nat) : Int)]) := upd_same
              have W3 : 0 < s'.ask.getD e 0 - 1 → Bw (upd H2 i (.lst [V.int ((s'.ask.getD e 0 - 1 : Nat) : Int), V.int ((s'.wt.getD e 0 : Nat) : Int)])) b (s'.ask.set e (s'.ask.getD e 0 - 1)) s'.wt n := fun a0 => by
                have := W2.setI (a := s'.ask.getD e 0 - 1) (w := s'.wt.getD e 0) ok.ask4 ok.wt4 e4 y1 a0
                rw [set_getD (by rw [ok.wt4]; exact e4)] at this
                exact this
              generalize upd H2 i (.lst [V.int ((s'.ask.getD e 0 - 1 : Nat) : Int), V.int ((s'.wt.getD e 0 : Nat) : Int)]) = H3 at B3 c3 n3 W3 ⊢
              have w23 := c3 _ _ hwn w22
              have c23 : ChgP (bkS b) H H3 := fun z u nz h => c3 _ _ (fun y => nz (by rw [y]; exact iS)) (c02 _ _ (fun y => nz (bhk _ y)) h)
              refine ⟨b.wn, .ref i, rfl, by have := DGet.k (k := .inl (e : Int)) w23; rw [w4 e e4, i0] at this; exact this, ?_⟩
              walk_at "ro"
              refine iteD (fun q => ?_) (fun q => ?_)
              · have q0 : s'.ask.getD e 0 - 1 = 0 := by injection q with q; omega
                walk_at "ro"
                refine ⟨.inl ⟨_, .inl w23⟩, ?_⟩
                walk_at "ro"
                refine ⟨w1, .inl (e : Int), .ref i, w23, rfl, by rw [w4 e e4, i0]; rfl, ?_⟩
                have c34 : Chg b.wn H3 (upd H3 b.wn (.dK (dropK w1 (.inl (e : Int))))) := Chg.upd
                have W4 : Bw (upd H3 b.wn (.dK (dropK w1 (.inl (e : Int))))) { b with wi := wiSet b.wi e none } (s'.ask.set e 0) s'.wt n := by
                  refine (W2.gone (wt' := s'.wt) ok.ask4 e4 (fun _ _ _ => rfl) w22).chg (S := fun z => z = i) (fun z u nz h => ?_) fun z hz y => ?_
                  · have nz : z ≠ i := nz
                    by_cases x : z = b.wn
                    · subst x
                      rw [upd_same] at h ⊢
                      exact h
                    · rw [upd_ne x] at h ⊢
                      exact c3 _ _ nz h
                  · have y : z = i := y
                    rcases hz with hz | ⟨j, hj, hz⟩
                    · have hz : z = b.wn := hz
                      exact hwn (hz.symm.trans y)
                    · have hz : wiSet b.wi e none j = some z := hz
                      unfold wiSet at hz
                      by_cases x : j = e
                      · rw [if_pos x] at hz; cases hz
                      · rw [if_neg x, y] at hz
                        exact x (W2.winj j e i hj e4 hz i0)
                have B4 : Bh (upd H3 b.wn (.dK (dropK w1 (.inl (e : Int))))) b (s'.rt.set e (dropR (s'.rt.getD e []) g')) (offDrop (offN s'.of) e g') n := by
                  obtain ⟨t1, t2, _⟩ := B3.rgs
                  obtain ⟨u1, u2, _⟩ := B3.ofs
                  refine B3.chg (S := fun z => z = b.wn) (fun z u nz h => by rw [upd_ne nz]; exact h) fun z hz q => ?_
                  have q : z = b.wn := q
                  rcases hz with y | y | y | y | y
                  · rw [← q, y, B3.tup] at w23; cases w23
                  · rw [← q, y, B3.hdl] at w23; cases w23
                  · rw [← q, y, t2] at w23; cases w23
                  · rw [← q, y, u2] at w23; cases w23
                  · obtain ⟨j, hj, ej⟩ := List.mem_iff_getElem.mp y
                    have := B3.hs.2 j z _ (by rw [List.getElem?_eq_getElem hj, ej]) (List.getElem?_eq_getElem (by rw [← B3.hs.1]; exact hj))
                    rw [← q, show H3 z = _ from this] at w23; cases w23
                refine hide ⟨rfl, wiSet b.wi e none, B4.wi _, by rw [q0]; exact W4, fun j i' _ h => ?_, fun z u nz h => c34 _ _ (fun y => nz (by rw [y]; exact wnS)) (c23 _ _ nz h)⟩
                unfold wiSet at h
                by_cases x : j = e
                · rw [if_pos x] at h; cases h
                · rw [if_neg x] at h; exact h
              · have q0 : 0 < s'.ask.getD e 0 - 1 := by
                  refine Nat.pos_of_ne_zero fun z => q ?_
                  rw [z]; rfl
                exact hide ⟨rfl, b.wi, B3, W3 q0, fun _ _ _ h => h, c23⟩
          · rintro σ Hx hh
            obtain ⟨rfl, wi', Bx, Wx, hw, cx⟩ := hh.out
            walk_at "ro"
            exact k _ wi' _ Hx (.inr ⟨en, rfl⟩) (Bx.le (by omega)) (Wx.le (by omega)) (res Hx) (fun p z => by cases z) (fun j i hj h => .inl (hw j i hj h)) cx
end
end My

namespace My
open PySem L2
local macro_rules | `(tactic| walk_at "ne") => `(tactic| first | assumption | exact Ne.symm (by assumption) | exact ne_of_none (by assumption) (by assumption) | exact Ne.symm (ne_of_none (by assumption) (by assumption)))
local macro_rules | `(tactic| walk_at "hp") => `(tactic| first | assumption | with_reducible exact upd_same | (with_reducible refine Eq.trans (upd_ne ?_) ?_; rotate_left; walk_at "hp"; walk_at "ne"))
local macro_rules | `(tactic| walk_at "cnd") => `(tactic| first | omega | (show (0 : Int) < _; omega) | exact ⟨by omega, by omega⟩ | exact Or.inl ⟨by omega, by omega⟩ | exact Or.inr ⟨by omega, by omega⟩ | exact ⟨by omega, by omega, by decide⟩ | exact ⟨by omega, by omega, by omega⟩)
local macro_rules | `(tactic| walk_at "at") => `(tactic| first | exact atC 0 rfl rfl | exact atC 1 rfl rfl | exact atC 2 rfl rfl | exact atC 3 rfl rfl | exact atC 4 rfl rfl | exact atC 5 rfl rfl | exact atC 6 rfl rfl | exact atC 7 rfl rfl)
local macro_rules | `(tactic| walk_at "ix") => `(tactic| first | exact ixC 0 rfl (Nat.le_of_ble_eq_true rfl) | exact ixC 1 rfl (Nat.le_of_ble_eq_true rfl) | exact ixC 2 rfl (Nat.le_of_ble_eq_true rfl) | exact ixC 3 rfl (Nat.le_of_ble_eq_true rfl) | exact ixC 4 rfl (Nat.le_of_ble_eq_true rfl) | exact ixC 5 rfl (Nat.le_of_ble_eq_true rfl))
local macro_rules | `(tactic| walk_at "st") => `(tactic| first
  | refine ⟨_, rfl, ?_⟩
  | refine ⟨_, _, rfl, rfl, (by walk_at "cnd" : (_ : Prop)), ?_⟩
  | refine ⟨_, _, rfl, rfl, ?_⟩
  | refine ⟨rfl, ?_⟩
  | refine Or.inl ⟨_, rfl, ?_⟩
  | refine ⟨_, _, _, _, rfl, rfl, by exact SqL.of (by walk_at "hp"), by walk_at "at", ?_⟩
  | refine ⟨_, _, _, _, rfl, rfl, by exact SqT.of (by walk_at "hp"), by walk_at "at", ?_⟩
  | refine ⟨_, _, _, _, rfl, rfl, by walk_at "hp", by walk_at "ix", ?_⟩
  | refine ⟨_, _, rfl, Or.inl (by exact SqL.of (by walk_at "hp")), ?_⟩
  | refine ⟨_, _, rfl, Or.inr (by exact SqT.of (by walk_at "hp")), ?_⟩)
local macro_rules | `(tactic| walk_at "so") => `(tactic| first
  | refine ⟨_, _, _, _, _, rfl, by walk_at "hp", by assumption, by assumption, rfl, ?_⟩
  | refine ⟨_, _, _, _, rfl, by walk_at "hp", by assumption, by assumption, Nat.le_of_ble_eq_true rfl, ?_⟩
  | refine ⟨_, _, _, rfl, by walk_at "hp", rfl, ?_⟩
  | walk_at "st")
local macro_rules | `(tactic| walk_at "ro") => `(tactic| repeat walk_at "so")
local macro_rules | `(tactic| walk_at "run") => `(tactic| repeat walk_at "st")

theorem endsS_wt (e : Nat) (w : List Nat) : ∀ (fs : List Nat) (s : FS), endsS { s with wt := w } e fs = { endsS s e fs with wt := w }
  | [], s => rfl
  | f :: fs, s => by
    show endsS (endS { s with wt := w } e f) e fs = { endsS (endS s e f) e fs with wt := w }
    rw [← endsS_wt e w fs (endS s e f)]; rfl
theorem dropO_sub {n : Nat} {l : List (Nat × RL)} {f : Nat} (h : l.length ≤ n ∧ ∀ p ∈ l, p.2.length ≤ n) : (dropO l f).length ≤ n ∧ ∀ p ∈ dropO l f, p.2.length ≤ n :=
  ⟨Nat.le_trans (List.length_filter_le _ _) h.1, fun p hp => h.2 p (List.mem_filter.mp hp).1⟩
theorem OB.endS {n : Nat} {s : FS} {e f : Nat} (h : OB n s.of) (he : e < s.of.length) : OB n (endS s e f).of := by
  have q : s.of.getD e [] ∈ s.of := by
    rw [List.getD_eq_getElem?_getD, List.getElem?_eq_getElem he]
    exact List.getElem_mem he
  obtain ⟨a, b⟩ := dropO_sub (f := f) (h _ q)
  exact h.set0 a b
theorem OB.endsS {n e : Nat} : ∀ (fs : List Nat) {s : FS}, OB n s.of → e < s.of.length → OB n (endsS s e fs).of
  | [], s, h, _ => h
  | f :: fs, s, h, he => OB.endsS fs (s := My.endS s e f) (h.endS he) (by show e < (s.of.set e _).length; rw [List.length_set]; exact he)
theorem OB.le {n n' : Nat} {of : List (List (Nat × RL))} (h : OB n of) (l : n ≤ n') : OB n' of := fun x hx => ⟨by have := (h x hx).1; omega, fun p hp => by have := (h x hx).2 p hp; omega⟩
def tkV (s : FS) : Dd → List (List Nat)
  | .slot e _ _ _ => s.tk.set e (s.tk.getD e [] ++ (if s.wt.getD e 0 = 1 then newsOf s e else []))
  | _ => s.tk
def spDeedL : Sp := fun vs H Q _ => ∃ (a t : Addr) (m : Nat), vs = [.ref a, .int (m : Int)] ∧ 8 ≤ m ∧ m ≤ 64 ∧ Tape H a t ∧ ∀ (p : Addr) (d : Dd) (H' : Hp), d.ok m → H' p = some (.tup d.vals) → H p = none → Tape H' a t → Chg a H H' → Q (.ref p) H'
def spDoneL (C : Addr) : Sp := fun vs H Q _ => ∃ (x dd : Addr) (a : FA) (s : FS) (n : Nat) (d : Dd), vs = [.ref x, .ref dd] ∧ H dd = some (.tup d.vals) ∧ d.ok s.m ∧ Fr C (fun z => z ∈ a.own x) H x a s ∧ Good s ∧ OB n s.of ∧ n ≤ 900 ∧ (∀ e, (s.tk.getD e []).length ≤ 64 * n) ∧
  ∀ a' s2 V H', Fr C (fun z => z ∈ a.own x ∨ H z = none) H' x a' s2 → Nxt s (vw s2) d → s2.m = s.m → s2.sh = s.sh → OB (n + 1) s2.of → s2.tk = tkV s d → (∀ f, resV s d = .int f → f < s.m ∧ s2.wd.getD f [] = List.replicate 8 0) → RV H' V (resV s d) → (∀ p, V = .ref p → H p = none) → ChgP (fun z => z ∈ a.own x) H H' → Q V H'
section
variable {P : Program} {w : World} {K : PySem.W.Frag} {mg : Str → Option Value} {base : Heap} {C_Frames C_NotValid : Addr}
abbrev s_law_deed : Stmt := topS 28
abbrev ns_law_deed : List Str := ["tape", "many", "kind", "environment", "frame", "other", "word"]
theorem sc_law_deed : FnScope ns_law_deed ["tape", "many"] (defScope s_law_deed) := ⟨rfl, rfl, rfl, by decide +kernel, rfl, by decide +kernel, by decide +kernel⟩

theorem ok_law_deed {f : Addr} {fd : FuncData} (F : Fun K "_law_deed" "_law_deed" s_law_deed f fd) (T : Txt K mg C_Frames C_NotValid) (D_law_next : Dfn P w K mg base CX0 1 "_law_next" ["tape", "many"] spNext) : FnOk P w K mg base CX0 2 f fd ["tape", "many"] spDeedL := by
  refine F.ok sc_law_deed (fun vs H Q E h => ?_) (fun cdv A outer s H vs Q E hr h => ?_)
  · obtain ⟨a, t, m, rfl, _⟩ := h
    rfl
  · obtain ⟨a, t, m, rfl, m8, m64, T0, k⟩ := h
    refine ⟨_, (pss_cons (ps_set (i := 2) sc_law_deed.nd rfl (Or.inl rfl) (pe_dcall D_law_next (hr.mono (by decide)) (by rfl) pass0 (pa_cons (pv 0) (pa_cons pe_int pa_nil))))
  (pss_cons (ps_set (i := 3) sc_law_deed.nd rfl (Or.inl rfl) (pe_dcall D_law_next (hr.mono (by decide)) (by rfl) pass0 (pa_cons (pv 0) (pa_cons pe_int pa_nil))))
  (pss_cons (ps_set (i := 4) sc_law_deed.nd rfl (Or.inl rfl) (pe_dcall D_law_next (hr.mono (by decide)) (by rfl) pass0 (pa_cons (pv 0) (pa_cons (pv 1) pa_nil))))
  (pss_cons (ps_set (i := 5) sc_law_deed.nd rfl (Or.inl rfl) (pe_dcall D_law_next (hr.mono (by decide)) (by rfl) pass0 (pa_cons (pv 0) (pa_cons pe_int pa_nil))))
  (pss_cons (ps_if (pt_cmpR op_lt (pv 2) pe_int (nomark _)) (pss_one (ps_ret (pe_tup (pa_cons pe_str (pa_cons (pv 3) (pa_cons pe_int (pa_cons pe_int (pa_cons pe_int pa_nil)))))))) pss_nil)
  (pss_cons (ps_if (pt_cmpR op_lt (pv 2) pe_int (nomark _)) (pss_cons (ps_set (i := 6) sc_law_deed.nd rfl (Or.inl rfl) (pe_ix (kIxL K) (pe_lst (pa_cons pe_str (pa_cons pe_str (pa_cons pe_str (pa_cons pe_str (pa_cons pe_str (pa_cons pe_str (pa_cons pe_str pa_nil)))))))) (pe_op op_sub (pv 2) pe_int) (fun _ _ => rfl)))
  (pss_one (ps_ret (pe_tup (pa_cons (pv 6) (pa_cons (pv 3) (pa_cons (pv 4) (pa_cons (pv 5) (pa_cons (pe_ix (kIxL K) (pe_lst (pa_cons pe_str (pa_cons pe_str pa_nil))) (pe_dcall D_law_next (hr.mono (by decide)) (by rfl) pass0 (pa_cons (pv 0) (pa_cons pe_int pa_nil))) (fun _ _ => rfl)) pa_nil))))))))) pss_nil)
  (pss_one (ps_ret (pe_ifExp (pt_cmpR op_eq (pv 2) pe_int (nomark _)) (pe_tup (pa_cons pe_str (pa_cons (pv 3) (pa_cons pe_int (pa_cons pe_int (pa_cons (pe_op op_add pe_int (pe_dcall D_law_next (hr.mono (by decide)) (by rfl) pass0 (pa_cons (pv 0) (pa_cons pe_int pa_nil)))) pa_nil)))))) (pe_tup (pa_cons pe_str (pa_cons (pv 3) (pa_cons pe_int (pa_cons pe_int (pa_cons pe_int pa_nil))))))))))))))), ?_⟩
    walk_at "run"
    refine ⟨a, t, _, rfl, by decide, by decide, T0, fun kd H1 k0 k14 T1 c1 => ?_⟩
    walk_at "run"
    refine ⟨a, t, _, rfl, by decide, by decide, T1, fun e H2 e0 e4 T2 c2 => ?_⟩
    walk_at "run"
    refine ⟨a, t, _, rfl, by omega, by omega, T2, fun g H3 g0 gm T3 c3 => ?_⟩
    walk_at "run"
    refine ⟨a, t, _, rfl, by decide, by decide, T3, fun o H4 o0 o4 T4 c4 => ?_⟩
    obtain ⟨kd, rfl⟩ := Int.eq_ofNat_of_zero_le k0
    obtain ⟨e, rfl⟩ := Int.eq_ofNat_of_zero_le e0
    obtain ⟨g, rfl⟩ := Int.eq_ofNat_of_zero_le g0
    obtain ⟨o, rfl⟩ := Int.eq_ofNat_of_zero_le o0
    have c04 := ((c1.trans c2).trans c3).trans c4
    have back : ∀ {p : Addr} {Hx : Hp}, Chg a H4 Hx → Hx p = none → p ≠ a → H p = none := fun c h n => none_back c04 n (none_back c n h)
    walk_at "run"
    refine iteD (fun q => ?_) (fun q => ?_)
    · walk_at "run"
      refine ⟨szl rfl, fun p hp => ?_⟩
      exact k p (.take e) _ (show e < 4 by omega) upd_same (back (Chg.refl _ _) hp (T4.at hp)) (T4.same (Same.new hp)) (c04.trans (Same.chg (Same.new hp)))
    · walk_at "run"
      refine iteD (fun q2 => ?_) (fun q2 => ?_)
      · have k7 : kd = 5 ∨ kd = 6 ∨ kd = 7 ∨ kd = 8 ∨ kd = 9 ∨ kd = 10 ∨ kd = 11 := by omega
        walk_at "run"
        refine ⟨szl rfl, fun l1 hl1 => ?_⟩
        rcases k7 with rfl | rfl | rfl | rfl | rfl | rfl | rfl
        · walk_at "run"
          refine ⟨szl rfl, fun l2 hl2 => ?_⟩
          have s6 := (Same.new (o := .lst [.str "offer", .str "accept", .str "drop", .str "offer", .str "accept", .str "narrow", .str "slot"]) hl1).trans (Same.new (o := .lst [.str "r", .str "rw"]) hl2)
          walk_at "run"
          refine ⟨a, t, _, rfl, by decide, by decide, T4.same s6, fun z H6 z0 z2 T6 c6 => ?_⟩
          have l2a : l2 ≠ a := (T4.same (Same.new hl1)).at hl2
          have hl6 := c6 l2 _ l2a upd_same
          have c46 : Chg a H4 H6 := (Same.chg s6).trans c6
          have hz : z = 0 ∨ z = 1 := by omega
          rcases hz with rfl | rfl
          · walk_at "run"
            refine ⟨szl rfl, fun p hp => ?_⟩
            exact k p (.offer e g o false) _ (show e < 4 ∧ g < m ∧ o < 4 from ⟨by omega, by omega, by omega⟩) upd_same (back c46 hp (T6.at hp)) (T6.same (Same.new hp)) ((c04.trans c46).trans (Same.chg (Same.new hp)))
          · walk_at "run"
            refine ⟨szl rfl, fun p hp => ?_⟩
            exact k p (.offer e g o true) _ (show e < 4 ∧ g < m ∧ o < 4 from ⟨by omega, by omega, by omega⟩) upd_same (back c46 hp (T6.at hp)) (T6.same (Same.new hp)) ((c04.trans c46).trans (Same.chg (Same.new hp)))
        · walk_at "run"
          refine ⟨szl rfl, fun l2 hl2 => ?_⟩
          have s6 := (Same.new (o := .lst [.str "offer", .str "accept", .str "drop", .str "offer", .str "accept", .str "narrow", .str "slot"]) hl1).trans (Same.new (o := .lst [.str "r", .str "rw"]) hl2)
          walk_at "run"
          refine ⟨a, t, _, rfl, by decide, by decide, T4.same s6, fun z H6 z0 z2 T6 c6 => ?_⟩
          have l2a : l2 ≠ a := (T4.same (Same.new hl1)).at hl2
          have hl6 := c6 l2 _ l2a upd_same
          have c46 : Chg a H4 H6 := (Same.chg s6).trans c6
          have hz : z = 0 ∨ z = 1 := by omega
          rcases hz with rfl | rfl
          · walk_at "run"
            refine ⟨szl rfl, fun p hp => ?_⟩
            exact k p (.accept e g o false) _ (show e < 4 ∧ g < m ∧ o < 4 from ⟨by omega, by omega, by omega⟩) upd_same (back c46 hp (T6.at hp)) (T6.same (Same.new hp)) ((c04.trans c46).trans (Same.chg (Same.new hp)))
          · walk_at "run"
            refine ⟨szl rfl, fun p hp => ?_⟩
            exact k p (.accept e g o true) _ (show e < 4 ∧ g < m ∧ o < 4 from ⟨by omega, by omega, by omega⟩) upd_same (back c46 hp (T6.at hp)) (T6.same (Same.new hp)) ((c04.trans c46).trans (Same.chg (Same.new hp)))
        · walk_at "run"
          refine ⟨szl rfl, fun l2 hl2 => ?_⟩
          have s6 := (Same.new (o := .lst [.str "offer", .str "accept", .str "drop", .str "offer", .str "accept", .str "narrow", .str "slot"]) hl1).trans (Same.new (o := .lst [.str "r", .str "rw"]) hl2)
          walk_at "run"
          refine ⟨a, t, _, rfl, by decide, by decide, T4.same s6, fun z H6 z0 z2 T6 c6 => ?_⟩
          have l2a : l2 ≠ a := (T4.same (Same.new hl1)).at hl2
          have hl6 := c6 l2 _ l2a upd_same
          have c46 : Chg a H4 H6 := (Same.chg s6).trans c6
          have hz : z = 0 ∨ z = 1 := by omega
          rcases hz with rfl | rfl
          · walk_at "run"
            refine ⟨szl rfl, fun p hp => ?_⟩
            exact k p (.drop e g o false) _ (show e < 4 ∧ g < m ∧ o < 4 from ⟨by omega, by omega, by omega⟩) upd_same (back c46 hp (T6.at hp)) (T6.same (Same.new hp)) ((c04.trans c46).trans (Same.chg (Same.new hp)))
          · walk_at "run"
            refine ⟨szl rfl, fun p hp => ?_⟩
            exact k p (.drop e g o true) _ (show e < 4 ∧ g < m ∧ o < 4 from ⟨by omega, by omega, by omega⟩) upd_same (back c46 hp (T6.at hp)) (T6.same (Same.new hp)) ((c04.trans c46).trans (Same.chg (Same.new hp)))
        · walk_at "run"
          refine ⟨szl rfl, fun l2 hl2 => ?_⟩
          have s6 := (Same.new (o := .lst [.str "offer", .str "accept", .str "drop", .str "offer", .str "accept", .str "narrow", .str "slot"]) hl1).trans (Same.new (o := .lst [.str "r", .str "rw"]) hl2)
          walk_at "run"
          refine ⟨a, t, _, rfl, by decide, by decide, T4.same s6, fun z H6 z0 z2 T6 c6 => ?_⟩
          have l2a : l2 ≠ a := (T4.same (Same.new hl1)).at hl2
          have hl6 := c6 l2 _ l2a upd_same
          have c46 : Chg a H4 H6 := (Same.chg s6).trans c6
          have hz : z = 0 ∨ z = 1 := by omega
          rcases hz with rfl | rfl
          · walk_at "run"
            refine ⟨szl rfl, fun p hp => ?_⟩
            exact k p (.offer e g o false) _ (show e < 4 ∧ g < m ∧ o < 4 from ⟨by omega, by omega, by omega⟩) upd_same (back c46 hp (T6.at hp)) (T6.same (Same.new hp)) ((c04.trans c46).trans (Same.chg (Same.new hp)))
          · walk_at "run"
            refine ⟨szl rfl, fun p hp => ?_⟩
            exact k p (.offer e g o true) _ (show e < 4 ∧ g < m ∧ o < 4 from ⟨by omega, by omega, by omega⟩) upd_same (back c46 hp (T6.at hp)) (T6.same (Same.new hp)) ((c04.trans c46).trans (Same.chg (Same.new hp)))
        · walk_at "run"
          refine ⟨szl rfl, fun l2 hl2 => ?_⟩
          have s6 := (Same.new (o := .lst [.str "offer", .str "accept", .str "drop", .str "offer", .str "accept", .str "narrow", .str "slot"]) hl1).trans (Same.new (o := .lst [.str "r", .str "rw"]) hl2)
          walk_at "run"
          refine ⟨a, t, _, rfl, by decide, by decide, T4.same s6, fun z H6 z0 z2 T6 c6 => ?_⟩
          have l2a : l2 ≠ a := (T4.same (Same.new hl1)).at hl2
          have hl6 := c6 l2 _ l2a upd_same
          have c46 : Chg a H4 H6 := (Same.chg s6).trans c6
          have hz : z = 0 ∨ z = 1 := by omega
          rcases hz with rfl | rfl
          · walk_at "run"
            refine ⟨szl rfl, fun p hp => ?_⟩
            exact k p (.accept e g o false) _ (show e < 4 ∧ g < m ∧ o < 4 from ⟨by omega, by omega, by omega⟩) upd_same (back c46 hp (T6.at hp)) (T6.same (Same.new hp)) ((c04.trans c46).trans (Same.chg (Same.new hp)))
          · walk_at "run"
            refine ⟨szl rfl, fun p hp => ?_⟩
            exact k p (.accept e g o true) _ (show e < 4 ∧ g < m ∧ o < 4 from ⟨by omega, by omega, by omega⟩) upd_same (back c46 hp (T6.at hp)) (T6.same (Same.new hp)) ((c04.trans c46).trans (Same.chg (Same.new hp)))
        · walk_at "run"
          refine ⟨szl rfl, fun l2 hl2 => ?_⟩
          have s6 := (Same.new (o := .lst [.str "offer", .str "accept", .str "drop", .str "offer", .str "accept", .str "narrow", .str "slot"]) hl1).trans (Same.new (o := .lst [.str "r", .str "rw"]) hl2)
          walk_at "run"
          refine ⟨a, t, _, rfl, by decide, by decide, T4.same s6, fun z H6 z0 z2 T6 c6 => ?_⟩
          have l2a : l2 ≠ a := (T4.same (Same.new hl1)).at hl2
          have hl6 := c6 l2 _ l2a upd_same
          have c46 : Chg a H4 H6 := (Same.chg s6).trans c6
          have hz : z = 0 ∨ z = 1 := by omega
          rcases hz with rfl | rfl
          · walk_at "run"
            refine ⟨szl rfl, fun p hp => ?_⟩
            exact k p (.narrow e g o false) _ (show e < 4 ∧ g < m ∧ o < 4 from ⟨by omega, by omega, by omega⟩) upd_same (back c46 hp (T6.at hp)) (T6.same (Same.new hp)) ((c04.trans c46).trans (Same.chg (Same.new hp)))
          · walk_at "run"
            refine ⟨szl rfl, fun p hp => ?_⟩
            exact k p (.narrow e g o true) _ (show e < 4 ∧ g < m ∧ o < 4 from ⟨by omega, by omega, by omega⟩) upd_same (back c46 hp (T6.at hp)) (T6.same (Same.new hp)) ((c04.trans c46).trans (Same.chg (Same.new hp)))
        · walk_at "run"
          refine ⟨szl rfl, fun l2 hl2 => ?_⟩
          have s6 := (Same.new (o := .lst [.str "offer", .str "accept", .str "drop", .str "offer", .str "accept", .str "narrow", .str "slot"]) hl1).trans (Same.new (o := .lst [.str "r", .str "rw"]) hl2)
          walk_at "run"
          refine ⟨a, t, _, rfl, by decide, by decide, T4.same s6, fun z H6 z0 z2 T6 c6 => ?_⟩
          have l2a : l2 ≠ a := (T4.same (Same.new hl1)).at hl2
          have hl6 := c6 l2 _ l2a upd_same
          have c46 : Chg a H4 H6 := (Same.chg s6).trans c6
          have hz : z = 0 ∨ z = 1 := by omega
          rcases hz with rfl | rfl
          · walk_at "run"
            refine ⟨szl rfl, fun p hp => ?_⟩
            exact k p (.slot e g o (.str "r")) _ (show e < 4 ∧ flatV _ = true from ⟨by omega, rfl⟩) upd_same (back c46 hp (T6.at hp)) (T6.same (Same.new hp)) ((c04.trans c46).trans (Same.chg (Same.new hp)))
          · walk_at "run"
            refine ⟨szl rfl, fun p hp => ?_⟩
            exact k p (.slot e g o (.str "rw")) _ (show e < 4 ∧ flatV _ = true from ⟨by omega, rfl⟩) upd_same (back c46 hp (T6.at hp)) (T6.same (Same.new hp)) ((c04.trans c46).trans (Same.chg (Same.new hp)))
      · walk_at "run"
        refine iteD (fun q3 => ?_) (fun q3 => ?_)
        · walk_at "run"
          refine ⟨a, t, _, rfl, by decide, by decide, T4, fun z H6 z0 z5 T6 c6 => ?_⟩
          obtain ⟨z, rfl⟩ := Int.eq_ofNat_of_zero_le z0
          walk_at "run"
          refine ⟨szl rfl, fun p hp => ?_⟩
          have ez : (1 : Int) + (z : Int) = ((1 + z : Nat) : Int) := by omega
          exact k p (.ask e (1 + z)) _ (show e < 4 ∧ 1 ≤ 1 + z ∧ 1 + z ≤ 5 from ⟨by omega, by omega, by omega⟩) (by
            show _ = some (HO.tup [.str "ask", .int (e : Int), .int 0, .int 0, .int ((1 + z : Nat) : Int)])
            rw [← ez]; exact upd_same) (back c6 hp (T6.at hp)) (T6.same (Same.new hp)) ((c04.trans c6).trans (Same.chg (Same.new hp)))
        · walk_at "run"
          refine ⟨szl rfl, fun p hp => ?_⟩
          exact k p (.slot e 0 0 (.int 0)) _ (show e < 4 ∧ flatV _ = true from ⟨by omega, rfl⟩) upd_same (back (Chg.refl _ _) hp (T4.at hp)) (T4.same (Same.new hp)) (c04.trans (Same.chg (Same.new hp)))
end
end My

namespace My
open PySem L2
local macro_rules | `(tactic| walk_at "ne") => `(tactic| first | assumption | exact Ne.symm (by assumption) | exact ne_of_none (by assumption) (by assumption) | exact Ne.symm (ne_of_none (by assumption) (by assumption)))
local macro_rules | `(tactic| walk_at "hp") => `(tactic| first | assumption | with_reducible exact upd_same | (with_reducible refine Eq.trans (upd_ne ?_) ?_; rotate_left; walk_at "hp"; walk_at "ne"))
local macro_rules | `(tactic| walk_at "cnd") => `(tactic| first | omega | (show (0 : Int) < _; omega) | exact ⟨by omega, by omega⟩ | exact Or.inl ⟨by omega, by omega⟩ | exact Or.inr ⟨by omega, by omega⟩ | exact ⟨by omega, by omega, by decide⟩ | exact ⟨by omega, by omega, by omega⟩)
local macro_rules | `(tactic| walk_at "at") => `(tactic| first | exact atC 0 rfl rfl | exact atC 1 rfl rfl | exact atC 2 rfl rfl | exact atC 3 rfl rfl | exact atC 4 rfl rfl | exact atC 5 rfl rfl | exact atC 6 rfl rfl | exact atC 7 rfl rfl)
local macro_rules | `(tactic| walk_at "ix") => `(tactic| first | exact ixC 0 rfl (Nat.le_of_ble_eq_true rfl) | exact ixC 1 rfl (Nat.le_of_ble_eq_true rfl) | exact ixC 2 rfl (Nat.le_of_ble_eq_true rfl) | exact ixC 3 rfl (Nat.le_of_ble_eq_true rfl) | exact ixC 4 rfl (Nat.le_of_ble_eq_true rfl) | exact ixC 5 rfl (Nat.le_of_ble_eq_true rfl))
local macro_rules | `(tactic| walk_at "st") => `(tactic| first
  | refine ⟨_, rfl, ?_⟩
  | refine ⟨_, _, rfl, rfl, (by walk_at "cnd" : (_ : Prop)), ?_⟩
  | refine ⟨_, _, rfl, rfl, ?_⟩
  | refine ⟨rfl, ?_⟩
  | refine Or.inl ⟨_, rfl, ?_⟩
  | refine ⟨_, _, _, _, rfl, rfl, by exact SqL.of (by walk_at "hp"), by walk_at "at", ?_⟩
  | refine ⟨_, _, _, _, rfl, rfl, by exact SqT.of (by walk_at "hp"), by walk_at "at", ?_⟩
  | refine ⟨_, _, _, _, rfl, rfl, by walk_at "hp", by walk_at "ix", ?_⟩
  | refine ⟨_, _, rfl, Or.inl (by exact SqL.of (by walk_at "hp")), ?_⟩
  | refine ⟨_, _, rfl, Or.inr (by exact SqT.of (by walk_at "hp")), ?_⟩)
local macro_rules | `(tactic| walk_at "so") => `(tactic| first
  | refine ⟨_, _, _, _, _, rfl, by walk_at "hp", by assumption, by assumption, rfl, ?_⟩
  | refine ⟨_, _, _, _, rfl, by walk_at "hp", by assumption, by assumption, Nat.le_of_ble_eq_true rfl, ?_⟩
  | refine ⟨_, _, _, rfl, by walk_at "hp", rfl, ?_⟩
  | walk_at "st")
local macro_rules | `(tactic| walk_at "ro") => `(tactic| repeat walk_at "so")
local macro_rules | `(tactic| walk_at "run") => `(tactic| repeat walk_at "st")

section
variable {P : Program} {w : World} {K : PySem.W.Frag} {mg : Str → Option Value} {base : Heap} {C_Frames C_NotValid : Addr}
abbrev s_law_done : Stmt := topS 29
abbrev ns_law_done : List Str := ["frames", "deed", "word", "environment", "frame", "other", "right"]
theorem sc_law_done : FnScope ns_law_done ["frames", "deed"] (defScope s_law_done) := ⟨rfl, rfl, rfl, by decide +kernel, rfl, by decide +kernel, by decide +kernel⟩

theorem ok_law_done {f : Addr} {fd : FuncData} (F : Fun K "_law_done" "_law_done" s_law_done f fd) (T : Txt K mg C_Frames C_NotValid) (D_Frames_take : Mth P w K mg base CX0 9 C_Frames "take" ["self", "environment"] (spTake C_Frames)) (D_Frames_offer : Mth P w K mg base CX0 6 C_Frames "offer" ["self", "environment", "frame", "other", "right"] (spOffer C_Frames)) (D_Frames_accept : Mth P w K mg base CX0 9 C_Frames "accept" ["self", "environment", "frame", "owner"] (spAccept C_Frames)) (D_Frames_drop : Mth P w K mg base CX0 6 C_Frames "drop" ["self", "environment", "frame"] (spDrop C_Frames)) (D_Frames_narrow : Mth P w K mg base CX0 6 C_Frames "narrow" ["self", "environment", "frame"] (spNarrow C_Frames)) (D_Frames_ask_back : Mth P w K mg base (L2.CX P w) 5 C_Frames "ask_back" ["self", "environment", "many"] (spAsk C_Frames)) (D_Frames_slot_ended : Mth P w K mg base (L2.CX P w) 8 C_Frames "slot_ended" ["self", "environment"] (spSlot C_Frames)) : FnOk P w K mg base CX0 10 f fd ["frames", "deed"] (spDoneL C_Frames) := by
  have ho_Frames := T.o_Frames; have hn_Frames__words := T.n_Frames__words; have hn_Frames__shares := T.n_Frames__shares; have hn_Frames__rights := T.n_Frames__rights; have hn_Frames__offers := T.n_Frames__offers; have hn_Frames__asked := T.n_Frames__asked; have hn_Frames__ends_to_wait := T.n_Frames__ends_to_wait; have hn_Frames__taken := T.n_Frames__taken
  refine F.ok sc_law_done (fun vs H Q E h => ?_) (fun cdv A outer s H vs Q E hr h => ?_)
  · obtain ⟨x, dd, a, s, n, d, rfl, _⟩ := h
    rfl
  · obtain ⟨x, dd, a, s', n, d, rfl, hd, dok, fr, g, ob, nz, tz, k⟩ := h
    refine ⟨_, (C8.pss_cut (ps_asg (pv 1) (kpgT K (n := 5) (by rfl) (pgs_cons (pg_name (i := 2) sc_law_done.nd rfl (Or.inl rfl)) (pgs_cons (pg_name (i := 3) sc_law_done.nd rfl (Or.inl rfl)) (pgs_cons (pg_name (i := 4) sc_law_done.nd rfl (Or.inl rfl)) (pgs_cons (pg_name (i := 5) sc_law_done.nd rfl (Or.inl rfl)) (pgs_cons (pg_name (i := 6) sc_law_done.nd rfl (Or.inl rfl)) pgs_nil)))))))
  (pss_cons (ps_if (pt_cmpR op_eq (pv 2) pe_str (nomark _)) (pss_one (ps_ret (pe_dmeth (pv 0) D_Frames_take (hr.mono (by decide)) pass0 (pa_cons (pv 3) pa_nil)))) pss_nil)
  (pss_cons (ps_if (pt_cmpR op_eq (pv 2) pe_str (nomark _)) (pss_one (ps_ret (pe_dmeth (pv 0) D_Frames_offer (hr.mono (by decide)) pass0 (pa_cons (pv 3) (pa_cons (pv 4) (pa_cons (pv 5) (pa_cons (pv 6) pa_nil))))))) pss_nil)
  (pss_cons (ps_if (pt_cmpR op_eq (pv 2) pe_str (nomark _)) (pss_one (ps_ret (pe_dmeth (pv 0) D_Frames_accept (hr.mono (by decide)) pass0 (pa_cons (pv 3) (pa_cons (pv 4) (pa_cons (pv 5) pa_nil)))))) pss_nil)
  (pss_cons (ps_if (pt_cmpR op_eq (pv 2) pe_str (nomark _)) (pss_one (ps_ret (pe_dmeth (pv 0) D_Frames_drop (hr.mono (by decide)) pass0 (pa_cons (pv 3) (pa_cons (pv 4) pa_nil))))) pss_nil)
  (pss_cons (ps_if (pt_cmpR op_eq (pv 2) pe_str (nomark _)) (pss_one (ps_ret (pe_dmeth (pv 0) D_Frames_narrow (hr.mono (by decide)) pass0 (pa_cons (pv 3) (pa_cons (pv 4) pa_nil))))) pss_nil)
  (pss_one (ps_ret (pe_ifExp (pt_cmpR op_eq (pv 2) pe_str (nomark _)) (pe_dmeth (pv 0) D_Frames_ask_back (hr.mono (by decide)) passL (pa_cons (pv 3) (pa_cons (pv 6) pa_nil))) (pe_dmeth (pv 0) D_Frames_slot_ended (hr.mono (by decide)) passL (pa_cons (pv 3) pa_nil))))))))))), ?_⟩
    have h1 := fr.ins
    have ok := fr.ok
    have m64 := ok.m64
    have gl := g.len
    have own : ∀ z ∈ a.own x, z ∈ a.own x ∨ H z = none := fun z h => .inl h
    obtain ⟨vw_, ve, vf, vo, vr, hv⟩ : ∃ w e0 f0 o0 v0, d.vals = [w, e0, f0, o0, v0] := by cases d <;> exact ⟨_, _, _, _, _, rfl⟩
    rw [hv] at hd
    walk_at "ro"
    refine ⟨fun σ Hx => Hide (σ = [some (.ref x), some (.ref dd), some vw_, some ve, some vf, some vo, some vr] ∧ H = Hx), ?_, ?_⟩
    · walk_at "ro"
      refine ⟨_, _, rfl, SqT.of hd, rfl, _, _, rfl, _, _, rfl, _, _, rfl, _, _, rfl, _, _, rfl, rfl, ?_⟩
      exact hide ⟨rfl, rfl⟩
    rintro σ Hx hh
    obtain ⟨rfl, rfl⟩ := hh.out
    clear hh hd
    cases d with
    | take e =>
      cases (show ([.str "take", .int (e : Int), .int 0, .int 0, .int 0] : List V) = [vw_, ve, vf, vo, vr] from hv)
      walk_at "ro"
      have e4 : e < 4 := dok
      refine ⟨_, x, a, s', e, rfl, fr, e4, by have := gl e; omega, g.free ok.rt4 e4, fun em H' sm => ?_, fun em f' hf a' H' fr' c' => ?_⟩
      · have res : resV s' (.take e) = .non := by
          show (if moreOf s' (eD e) = true then _ else _) = _
          rw [em, if_neg (by decide)]
        refine k a s' _ H' ((fr.same sm).mono own) (.inl ⟨em, rfl⟩) rfl rfl (ob.le (by omega)) rfl (fun f' h => by rw [res] at h; cases h) (by rw [res]; rfl) (fun p z => by cases z) (ChgP.same sm)
      · have fm := free_get (s := s') (n := s'.m) (f := f') (List.mem_of_mem_head? hf)
        have res : resV s' (.take e) = .int f' := by
          show (if moreOf s' (eD e) = true then _ else _) = _
          rw [em, if_pos rfl, hf]
        refine k a' (takeS s' e f') _ H' fr' (.inr ⟨em, f', hf, rfl⟩) rfl rfl (ob.le (by omega)) rfl (fun f2 h => ?_) (by rw [res]; rfl) (fun p z => by cases z) c'
        rw [res] at h
        cases h
        refine ⟨fm.1, ?_⟩
        show (s'.wd.set f' (List.replicate 8 0)).getD f' [] = _
        rw [getD_set (by rw [ok.wdm]; exact fm.1), if_pos rfl]
    | offer e g' o b' =>
      cases (show ([.str "offer", .int (e : Int), .int (g' : Int), .int (o : Int), rV b'] : List V) = [vw_, ve, vf, vo, vr] from hv)
      walk_at "ro"
      obtain ⟨e4, gm, oo4⟩ := dok
      refine ⟨_, x, a, s', e, g', o, n, b', rfl, fr, e4, gm, oo4, by omega, ob, fun q => ?_, fun q1 q2 a' of' H' fr' ho ob' c' => ?_⟩
      · refine k a s' _ H (fr.mono own) (.inl ⟨q, rfl⟩) rfl rfl (ob.le (by omega)) rfl (fun f' h => by cases h) ?_ (fun p z => by cases z) (fun _ _ _ h => h)
        show RV _ _ (.bl (decide (o ≠ e) && _))
        rcases q with q | q
        · rw [decide_eq_false (fun z => z q)]; rfl
        · rw [q, Bool.and_false]; rfl
      · have eo : offN of' = offSet (offN s'.of) e g' o (some b') := by
          funext e' f' o'
          rw [ho]; rfl
        refine k a' { s' with of := of' } _ H' fr' (.inr ⟨q1, q2, by show (⟨_, offN of', _, _⟩ : BV) = _; rw [eo]; rfl⟩) rfl rfl ob' rfl (fun f' h => by cases h) ?_ (fun p z => by cases z) c'
        show RV _ _ (.bl (decide (o ≠ e) && _))
        rw [q2, decide_eq_true q1]; rfl
    | accept e g' o b' =>
      cases (show ([.str "accept", .int (e : Int), .int (g' : Int), .int (o : Int), rV b'] : List V) = [vw_, ve, vf, vo, vr] from hv)
      walk_at "ro"
      obtain ⟨e4, gm, oo4⟩ := dok
      refine ⟨_, x, a, s', e, g', o, rfl, fr, e4, gm, oo4, by have := gl e; omega, fun q H' sm => ?_, fun c q1 q2 q3 q4 of' H' fr' ho ob' c' => ?_⟩
      · have no : ¬ ∃ c, canAcc s' e g' o c := fun ⟨c, y1, y2, y3, y4⟩ => by
          rw [y1] at q
          rcases q with q | q | q
          · rw [y2] at q; cases q
          · exact q y3
          · rw [y4] at q; cases q
        refine k a s' _ H' ((fr.same sm).mono own) (.inl ⟨no, rfl⟩) rfl rfl (ob.le (by omega)) rfl (fun f' h => by cases h) ?_ (fun p z => by cases z) (ChgP.same sm)
        show RV _ _ (.bl (accB s' e g' o))
        cases y : accB s' e g' o with
        | true => exact absurd (accB_iff.mp y) no
        | false => rfl
      · have eo : offN of' = offSet (offN s'.of) o g' e none := by
          funext e' f' o'
          rw [ho]; rfl
        refine k a { s' with of := of', rt := s'.rt.set e (s'.rt.getD e [] ++ [(g', c)]) } _ H' (fr'.mono own) (.inr ⟨c, ⟨q1, q2, q3, q4⟩, by show (⟨_, offN of', _, _⟩ : BV) = _; rw [eo]; rfl⟩) rfl rfl ((ob' n ob).le (by omega)) rfl (fun f' h => by cases h) ?_ (fun p z => by cases z) c'
        show RV _ _ (.bl (accB s' e g' o))
        rw [accB_iff.mpr ⟨c, q1, q2, q3, q4⟩]; rfl
    | drop e g' o b' =>
      cases (show ([.str "drop", .int (e : Int), .int (g' : Int), .int (o : Int), rV b'] : List V) = [vw_, ve, vf, vo, vr] from hv)
      walk_at "ro"
      obtain ⟨e4, gm, oo4⟩ := dok
      refine ⟨_, x, a, s', e, g', rfl, fr, e4, gm, fun q => ?_, fun q a' H' fr' c' => ?_⟩
      · refine k a s' _ H (fr.mono own) (.inl ⟨q, rfl⟩) rfl rfl (ob.le (by omega)) rfl (fun f' h => by cases h) ?_ (fun p z => by cases z) (fun _ _ _ h => h)
        show RV _ _ (.bl (getR (s'.rt.getD e []) g').isSome)
        rw [q]; rfl
      · have el : e < s'.of.length := by rw [ok.of4]; exact e4
        refine k a' (endS s' e g') _ H' (fr'.mono fun z hz => .inl (fr'.mine z hz)) (.inr ⟨q, by show (⟨_, offN (endS s' e g').of, _, _⟩ : BV) = _; rw [off_endS el]; rfl⟩) rfl rfl ((ob.endS el).le (by omega)) rfl (fun f' h => by cases h) ?_ (fun p z => by cases z) c'
        show RV _ _ (.bl (getR (s'.rt.getD e []) g').isSome)
        cases y : getR (s'.rt.getD e []) g' with
        | none => exact absurd y q
        | some c => rfl
    | narrow e g' o b' =>
      cases (show ([.str "narrow", .int (e : Int), .int (g' : Int), .int (o : Int), rV b'] : List V) = [vw_, ve, vf, vo, vr] from hv)
      walk_at "ro"
      obtain ⟨e4, gm, oo4⟩ := dok
      refine ⟨_, x, a, s', e, g', rfl, fr, e4, gm, fun j hj => ?_, fun q => ?_, fun q H' fr' c' => ?_⟩
      · have := gl j
        rw [List.getD_eq_getElem?_getD, List.getElem?_eq_getElem hj] at this
        have : s'.rt[j].length ≤ s'.m := this
        omega
      · refine k a s' _ H (fr.mono own) (.inl ⟨q, rfl⟩) rfl rfl (ob.le (by omega)) rfl (fun f' h => by cases h) ?_ (fun p z => by cases z) (fun _ _ _ h => h)
        show RV _ _ (.bl (decide (getR (s'.rt.getD e []) g' = some true)))
        rw [decide_eq_false q]; rfl
      · refine k a (thinS s' e g') _ H' (fr'.mono own) (.inr ⟨q, rfl⟩) rfl rfl (ob.le (by omega)) rfl (fun f' h => by cases h) ?_ (fun p z => by cases z) c'
        show RV _ _ (.bl (decide (getR (s'.rt.getD e []) g' = some true)))
        rw [decide_eq_true q]; rfl
    | ask e m' =>
      cases (show ([.str "ask", .int (e : Int), .int 0, .int 0, .int (m' : Int)] : List V) = [vw_, ve, vf, vo, vr] from hv)
      walk_at "ro"
      obtain ⟨e4, m1, m5⟩ := dok
      refine ⟨_, x, a, s', e, m', rfl, fr, e4, m1, fun H' fr' c' => ?_⟩
      exact k a (askS s' e m') _ H' (fr'.mono own) rfl rfl rfl (ob.le (by omega)) rfl (fun f' h => by cases h) rfl (fun p z => by cases z) c'
    | slot e g' o v =>
      cases (show ([.str "slot", .int (e : Int), .int (g' : Int), .int (o : Int), v] : List V) = [vw_, ve, vf, vo, vr] from hv)
      walk_at "ro"
      obtain ⟨e4, fv⟩ := dok
      have t4 : e < s'.tk.length := by rw [ok.tk4]; exact e4
      have ty := tz e
      refine ⟨_, x, a, s', e, rfl, fr, e4, g.nd e, by have := gl e; omega, by omega, fun q p H' hp np sm => ?_, fun q p H' fr' hp np c' => ?_, fun q a' p H' fr' hp np c' => ?_⟩
      · have res : resV s' (.slot e g' o vr) = .lst [] := by
          show Res.lst (if s'.wt.getD e 0 = 1 then _ else _) = _
          rw [if_neg (by omega)]
        have tk : tkV s' (.slot e g' o vr) = s'.tk := by
          show s'.tk.set e (_ ++ (if s'.wt.getD e 0 = 1 then _ else _)) = _
          rw [if_neg (by omega), List.append_nil, set_getD t4]
        exact k a s' _ H' ((fr.same sm).mono own) (.inl ⟨q, rfl⟩) rfl rfl (ob.le (by omega)) tk.symm (fun f' h => by cases h) (by rw [res]; exact ⟨p, rfl, np⟩) (fun p' z => by cases z; exact hp) (ChgP.same sm)
      · have res : resV s' (.slot e g' o vr) = .lst [] := by
          show Res.lst (if s'.wt.getD e 0 = 1 then _ else _) = _
          rw [if_neg (by omega)]
        have tk : tkV s' (.slot e g' o vr) = s'.tk := by
          show s'.tk.set e (_ ++ (if s'.wt.getD e 0 = 1 then _ else _)) = _
          rw [if_neg (by omega), List.append_nil, set_getD t4]
        exact k a (waitS s' e) _ H' (fr'.mono own) (.inr (.inl ⟨q, rfl⟩)) rfl rfl (ob.le (by omega)) tk.symm (fun f' h => by cases h) (by rw [res]; exact ⟨p, rfl, np⟩) (fun p' z => by cases z; exact hp) c'
      · have res : resV s' (.slot e g' o vr) = .lst (newsOf s' e) := by
          show Res.lst (if s'.wt.getD e 0 = 1 then _ else _) = _
          rw [if_pos q]
        have ew : endsS (waitS s' e) e (newsOf s' e) = { endsS s' e (newsOf s' e) with wt := s'.wt.set e (s'.wt.getD e 0 - 1) } := endsS_wt e _ _ s'
        have same := endsS_same e (newsOf s' e) s'
        have el : e < s'.of.length := by rw [ok.of4]; exact e4
        have eb : backS (waitS s' e) e = { endsS (waitS s' e) e (newsOf s' e) with ask := s'.ask.set e 0, tk := s'.tk.set e (s'.tk.getD e [] ++ newsOf s' e) } := rfl
        rw [ew] at eb
        have tk : tkV s' (.slot e g' o vr) = s'.tk.set e (s'.tk.getD e [] ++ newsOf s' e) := by
          show s'.tk.set e (_ ++ (if s'.wt.getD e 0 = 1 then _ else _)) = _
          rw [if_pos q]
        rw [eb] at fr'
        refine k a' _ _ H' (fr'.mono fun z hz => .inl (fr'.mine z hz)) (.inr (.inr ⟨q, rfl⟩)) same.1 same.2.1 ((OB.endsS _ ob el).le (by omega)) tk.symm (fun f' h => by cases h) (by rw [res]; exact ⟨p, rfl, np⟩) (fun p' z => by cases z; exact hp) c'
end
end My

namespace My
open PySem L2
local macro_rules | `(tactic| walk_at "ne") => `(tactic| first | assumption | exact Ne.symm (by assumption) | exact ne_of_none (by assumption) (by assumption) | exact Ne.symm (ne_of_none (by assumption) (by assumption)))
local macro_rules | `(tactic| walk_at "hp") => `(tactic| first | assumption | with_reducible exact upd_same | (with_reducible refine Eq.trans (upd_ne ?_) ?_; rotate_left; walk_at "hp"; walk_at "ne"))
local macro_rules | `(tactic| walk_at "cnd") => `(tactic| first | omega | (show (0 : Int) < _; omega) | exact ⟨by omega, by omega⟩ | exact Or.inl ⟨by omega, by omega⟩ | exact Or.inr ⟨by omega, by omega⟩ | exact ⟨by omega, by omega, by decide⟩ | exact ⟨by omega, by omega, by omega⟩)
local macro_rules | `(tactic| walk_at "at") => `(tactic| first | exact atC 0 rfl rfl | exact atC 1 rfl rfl | exact atC 2 rfl rfl | exact atC 3 rfl rfl | exact atC 4 rfl rfl | exact atC 5 rfl rfl | exact atC 6 rfl rfl | exact atC 7 rfl rfl)
local macro_rules | `(tactic| walk_at "ix") => `(tactic| first | exact ixC 0 rfl (Nat.le_of_ble_eq_true rfl) | exact ixC 1 rfl (Nat.le_of_ble_eq_true rfl) | exact ixC 2 rfl (Nat.le_of_ble_eq_true rfl) | exact ixC 3 rfl (Nat.le_of_ble_eq_true rfl) | exact ixC 4 rfl (Nat.le_of_ble_eq_true rfl) | exact ixC 5 rfl (Nat.le_of_ble_eq_true rfl))
local macro_rules | `(tactic| walk_at "st") => `(tactic| first
  | refine ⟨_, rfl, ?_⟩
  | refine ⟨_, _, rfl, rfl, (by walk_at "cnd" : (_ : Prop)), ?_⟩
  | refine ⟨_, _, rfl, rfl, ?_⟩
  | refine ⟨rfl, ?_⟩
  | refine Or.inl ⟨_, rfl, ?_⟩
  | refine ⟨_, _, _, _, rfl, rfl, by exact SqL.of (by walk_at "hp"), by walk_at "at", ?_⟩
  | refine ⟨_, _, _, _, rfl, rfl, by exact SqT.of (by walk_at "hp"), by walk_at "at", ?_⟩
  | refine ⟨_, _, _, _, rfl, rfl, by walk_at "hp", by walk_at "ix", ?_⟩
  | refine ⟨_, _, rfl, Or.inl (by exact SqL.of (by walk_at "hp")), ?_⟩
  | refine ⟨_, _, rfl, Or.inr (by exact SqT.of (by walk_at "hp")), ?_⟩)
local macro_rules | `(tactic| walk_at "so") => `(tactic| first
  | refine ⟨_, _, _, _, _, rfl, by walk_at "hp", by assumption, by assumption, rfl, ?_⟩
  | refine ⟨_, _, _, _, rfl, by walk_at "hp", by assumption, by assumption, Nat.le_of_ble_eq_true rfl, ?_⟩
  | refine ⟨_, _, _, rfl, by walk_at "hp", rfl, ?_⟩
  | walk_at "st")
local macro_rules | `(tactic| walk_at "ro") => `(tactic| repeat walk_at "so")
local macro_rules | `(tactic| walk_at "run") => `(tactic| repeat walk_at "st")

theorem dt_nats (H : Hp) : ∀ ns : List Nat, DtAll H (ns.map vN) (ns.map fun n : Nat => PyData.int (n : Int))
  | [] => .nil
  | n :: ns => .cons (.int _) (dt_nats H ns)
theorem sh_nats (ns : List Nat) : Sh 1 (.list (ns.map fun n : Nat => PyData.int (n : Int))) := Sh.lst fun d hd => by
  obtain ⟨n, _, rfl⟩ := List.mem_map.mp hd
  exact Sh.int _ _
theorem ne_nats {K : PySem.W.Frag} {H : Hp} {p q : Addr} {ns : List Nat} {Q : VK} (hp : NsL H p ns) (hq : NsL H q ns) (k : Q (.bl false) H) : rNeD K (.ref p) (.ref q) H Q := by
  refine ⟨.list (ns.map fun n : Nat => PyData.int (n : Int)), .list (ns.map fun n : Nat => PyData.int (n : Int)), (Dt.lst hp (dt_nats H ns)).dp, (Dt.lst hq (dt_nats H ns)).dp, (sh_nats ns).ok, (sh_nats ns).ok, ?_⟩
  rw [PySem.SeqAt.eqv_refl _ (sh_nats ns).1]
  exact k
def spShownL (C : Addr) : Sp := fun vs H Q _ => ∃ (P : Addr → Prop) (x sp lp : Addr) (a : FA) (b : BA) (s : FS) (n : Nat) (ls : List Addr), vs = [.ref x, .ref b.bk, .ref sp, .int (s.m : Int), .ref lp] ∧ Fr C P H x a s ∧ Good s ∧ Bh H b s.rt (offN s.of) n ∧ Bw H b s.ask s.wt n ∧ NsL H sp s.sh ∧ H lp = some (.lst (ls.map V.ref)) ∧ Each NsL H ls s.tk ∧ ∀ H', Same H H' → Q (.bl true) H'
section
variable {P : Program} {w : World} {K : PySem.W.Frag} {mg : Str → Option Value} {base : Heap} {C_Frames C_NotValid : Addr}
abbrev s_law_shown : Stmt := topS 30
abbrev ns_law_shown : List Str := ["frames", "book", "shares", "many", "lost", "held", "rights", "offers", "wanted", "left", "row", "one", "frame"]
theorem sc_law_shown : FnScope ns_law_shown ["frames", "book", "shares", "many", "lost"] (defScope s_law_shown) := ⟨rfl, rfl, rfl, by decide +kernel, rfl, by decide +kernel, by decide +kernel⟩

theorem ok_law_shown {f : Addr} {fd : FuncData} (F : Fun K "_law_shown" "_law_shown" s_law_shown f fd) (T : Txt K mg C_Frames C_NotValid) (D_Frames_left : Mth P w K mg base CX0 1 C_Frames "left" ["self"] (spLeft C_Frames)) (D_Frames_holdings : Mth P w K mg base CX0 5 C_Frames "holdings" ["self", "environment"] (spHold C_Frames)) (D_Frames_charge : Mth P w K mg base CX0 6 C_Frames "charge" ["self", "environment"] (spNat1 C_Frames chargeOf)) (D_Frames_taken : Mth P w K mg base CX0 5 C_Frames "taken" ["self", "environment"] (spTaken C_Frames)) (D_Frames_asked : Mth P w K mg base CX0 5 C_Frames "asked" ["self", "environment"] (spNat1 C_Frames askOf)) (D_Frames_share : Mth P w K mg base CX0 5 C_Frames "share" ["self", "environment"] (spNat1 C_Frames shareOf)) (D_Frames_right : Mth P w K mg base CX0 5 C_Frames "right" ["self", "environment", "frame"] (spRight C_Frames)) : FnOk P w K mg base CX0 7 f fd ["frames", "book", "shares", "many", "lost"] (spShownL C_Frames) := by
  have ho_Frames := T.o_Frames; have hn_Frames__words := T.n_Frames__words; have hn_Frames__shares := T.n_Frames__shares; have hn_Frames__rights := T.n_Frames__rights; have hn_Frames__offers := T.n_Frames__offers; have hn_Frames__asked := T.n_Frames__asked; have hn_Frames__ends_to_wait := T.n_Frames__ends_to_wait; have hn_Frames__taken := T.n_Frames__taken
  refine F.ok sc_law_shown (fun vs H Q E h => ?_) (fun cdv A outer s H vs Q E hr h => ?_)
  · obtain ⟨P', x, sp, lp, a, b, s, n, ls, rfl, _⟩ := h
    rfl
  · obtain ⟨P', x, sp, lp, a, b, s', n, ls, rfl, fr, g, B, W, hsp, hlp, hls, k⟩ := h
    refine ⟨_, (C8.pss_cut (ps_asg (pv 1) (kpgT K (n := 4) (by rfl) (pgs_cons (pg_name (i := 5) sc_law_shown.nd rfl (Or.inr rfl)) (pgs_cons (pg_name (i := 6) sc_law_shown.nd rfl (Or.inl rfl)) (pgs_cons (pg_name (i := 7) sc_law_shown.nd rfl (Or.inl rfl)) (pgs_cons (pg_name (i := 8) sc_law_shown.nd rfl (Or.inl rfl)) pgs_nil))))))
  (C8.pss_cut (ps_set (i := 9) sc_law_shown.nd rfl (Or.inl rfl) (pe_op op_sub (pv 3) (pe_callB (kSum K rfl) (by rfl) T.b_sum (by decide +kernel) (pa_cons (pe_lc (own := [("row", 10)]) (by rfl) sc_law_shown.nd (kpiL K (pv 5)) (blkOk_by (N := ns_law_shown) (sc := defScope s_law_shown) (by decide +kernel)) (fun _ _ _ _ _ => (pg_name (i := 10) sc_law_shown.nd rfl (Or.inl rfl))) (fun _ _ _ _ _ => pts_nil) (fun _ _ _ _ _ => (pe_callB (kLen K) (by rfl) T.b_len (by decide +kernel) (pa_cons (pv 10) pa_nil)))) pa_nil))))
  (pss_cons (ps_if (PW.pt (pw_or (pt_cmpR op_ne (pe_dmeth0 (pv 0) D_Frames_left (hr.mono (by decide)) pass0 ) (pv 9) (nomark _)) (pw_or1 (pt_cmpR op_lt (pv 9) (pe_callB (kSum K rfl) (by rfl) T.b_sum (by decide +kernel) (pa_cons (pe_lc (own := [("one", 11)]) (by rfl) sc_law_shown.nd (pi_range1 (by rfl) T.b_range (pa_cons pe_int pa_nil)) (blkOk_by (N := ns_law_shown) (sc := defScope s_law_shown) (by decide +kernel)) (fun _ _ _ _ _ => (pg_name (i := 11) sc_law_shown.nd rfl (Or.inl rfl))) (fun _ _ _ _ _ => pts_nil) (fun _ _ _ _ _ => (pe_callB (call_max2 rfl) (by rfl) T.b_max (by decide +kernel) (pa_cons pe_int (pa_cons (pe_op op_sub (pe_ix (kIxL K) (pv 2) (pv 11) (fun _ _ => rfl)) (pe_callB (kLen K) (by rfl) T.b_len (by decide +kernel) (pa_cons (pe_ix (kIxL K) (pv 5) (pv 11) (fun _ _ => rfl)) pa_nil))) pa_nil))))) pa_nil)) (nomark _))))) (pss_one (ps_ret pe_bl)) pss_nil)
  (pss_cons (ps_for PassesOwn.never (by rfl) (pi_range1 (by rfl) T.b_range (pa_cons pe_int pa_nil)) (pg_name (i := 11) sc_law_shown.nd rfl (Or.inl rfl)) (pss_cons (ps_if (PW.pt (pw_or (pt_cmpR (kNeD K hr.units) (pe_dmeth (pv 0) D_Frames_holdings (hr.mono (by decide)) pass0 (pa_cons (pv 11) pa_nil)) (pe_ix (kIxL K) (pv 5) (pv 11) (fun _ _ => rfl)) (nomark _)) (pw_or (pt_cmpR op_ne (pe_dmeth (pv 0) D_Frames_charge (hr.mono (by decide)) pass0 (pa_cons (pv 11) pa_nil)) (pe_callB (kLen K) (by rfl) T.b_len (by decide +kernel) (pa_cons (pe_ix (kIxL K) (pv 5) (pv 11) (fun _ _ => rfl)) pa_nil)) (nomark _)) (pw_or1 (pt_cmpR (kNeD K hr.units) (pe_dmeth (pv 0) D_Frames_taken (hr.mono (by decide)) pass0 (pa_cons (pv 11) pa_nil)) (pe_ix (kIxL K) (pv 4) (pv 11) (fun _ _ => rfl)) (nomark _)))))) (pss_one (ps_ret pe_bl)) pss_nil)
  (pss_cons (ps_if (PW.pt (pw_or (pt_cmpR op_ne (pe_dmeth (pv 0) D_Frames_asked (hr.mono (by decide)) pass0 (pa_cons (pv 11) pa_nil)) (pe_ifExp (pt_cmp (pc_din (units1 hr) (pv 11) (pv 8))) (pe_ix (kIxL K) (pe_dget (units1 hr) (pv 8) (pv 11) (fun _ _ => rfl)) pe_int (fun _ _ => rfl)) pe_int) (nomark _)) (pw_or1 (pt_cmpR op_ne (pe_dmeth (pv 0) D_Frames_share (hr.mono (by decide)) pass0 (pa_cons (pv 11) pa_nil)) (pe_ix (kIxL K) (pv 2) (pv 11) (fun _ _ => rfl)) (nomark _))))) (pss_one (ps_ret pe_bl)) pss_nil)
  (pss_one (ps_for PassesOwn.never (by rfl) (pi_range1 (by rfl) T.b_range (pa_cons (pv 3) pa_nil)) (pg_name (i := 12) sc_law_shown.nd rfl (Or.inl rfl)) (pss_one (ps_if (pt_cmpR op_ne (pe_dmeth (pv 0) D_Frames_right (hr.mono (by decide)) pass0 (pa_cons (pv 11) (pa_cons (pv 12) pa_nil))) (pe_dget1 (units1 hr) (pv 6) (pe_tup (pa_cons (pv 11) (pa_cons (pv 12) pa_nil))) ⟨rfl, rfl, rfl, rfl⟩) (nomark _)) (pss_one (ps_ret pe_bl)) pss_nil)))))))
  (pss_one (ps_ret pe_bl)))))), ?_⟩
    have h1 := B.tup
    have hb := B.hdl
    have ok := fr.ok
    have hsp : H sp = some (.lst (s'.sh.map vN)) := hsp
    have one : ∀ j, j < 4 → ∃ d, b.h[j]? = some d ∧ H d = some (.lst ((keysR (s'.rt.getD j [])).map vN)) := fun j hj => by
      obtain ⟨d, hd, q⟩ := B.hs.at (List.getElem?_eq_getElem (show j < s'.rt.length by rw [ok.rt4]; exact hj))
      refine ⟨d, hd, ?_⟩
      rw [show s'.rt.getD j [] = s'.rt[j]'(by rw [ok.rt4]; exact hj) from by rw [List.getD_eq_getElem?_getD, List.getElem?_eq_getElem]; rfl]
      exact q
    refine ⟨fun σ Hx => Hide (σ = [some (.ref x), some (.ref b.bk), some (.ref sp), some (.int (s'.m : Int)), some (.ref lp), some (.ref b.hd), some (.ref b.rg), some (.ref b.of), some (.ref b.wn), none, none, none, none] ∧ H = Hx), ?_, ?_⟩
    · walk_at "ro"
      refine ⟨_, _, rfl, SqT.of h1, rfl, _, _, rfl, _, _, rfl, _, _, rfl, _, _, rfl, rfl, ?_⟩
      exact hide ⟨rfl, rfl⟩
    rintro σ Hx hh
    obtain ⟨rfl, rfl⟩ := hh.out
    clear hh
    refine ⟨fun σ Hx => Hide (σ = [some (.ref x), some (.ref b.bk), some (.ref sp), some (.int (s'.m : Int)), some (.ref lp), some (.ref b.hd), some (.ref b.rg), some (.ref b.of), some (.ref b.wn), some (.int (leftOf s')), none, none, none] ∧ Same H Hx), ?_, ?_⟩
    · walk_at "ro"
      refine ⟨⟨_, SqL.of hb⟩, fun D hD => ?_⟩
      refine lcL (xs := b.h.map V.ref) ((s'.rt.map List.length).map vN) (by simp [B.hs.1]) (by rw [List.length_map, B.h4]; decide) hb hD ?_ ?_
      · intro j y z H2 Q' hy hz s2 q
        have hj : j < s'.rt.length := by
          have := (List.getElem?_eq_some_iff.mp hy).1
          rw [List.length_map, B.hs.1] at this
          exact this
        obtain ⟨dd, hdd, hdk⟩ := B.hs.at (List.getElem?_eq_getElem hj)
        have hdk : H dd = some (.lst ((keysR s'.rt[j]).map vN)) := hdk
        have ey : y = .ref dd := by
          rw [List.getElem?_map, hdd] at hy
          exact (Option.some.inj hy).symm
        have ez : z = .int (s'.rt[j].length : Nat) := by
          rw [List.getElem?_map, List.getElem?_map, List.getElem?_eq_getElem hj] at hz
          exact (Option.some.inj hz).symm
        subst ey ez
        have hdk2 := s2 _ _ hdk
        refine ⟨rfl, ?_⟩
        walk_at "ro"
        rw [List.length_map, keys_len]
        exact q H2 (Same.refl _)
      · intro H2 s2 d2
        walk_at "ro"
        refine ⟨D, (s'.rt.map List.length).map fun n : Nat => (n : Int), rfl, SqL.of (by rw [vN_map]; exact d2), ?_⟩
        rw [sum_nat]
        exact ⟨_, _, rfl, rfl, hide ⟨rfl, s2⟩⟩
    rintro σ H1 hh
    obtain ⟨rfl, s1⟩ := hh.out
    clear hh
    have h1i := s1 _ _ fr.ins
    walk_at "ro"
    refine ⟨P', x, a, s', rfl, fr.same s1, fun H2 s2 => ?_⟩
    have s02 := s1.trans s2
    walk_at "ro"
    refine iteDn (fun q => absurd rfl q) (fun _ => ?_)
    walk_at "ro"
    refine ⟨by decide, by decide, fun D2 hD2 => ?_⟩
    refine lc_range (lo := 0) (n := ((4 : Int) - 0).toNat) (fun j Hx => Hx D2 = some (.lst (((List.range j).map fun n => unchOf s' (eD n)).map vN)) ∧ Same H2 Hx) ⟨upd_same, Same.new hD2⟩ ?_ ?_
    · rintro j Hx hj ⟨hx1, sx⟩
      have hj : j < 4 := hj
      obtain ⟨dj, hj1, hj2⟩ := one j hj
      have s0x := s02.trans sx
      have hj2 := s0x _ _ hj2
      have h1x := s0x _ _ hb
      have h3x := s0x _ _ hsp
      refine ⟨rfl, ?_⟩
      walk_at "ro"
      refine ⟨_, _, _, _, rfl, rfl, SqL.of h3x, atC j (by omega) (getVN' (by rw [ok.sh4]; omega)), ?_⟩
      walk_at "ro"
      refine ⟨_, _, _, _, rfl, rfl, SqL.of h1x, atC j (by omega) (by rw [List.getElem?_map, hj1]; rfl), ?_⟩
      walk_at "ro"
      refine ⟨_, _, rfl, ?_⟩
      rw [List.length_map, keys_len]
      have e1 : (if ((s'.sh.getD j 0 : Nat) : Int) - (((s'.rt.getD j []).length : Nat) : Int) > 0 then ((s'.sh.getD j 0 : Nat) : Int) - (((s'.rt.getD j []).length : Nat) : Int) else 0) = ((unchOf s' (eD j) : Nat) : Int) := by
        rw [unch_nat hj]; split <;> omega
      rw [e1]
      refine ⟨_, hx1, szt (by rw [List.length_map, List.length_map, List.length_range]; omega), ?_, Same.mut sx hD2⟩
      rw [upd_same, List.range_succ, List.map_append, List.map_append]; rfl
    · rintro Hx ⟨hx1, sx⟩
      walk_at "ro"
      refine ⟨D2, ((List.range 4).map fun n => unchOf s' (eD n)).map fun n : Nat => (n : Int), rfl, SqL.of (by rw [vN_map]; exact hx1), ?_⟩
      rw [sum_nat]
      have s03 := s02.trans sx
      clear hx1 sx hD2
      have ll := g.ll
      unfold lackOf at ll
      walk_at "ro"
      refine iteD (fun q => absurd q (by omega)) (fun _ => ?_)
      walk_at "ro"
      refine ⟨by decide, by decide, ?_⟩
      refine for_range (fun i σ Hy => Hide (∃ o11 o12 : Option V, σ = [some (.ref x), some (.ref b.bk), some (.ref sp), some (.int (s'.m : Int)), some (.ref lp), some (.ref b.hd), some (.ref b.rg), some (.ref b.of), some (.ref b.wn), some (.int (leftOf s')), none, o11, o12] ∧ Same H Hy)) ?_ ?_ ?_
      · exact hide ⟨none, none, rfl, s03⟩
      · rintro i σ Hy hi hh
        obtain ⟨o11, o12, rfl, sy⟩ := hh.out
        have hi4 : i < 4 := hi
        clear hh s03
        have hyi := sy _ _ fr.ins
        have hh : heldOf s' (.int (i : Int)) = keysR (s'.rt.getD i []) := by
          unfold heldOf keysR
          rw [if_pos (isE_nat hi4)]; rfl
        have ch : chargeOf s' (.int (i : Int)) = (s'.rt.getD i []).length := by
          unfold chargeOf
          rw [hh, keys_len]
        have ak : askOf s' (.int (i : Int)) = s'.ask.getD i 0 := by
          unfold askOf
          rw [if_pos (isE_nat hi4)]; rfl
        have sh : shareOf s' (.int (i : Int)) = s'.sh.getD i 0 := by
          unfold shareOf
          rw [if_pos (isE_nat hi4)]; rfl
        obtain ⟨d, hd1, hd2⟩ := one i hi4
        have t4 : i < s'.tk.length := by rw [ok.tk4]; exact hi4
        obtain ⟨d5, hd5, hk5⟩ := hls.at (List.getElem?_eq_getElem t4)
        have eg5 : s'.tk.getD i [] = s'.tk[i] := by rw [List.getD_eq_getElem?_getD, List.getElem?_eq_getElem t4]; rfl
        walk_at "ro"
        rw [Int.zero_add]
        refine ⟨P', x, a, s', _, _, rfl, fr.same sy, .int _, fun p3 H3 s3 hp3 np3 => ?_⟩
        rw [hh] at np3
        have s03 := sy.trans s3
        have hb3 := s03 _ _ hb
        walk_at "ro"
        refine ⟨_, _, _, _, rfl, rfl, SqL.of hb3, atC i rfl (by rw [List.getElem?_map, hd1]; rfl), ?_⟩
        refine ne_nats np3 (s03 _ _ hd2) ⟨_, rfl, iteF ?_⟩
        have hi3 := s03 _ _ fr.ins
        walk_at "ro"
        refine ⟨P', x, a, s', _, _, rfl, fr.same s03, .int _, fun H4 s4 => ?_⟩
        have s04 := s03.trans s4
        have hb4 := s04 _ _ hb
        have hd4 := s04 _ _ hd2
        rw [ch]
        walk_at "ro"
        refine ⟨_, _, _, _, rfl, rfl, SqL.of hb4, atC i rfl (by rw [List.getElem?_map, hd1]; rfl), ?_⟩
        walk_at "ro"
        rw [List.length_map, keys_len]
        refine iteDn (fun q => absurd rfl q) (fun _ => ?_)
        have hi5 := s04 _ _ fr.ins
        walk_at "ro"
        refine ⟨P', x, a, s', _, i, rfl, rfl, hi4, fr.same s04, fun p5 H5 s5 hp5 np5 => ?_⟩
        have s05 := s04.trans s5
        have hl5 := s05 _ _ hlp
        walk_at "ro"
        refine ⟨_, _, _, _, rfl, rfl, SqL.of hl5, atC i rfl (by rw [List.getElem?_map, hd5]; rfl), ?_⟩
        rw [eg5] at np5
        refine ne_nats np5 (s05 _ _ hk5) ⟨_, rfl, iteF ?_⟩
        have hi6 := s05 _ _ fr.ins
        walk_at "ro"
        refine ⟨P', x, a, s', _, _, rfl, fr.same s05, .int _, fun H6 s6 => ?_⟩
        have s06 := s05.trans s6
        rw [ak]
        have W6 := W.same s06
        obtain ⟨w1, w2, w3, w4⟩ := W6.wns
        walk_at "ro"
        refine ⟨b.wn, _, rfl, DGet.k (k := .inl (i : Int)) w2, ?_⟩
        rw [w4 i hi4]
        refine ⟨_, rfl, ?_⟩
        rcases W6.wis i hi4 with ⟨y1, y2⟩ | ⟨ii, y1, y2, y3⟩
        · rw [y1, y2]
          refine iteF ?_
          walk_at "ro"
          have hi7 := s06 _ _ fr.ins
          walk_at "ro"
          refine ⟨P', x, a, s', _, _, rfl, fr.same s06, .int _, fun H7 s7 => ?_⟩
          have s07 := s06.trans s7
          rw [sh]
          have hsp7 := s07 _ _ hsp
          walk_at "ro"
          refine ⟨_, _, _, _, rfl, rfl, SqL.of hsp7, atC i rfl (getVN' (by rw [ok.sh4]; exact hi4)), ?_⟩
          walk_at "ro"
          refine iteDn (fun q => absurd rfl q) (fun _ => ?_)
          walk_at "ro"
          have m64 := ok.m64
          refine ⟨by omega, by omega, ?_⟩
          refine for_range (fun j σ Hz => Hide (∃ o12 : Option V, σ = [some (.ref x), some (.ref b.bk), some (.ref sp), some (.int (s'.m : Int)), some (.ref lp), some (.ref b.hd), some (.ref b.rg), some (.ref b.of), some (.ref b.wn), some (.int (leftOf s')), none, some (.int (i : Int)), o12] ∧ Same H Hz)) ?_ ?_ ?_
          · exact hide ⟨_, rfl, s07⟩
          · rintro j σ Hz hj hh2
            obtain ⟨o12', rfl, sz⟩ := hh2.out
            have jm : j < s'.m := by omega
            clear hh2
            have hiz := sz _ _ fr.ins
            walk_at "ro"
            rw [Int.zero_add]
            refine ⟨P', x, a, s', _, _, _, _, rfl, fr.same sz, .int _, .int _, ?_⟩
            rw [right_nat hi4 jm]
            have Bz := B.same sz
            obtain ⟨r1, r2, r3, r4⟩ := Bz.rgs
            walk_at "ro"
            refine ⟨.inr ⟨_, .inl r2⟩, ?_⟩
            walk_at "ro"
            refine ⟨szl rfl, fun q1 hq1 => ?_⟩
            have sq1 := Same.new (o := .tup [.int (i : Int), .int (j : Int)]) hq1
            refine ⟨_, DGet.t (k := kk2 i j) (sq1 _ _ r2) upd_same, ?_⟩
            rw [r4 i j hi4, opt_getD]
            refine ⟨by rcases getR (s'.rt.getD i []) j with _ | (_ | _) <;> rfl, _, rfl, ?_⟩
            refine iteDn (fun q => absurd rfl q) (fun _ => ?_)
            exact hide ⟨_, rfl, sz.trans sq1⟩
          · rintro σ Hz hh2
            obtain ⟨o12', rfl, sz⟩ := hh2.out
            exact hide ⟨_, _, rfl, sz⟩
        · rw [y1]
          refine iteT ?_
          walk_at "ro"
          refine ⟨b.wn, .ref ii, rfl, by have := DGet.k (k := .inl (i : Int)) w2; rw [w4 i hi4, y1] at this; exact this, ?_⟩
          walk_at "ro"
          refine iteDn (fun q => absurd rfl q) (fun _ => ?_)
          have hi7 := s06 _ _ fr.ins
          walk_at "ro"
          refine ⟨P', x, a, s', _, _, rfl, fr.same s06, .int _, fun H7 s7 => ?_⟩
          have s07 := s06.trans s7
          rw [sh]
          have hsp7 := s07 _ _ hsp
          walk_at "ro"
          refine ⟨_, _, _, _, rfl, rfl, SqL.of hsp7, atC i rfl (getVN' (by rw [ok.sh4]; exact hi4)), ?_⟩
          walk_at "ro"
          refine iteDn (fun q => absurd rfl q) (fun _ => ?_)
          walk_at "ro"
          have m64 := ok.m64
          refine ⟨by omega, by omega, ?_⟩
          refine for_range (fun j σ Hz => Hide (∃ o12 : Option V, σ = [some (.ref x), some (.ref b.bk), some (.ref sp), some (.int (s'.m : Int)), some (.ref lp), some (.ref b.hd), some (.ref b.rg), some (.ref b.of), some (.ref b.wn), some (.int (leftOf s')), none, some (.int (i : Int)), o12] ∧ Same H Hz)) ?_ ?_ ?_
          · exact hide ⟨_, rfl, s07⟩
          · rintro j σ Hz hj hh2
            obtain ⟨o12', rfl, sz⟩ := hh2.out
            have jm : j < s'.m := by omega
            clear hh2
            have hiz := sz _ _ fr.ins
            walk_at "ro"
            rw [Int.zero_add]
            refine ⟨P', x, a, s', _, _, _, _, rfl, fr.same sz, .int _, .int _, ?_⟩
            rw [right_nat hi4 jm]
            have Bz := B.same sz
            obtain ⟨r1, r2, r3, r4⟩ := Bz.rgs
            walk_at "ro"
            refine ⟨.inr ⟨_, .inl r2⟩, ?_⟩
            walk_at "ro"
            refine ⟨szl rfl, fun q1 hq1 => ?_⟩
            have sq1 := Same.new (o := .tup [.int (i : Int), .int (j : Int)]) hq1
            refine ⟨_, DGet.t (k := kk2 i j) (sq1 _ _ r2) upd_same, ?_⟩
            rw [r4 i j hi4, opt_getD]
            refine ⟨by rcases getR (s'.rt.getD i []) j with _ | (_ | _) <;> rfl, _, rfl, ?_⟩
            refine iteDn (fun q => absurd rfl q) (fun _ => ?_)
            exact hide ⟨_, rfl, sz.trans sq1⟩
          · rintro σ Hz hh2
            obtain ⟨o12', rfl, sz⟩ := hh2.out
            exact hide ⟨_, _, rfl, sz⟩
      · rintro σ Hy hh
        obtain ⟨o11, o12, rfl, sy⟩ := hh.out
        walk_at "ro"
        exact k _ sy
end
end My

namespace My
open PySem L2
local macro_rules | `(tactic| walk_at "ne") => `(tactic| first | assumption | exact Ne.symm (by assumption) | exact ne_of_none (by assumption) (by assumption) | exact Ne.symm (ne_of_none (by assumption) (by assumption)))
local macro_rules | `(tactic| walk_at "hp") => `(tactic| first | assumption | with_reducible exact upd_same | (with_reducible refine Eq.trans (upd_ne ?_) ?_; rotate_left; walk_at "hp"; walk_at "ne"))
local macro_rules | `(tactic| walk_at "cnd") => `(tactic| first | omega | (show (0 : Int) < _; omega) | exact ⟨by omega, by omega⟩ | exact Or.inl ⟨by omega, by omega⟩ | exact Or.inr ⟨by omega, by omega⟩ | exact ⟨by omega, by omega, by decide⟩ | exact ⟨by omega, by omega, by omega⟩)
local macro_rules | `(tactic| walk_at "at") => `(tactic| first | exact atC 0 rfl rfl | exact atC 1 rfl rfl | exact atC 2 rfl rfl | exact atC 3 rfl rfl | exact atC 4 rfl rfl | exact atC 5 rfl rfl | exact atC 6 rfl rfl | exact atC 7 rfl rfl)
local macro_rules | `(tactic| walk_at "ix") => `(tactic| first | exact ixC 0 rfl (Nat.le_of_ble_eq_true rfl) | exact ixC 1 rfl (Nat.le_of_ble_eq_true rfl) | exact ixC 2 rfl (Nat.le_of_ble_eq_true rfl) | exact ixC 3 rfl (Nat.le_of_ble_eq_true rfl) | exact ixC 4 rfl (Nat.le_of_ble_eq_true rfl) | exact ixC 5 rfl (Nat.le_of_ble_eq_true rfl))
local macro_rules | `(tactic| walk_at "st") => `(tactic| first
  | refine ⟨_, rfl, ?_⟩
  | refine ⟨_, _, rfl, rfl, (by walk_at "cnd" : (_ : Prop)), ?_⟩
  | refine ⟨_, _, rfl, rfl, ?_⟩
  | refine ⟨rfl, ?_⟩
  | refine Or.inl ⟨_, rfl, ?_⟩
  | refine ⟨_, _, _, _, rfl, rfl, by exact SqL.of (by walk_at "hp"), by walk_at "at", ?_⟩
  | refine ⟨_, _, _, _, rfl, rfl, by exact SqT.of (by walk_at "hp"), by walk_at "at", ?_⟩
  | refine ⟨_, _, _, _, rfl, rfl, by walk_at "hp", by walk_at "ix", ?_⟩
  | refine ⟨_, _, rfl, Or.inl (by exact SqL.of (by walk_at "hp")), ?_⟩
  | refine ⟨_, _, rfl, Or.inr (by exact SqT.of (by walk_at "hp")), ?_⟩)
local macro_rules | `(tactic| walk_at "so") => `(tactic| first
  | refine ⟨_, _, _, _, _, rfl, by walk_at "hp", by assumption, by assumption, rfl, ?_⟩
  | refine ⟨_, _, _, _, rfl, by walk_at "hp", by assumption, by assumption, Nat.le_of_ble_eq_true rfl, ?_⟩
  | refine ⟨_, _, _, rfl, by walk_at "hp", rfl, ?_⟩
  | walk_at "st")
local macro_rules | `(tactic| walk_at "ro") => `(tactic| repeat walk_at "so")
local macro_rules | `(tactic| walk_at "run") => `(tactic| repeat walk_at "st")

theorem Fr.chg {C : Addr} {P : Addr → Prop} {H H' : Hp} {x : Addr} {a : FA} {s : FS} (h : Fr C P H x a s) (c : ∀ b ∈ a.own x, ∀ o, H b = some o → H' b = some o) : Fr C P H' x a s := by
  have hd : ∀ b, b ∈ heads a x → b ∈ a.own x := fun b hb => by unfold FA.own; exact List.mem_append_left _ hb
  have hw : ∀ b ∈ a.wds, b ∈ a.own x := fun b hb => by unfold FA.own; exact List.mem_append_right _ (List.mem_append_left _ hb)
  have hr : ∀ b ∈ a.rds, b ∈ a.own x := fun b hb => by unfold FA.own; exact List.mem_append_right _ (List.mem_append_right _ (List.mem_append_left _ hb))
  have ho : ∀ b ∈ a.ods, b ∈ a.own x := fun b hb => by unfold FA.own; exact List.mem_append_right _ (List.mem_append_right _ (List.mem_append_right _ (List.mem_append_left _ hb)))
  have ht : ∀ b ∈ a.tks, b ∈ a.own x := fun b hb => by unfold FA.own; exact List.mem_append_right _ (List.mem_append_right _ (List.mem_append_right _ (List.mem_append_right _ (List.mem_append_left _ hb))))
  have hi : ∀ b ∈ a.ids.flatten, b ∈ a.own x := fun b hb => by unfold FA.own; exact List.mem_append_right _ (List.mem_append_right _ (List.mem_append_right _ (List.mem_append_right _ (List.mem_append_right _ hb))))
  refine ⟨h.ok, h.nd, h.mine, c _ (hd _ (by simp [heads])) _ h.ins, c _ (hd _ (by simp [heads])) _ h.w, h.ws.mono fun d l m r => c d (hw d m) _ r, c _ (hd _ (by simp [heads])) _ h.hs, c _ (hd _ (by simp [heads])) _ h.r, h.rs.mono fun d l m r => c d (hr d m) _ r, c _ (hd _ (by simp [heads])) _ h.o, h.il, ⟨h.os.1, fun j d q hd' hq => ?_⟩, c _ (hd _ (by simp [heads])) _ h.ha, c _ (hd _ (by simp [heads])) _ h.he, c _ (hd _ (by simp [heads])) _ h.t, h.ts.mono fun d l m r => c d (ht d m) _ r⟩
  obtain ⟨g1, g2⟩ := h.os.2 j d q hd' hq
  obtain ⟨h8, _⟩ := List.getElem?_zip_eq_some.mp hq
  exact ⟨c d (ho d (List.mem_of_getElem? hd')) _ g1, g2.mono fun i p m r => c i (hi i (List.mem_flatten.mpr ⟨q.1, List.mem_of_getElem? h8, m⟩)) _ r⟩
theorem Nxt.uniq {s : FS} {v v' : BV} {d : Dd} (h : Nxt s v d) (h' : Nxt s v' d) : v = v' := by
  cases d with
  | take e =>
    rcases h with ⟨a, rfl⟩ | ⟨a, f, b, rfl⟩ <;> rcases h' with ⟨a', rfl⟩ | ⟨a', f', b', rfl⟩
    · rfl
    · rw [a] at a'; cases a'
    · rw [a] at a'; cases a'
    · rw [b] at b'; cases b'; rfl
  | offer e f o b =>
    rcases h with ⟨a, rfl⟩ | ⟨a, b1, rfl⟩ <;> rcases h' with ⟨a', rfl⟩ | ⟨a', b1', rfl⟩
    · rfl
    · rcases a with a | a
      · exact absurd a a'
      · rw [a] at b1'; cases b1'
    · rcases a' with a' | a'
      · exact absurd a' a
      · rw [a'] at b1; cases b1
    · rfl
  | accept e f o b =>
    rcases h with ⟨a, rfl⟩ | ⟨c, a, rfl⟩ <;> rcases h' with ⟨a', rfl⟩ | ⟨c', a', rfl⟩
    · rfl
    · exact absurd ⟨c', a'⟩ a
    · exact absurd ⟨c, a⟩ a'
    · have := a.1.symm.trans a'.1
      cases this
      rfl
  | drop e f o b =>
    rcases h with ⟨a, rfl⟩ | ⟨a, rfl⟩ <;> rcases h' with ⟨a', rfl⟩ | ⟨a', rfl⟩
    · rfl
    · exact absurd a a'
    · exact absurd a' a
    · rfl
  | narrow e f o b =>
    rcases h with ⟨a, rfl⟩ | ⟨a, rfl⟩ <;> rcases h' with ⟨a', rfl⟩ | ⟨a', rfl⟩
    · rfl
    · exact absurd a' a
    · exact absurd a a'
    · rfl
  | slot e f o v =>
    rcases h with ⟨a, rfl⟩ | ⟨a, rfl⟩ | ⟨a, rfl⟩ <;> rcases h' with ⟨a', rfl⟩ | ⟨a', rfl⟩ | ⟨a', rfl⟩ <;> first | rfl | omega
  | ask e n => rw [show v = _ from h, show v' = _ from h']
theorem set_of {l l' : List RL} {e : Nat} (h : l'.length = l.length) (hj : ∀ j, j ≠ e → l'.getD j [] = l.getD j []) : l' = l.set e (l'.getD e []) := by
  apply List.ext_getElem?
  intro j
  by_cases hl : j < l'.length
  · rw [List.getElem?_eq_getElem hl]
    by_cases q : j = e
    · subst q
      rw [List.getElem?_set_self (by omega), List.getD_eq_getElem?_getD, List.getElem?_eq_getElem hl]; rfl
    · rw [List.getElem?_set_ne (fun z => q z.symm)]
      have := hj j q
      rw [List.getD_eq_getElem?_getD, List.getD_eq_getElem?_getD, List.getElem?_eq_getElem hl, List.getElem?_eq_getElem (by omega)] at this
      rw [List.getElem?_eq_getElem (by omega)]
      exact congrArg some this
  · rw [List.getElem?_eq_none (by omega), List.getElem?_eq_none (by rw [List.length_set]; omega)]
theorem news_take (s : FS) (e : Nat) : newsOf s e = (keysR (s.rt.getD e [])).reverse.take (newsOf s e).length := by
  have kl : (newsOf s e).length = min ((s.rt.getD e []).length - s.sh.getD e 0) (s.ask.getD e 0) := by
    unfold newsOf
    rw [List.length_take, List.length_reverse, keys_len]
    omega
  rw [kl]; rfl
theorem news_len (s : FS) (e : Nat) : (newsOf s e).length ≤ (s.rt.getD e []).length := by
  unfold newsOf
  rw [List.length_take, List.length_reverse, keys_len]
  omega
theorem Good.next {s s2 : FS} {d : Dd} (g : Good s) (ok : FOk s) (dok : d.ok s.m) (h : Nxt s (vw s2) d) (e1 : s2.m = s.m) (e2 : s2.sh = s.sh) : Good s2 := by
  have same : vw s2 = vw s → Good s2 := fun q => by
    have q1 : s2.rt = s.rt := congrArg BV.rt q
    have q2 : s2.ask = s.ask := congrArg BV.ask q
    have q3 : s2.wt = s.wt := congrArg BV.wt q
    exact g.same e1 e2 q1 (by rw [q2, q3]; exact g.aw)
  cases d with
  | take e =>
    rcases h with ⟨_, q⟩ | ⟨hm, f, hf, q⟩
    · exact same q
    · obtain ⟨fm, fn⟩ := free_get (s := s) (n := s.m) (f := f) (List.mem_of_mem_head? hf)
      exact g.add ok.rt4 (show e < 4 from dok) fm (fn e) hm e1 e2 (congrArg BV.rt q) (congrArg BV.ask q) (congrArg BV.wt q)
  | offer e f o b =>
    rcases h with ⟨_, q⟩ | ⟨_, _, q⟩
    · exact same q
    · have q1 : s2.rt = s.rt := congrArg BV.rt q
      have q2 : s2.ask = s.ask := congrArg BV.ask q
      have q3 : s2.wt = s.wt := congrArg BV.wt q
      exact g.same e1 e2 q1 (by rw [q2, q3]; exact g.aw)
  | accept e f o b =>
    rcases h with ⟨_, q⟩ | ⟨c, ⟨_, _, hn, hm⟩, q⟩
    · exact same q
    · exact g.add ok.rt4 dok.1 dok.2.1 hn hm e1 e2 (congrArg BV.rt q) (congrArg BV.ask q) (congrArg BV.wt q)
  | drop e f o b =>
    rcases h with ⟨_, q⟩ | ⟨_, q⟩
    · exact same q
    · have q2 : s2.ask = s.ask.set e (s.ask.getD e 0 - 1) := congrArg BV.ask q
      have q3 : s2.wt = s.wt := congrArg BV.wt q
      refine g.sub ok.rt4 dok.1 (List.Sublist.map _ List.filter_sublist) e1 e2 (congrArg BV.rt q) fun j hj h0 => ?_
      rw [q2, getD_set (by rw [ok.ask4]; exact dok.1)] at h0
      rw [q3]
      refine g.aw j hj ?_
      by_cases y : j = e
      · rw [if_pos y] at h0; rw [y]; omega
      · rw [if_neg y] at h0; exact h0
  | narrow e f o b =>
    rcases h with ⟨_, q⟩ | ⟨_, q⟩
    · exact same q
    · have q2 : s2.ask = s.ask := congrArg BV.ask q
      have q3 : s2.wt = s.wt := congrArg BV.wt q
      exact g.sub ok.rt4 dok.1 (by rw [keys_thin]; exact List.Sublist.refl _) e1 e2 (congrArg BV.rt q) (by rw [q2, q3]; exact g.aw)
  | slot e f o v =>
    have e4 : e < 4 := dok.1
    rcases h with ⟨_, q⟩ | ⟨hw, q⟩ | ⟨hw, q⟩
    · exact same q
    · have q1 : s2.rt = s.rt := congrArg BV.rt q
      have q2 : s2.ask = s.ask := congrArg BV.ask q
      have q3 : s2.wt = s.wt.set e (s.wt.getD e 0 - 1) := congrArg BV.wt q
      refine g.same e1 e2 q1 fun j hj h0 => ?_
      rw [q3, getD_set (by rw [ok.wt4]; exact e4)]
      by_cases y : j = e
      · rw [if_pos y]; omega
      · rw [if_neg y]
        rw [q2] at h0
        exact g.aw j hj h0
    · have q1 : s2.rt = (endsS s e (newsOf s e)).rt := congrArg BV.rt q
      have q2 : s2.ask = s.ask.set e 0 := congrArg BV.ask q
      have q3 : s2.wt = s.wt.set e (s.wt.getD e 0 - 1) := congrArg BV.wt q
      have sm := endsS_same e (newsOf s e) s
      have el : e < s.rt.length := by rw [ok.rt4]; exact e4
      have ht := ends_rt el (g.nd e) (newsOf s e).length (news_len s e)
      rw [← news_take] at ht
      have q1' : s2.rt = s.rt.set e ((s.rt.getD e []).take ((s.rt.getD e []).length - (newsOf s e).length)) := by
        rw [q1, ← ht]
        exact set_of sm.2.2.2.2.2.1 fun j hj => (sm.2.2.2.2.2.2.2.2 j hj).1
      refine g.sub ok.rt4 e4 (List.Sublist.map _ (List.take_sublist _ _)) e1 e2 q1' fun j hj h0 => ?_
      rw [q2, getD_set (by rw [ok.ask4]; exact e4)] at h0
      rw [q3, getD_set (by rw [ok.wt4]; exact e4)]
      by_cases y : j = e
      · rw [if_pos y] at h0; omega
      · rw [if_neg y] at h0 ⊢
        exact g.aw j hj h0
  | ask e n =>
    have h : vw s2 = _ := h
    have q1 : s2.rt = s.rt := congrArg BV.rt h
    have q2 : s2.ask = s.ask.set e n := congrArg BV.ask h
    have q3 : s2.wt = s.wt.set e 2 := congrArg BV.wt h
    refine g.same e1 e2 q1 fun j hj h0 => ?_
    rw [q3, getD_set (by rw [ok.wt4]; exact dok.1)]
    by_cases y : j = e
    · rw [if_pos y]; omega
    · rw [if_neg y]
      rw [q2, getD_set (by rw [ok.ask4]; exact dok.1), if_neg y] at h0
      exact g.aw j hj h0
theorem tkV_len {s : FS} {d : Dd} {n : Nat} (g : Good s) (ok : FOk s) (dok : d.ok s.m) (h : ∀ e, (s.tk.getD e []).length ≤ 64 * n) (e : Nat) : ((tkV s d).getD e []).length ≤ 64 * (n + 1) := by
  have z := h e
  cases d with
  | slot e' f o v =>
    show ((s.tk.set e' _).getD e []).length ≤ _
    rw [getD_set (by rw [ok.tk4]; exact dok.1)]
    by_cases y : e = e'
    · subst y
      rw [if_pos rfl, List.length_append]
      have := news_len s e
      have := g.len e
      have := ok.m64
      split
      · omega
      · rw [List.length_nil]; omega
    · rw [if_neg y]; omega
  | take e' => show (s.tk.getD e []).length ≤ _; omega
  | offer e' f o b => show (s.tk.getD e []).length ≤ _; omega
  | accept e' f o b => show (s.tk.getD e []).length ≤ _; omega
  | drop e' f o b => show (s.tk.getD e []).length ≤ _; omega
  | narrow e' f o b => show (s.tk.getD e []).length ≤ _; omega
  | ask e' n' => show (s.tk.getD e []).length ≤ _; omega
def resD : Res → PyData
  | .non => .none
  | .int f => .int (f : Int)
  | .bl b => .bool b
  | .lst l => .list (l.map fun n : Nat => PyData.int (n : Int))
theorem RV.dt {H : Hp} {v : V} {r : Res} (h : RV H v r) : Dt H v (resD r) := by
  cases r with
  | non => rw [show v = _ from h]; exact .non
  | int f => rw [show v = _ from h]; exact .int _
  | bl b => rw [show v = _ from h]; exact .bl _
  | lst l =>
    obtain ⟨p, rfl, hp⟩ := h
    exact .lst hp (dt_nats H l)
theorem resD_sh (r : Res) : Sh 1 (resD r) := by
  cases r with
  | non => exact Sh.none _
  | int f => exact Sh.int _ _
  | bl b => exact Sh.bool _ _
  | lst l => exact sh_nats l
theorem ne_res {K : PySem.W.Frag} {H : Hp} {u v : V} {r : Res} {Q : VK} (hu : RV H u r) (hv : RV H v r) (k : Q (.bl false) H) : rNeD K u v H Q := by
  refine ⟨resD r, resD r, hu.dt.dp, hv.dt.dp, (resD_sh r).ok, (resD_sh r).ok, ?_⟩
  rw [PySem.SeqAt.eqv_refl _ (resD_sh r).1]
  exact k
end My

namespace My
open PySem L2
local macro_rules | `(tactic| walk_at "ne") => `(tactic| first | assumption | exact Ne.symm (by assumption) | exact ne_of_none (by assumption) (by assumption) | exact Ne.symm (ne_of_none (by assumption) (by assumption)))
local macro_rules | `(tactic| walk_at "hp") => `(tactic| first | assumption | with_reducible exact upd_same | (with_reducible refine Eq.trans (upd_ne ?_) ?_; rotate_left; walk_at "hp"; walk_at "ne"))
local macro_rules | `(tactic| walk_at "cnd") => `(tactic| first | omega | (show (0 : Int) < _; omega) | exact ⟨by omega, by omega⟩ | exact Or.inl ⟨by omega, by omega⟩ | exact Or.inr ⟨by omega, by omega⟩ | exact ⟨by omega, by omega, by decide⟩ | exact ⟨by omega, by omega, by omega⟩)
local macro_rules | `(tactic| walk_at "at") => `(tactic| first | exact atC 0 rfl rfl | exact atC 1 rfl rfl | exact atC 2 rfl rfl | exact atC 3 rfl rfl | exact atC 4 rfl rfl | exact atC 5 rfl rfl | exact atC 6 rfl rfl | exact atC 7 rfl rfl)
local macro_rules | `(tactic| walk_at "ix") => `(tactic| first | exact ixC 0 rfl (Nat.le_of_ble_eq_true rfl) | exact ixC 1 rfl (Nat.le_of_ble_eq_true rfl) | exact ixC 2 rfl (Nat.le_of_ble_eq_true rfl) | exact ixC 3 rfl (Nat.le_of_ble_eq_true rfl) | exact ixC 4 rfl (Nat.le_of_ble_eq_true rfl) | exact ixC 5 rfl (Nat.le_of_ble_eq_true rfl))
local macro_rules | `(tactic| walk_at "st") => `(tactic| first
  | refine ⟨_, rfl, ?_⟩
  | refine ⟨_, _, rfl, rfl, (by walk_at "cnd" : (_ : Prop)), ?_⟩
  | refine ⟨_, _, rfl, rfl, ?_⟩
  | refine ⟨rfl, ?_⟩
  | refine Or.inl ⟨_, rfl, ?_⟩
  | refine ⟨_, _, _, _, rfl, rfl, by exact SqL.of (by walk_at "hp"), by walk_at "at", ?_⟩
  | refine ⟨_, _, _, _, rfl, rfl, by exact SqT.of (by walk_at "hp"), by walk_at "at", ?_⟩
  | refine ⟨_, _, _, _, rfl, rfl, by walk_at "hp", by walk_at "ix", ?_⟩
  | refine ⟨_, _, rfl, Or.inl (by exact SqL.of (by walk_at "hp")), ?_⟩
  | refine ⟨_, _, rfl, Or.inr (by exact SqT.of (by walk_at "hp")), ?_⟩)
local macro_rules | `(tactic| walk_at "so") => `(tactic| first
  | refine ⟨_, _, _, _, _, rfl, by walk_at "hp", by assumption, by assumption, rfl, ?_⟩
  | refine ⟨_, _, _, _, rfl, by walk_at "hp", by assumption, by assumption, Nat.le_of_ble_eq_true rfl, ?_⟩
  | refine ⟨_, _, _, rfl, by walk_at "hp", rfl, ?_⟩
  | walk_at "st")
local macro_rules | `(tactic| walk_at "ro") => `(tactic| repeat walk_at "so")
local macro_rules | `(tactic| walk_at "run") => `(tactic| repeat walk_at "st")

def rsS (tp ts sp lp : Addr) (ls : List Addr) (z : Addr) : Prop := z = tp ∨ z = ts ∨ z = sp ∨ z = lp ∨ z ∈ ls
structure JJ (C tp ts x sp lp bk : Addr) (m : Nat) (H : Hp) (a : FA) (b : BA) (s : FS) (ls : List Addr) (tk : List (List Nat)) (n : Nat) : Prop where
  tape : Tape H tp ts
  fr : Fr C (fun z => z ∈ a.own x) H x a s
  good : Good s
  ob : OB n s.of
  tz : ∀ e, (s.tk.getD e []).length ≤ 64 * n
  bh : Bh H b s.rt (offN s.of) n
  bw : Bw H b s.ask s.wt n
  eb : b.bk = bk
  hsp : NsL H sp s.sh
  sm : s.m = m
  hlp : H lp = some (.lst (ls.map V.ref))
  hls : Each NsL H ls tk
  fo : ∀ z ∈ a.own x, ¬ bkS b z ∧ ¬ rsS tp ts sp lp ls z
  bo : ∀ z, bkS b z → ¬ rsS tp ts sp lp ls z
  ap : tp ≠ sp ∧ tp ≠ lp ∧ tp ∉ ls ∧ lp ≠ ts ∧ lp ≠ sp ∧ lp ∉ ls
theorem Tape.keep2 {H H' : Hp} {a t : Addr} (h : Tape H a t) (c1 : ∀ o, H a = some o → H' a = some o) (c2 : ∀ o, H t = some o → H' t = some o) : Tape H' a t := by
  obtain ⟨ns, i, r, z, ha, hs, q⟩ := h
  exact ⟨ns, i, r, z, c1 _ ha, c2 _ hs, q⟩
theorem book_al {H : Hp} {b : BA} {rt : List RL} {off : Nat → Nat → Nat → Option Bool} {ask wt : List Nat} {n : Nat} (B : Bh H b rt off n) (W : Bw H b ask wt n) : ∀ z, bkS b z → H z ≠ none := by
  intro z q
  obtain ⟨r1, r2, _⟩ := B.rgs
  obtain ⟨o1, o2, _⟩ := B.ofs
  obtain ⟨w1, w2, _⟩ := W.wns
  rcases q with q | q | q | q | q | q | ⟨j, hj, q⟩
  · rw [q, B.tup]; exact fun z => by cases z
  · rw [q, B.hdl]; exact fun z => by cases z
  · rw [q, r2]; exact fun z => by cases z
  · rw [q, o2]; exact fun z => by cases z
  · rw [q, w2]; exact fun z => by cases z
  · obtain ⟨k, hk, ek⟩ := List.mem_iff_getElem.mp q
    have := B.hs.2 k z (rt[k]'(by rw [← B.hs.1]; exact hk)) (by rw [List.getElem?_eq_getElem hk, ek]) (List.getElem?_eq_getElem _)
    rw [show H z = _ from this]; exact fun z => by cases z
  · rcases W.wis j hj with ⟨y, _⟩ | ⟨i, y1, _, y3⟩
    · rw [q] at y; cases y
    · rw [q] at y1; cases y1
      rw [y3]; exact fun z => by cases z
section
variable {C tp ts x sp lp bk : Addr} {m : Nat} {H H' : Hp} {a : FA} {b : BA} {s : FS} {ls : List Addr} {tk : List (List Nat)} {n : Nat}
theorem JJ.alR (j : JJ C tp ts x sp lp bk m H a b s ls tk n) : ∀ z, rsS tp ts sp lp ls z → H z ≠ none := by
  intro z q
  obtain ⟨ns, i, r, y, ha, hs, _⟩ := j.tape
  rcases q with q | q | q | q | q
  · rw [q, ha]; exact fun z => by cases z
  · rw [q, hs]; exact fun z => by cases z
  · rw [q, show H sp = _ from j.hsp]; exact fun z => by cases z
  · rw [q, j.hlp]; exact fun z => by cases z
  · obtain ⟨k, hk, ek⟩ := List.mem_iff_getElem.mp q
    have := j.hls.2 k z (tk[k]'(by rw [← j.hls.1]; exact hk)) (by rw [List.getElem?_eq_getElem hk, ek]) (List.getElem?_eq_getElem _)
    rw [show H z = _ from this]; exact fun z => by cases z
theorem JJ.alB (j : JJ C tp ts x sp lp bk m H a b s ls tk n) : ∀ z, bkS b z → H z ≠ none := book_al j.bh j.bw
/-- the tape goes on -/
theorem JJ.keep (j : JJ C tp ts x sp lp bk m H a b s ls tk n) (t : Tape H' tp ts) (c : Chg tp H H') : JJ C tp ts x sp lp bk m H' a b s ls tk n := by
  obtain ⟨a1, a2, a3, _⟩ := j.ap
  refine ⟨t, j.fr.chg fun z hz o h => c z o (fun y => (j.fo z hz).2 (.inl y)) h, j.good, j.ob, j.tz, j.bh.chg (S := fun z => z = tp) c fun z hz y => ?_, j.bw.chg (S := fun z => z = tp) c fun z hz y => ?_, j.eb, c _ _ a1.symm j.hsp, j.sm, c _ _ a2.symm j.hlp, j.hls.mono fun d l hm r => c _ _ (fun y => a3 (by rw [← y]; exact hm)) r, j.fo, j.bo, j.ap⟩
  · refine j.bo z ?_ (.inl y)
    rcases hz with y | y | y | y | y
    · exact .inl y
    · exact .inr (.inl y)
    · exact .inr (.inr (.inl y))
    · exact .inr (.inr (.inr (.inl y)))
    · exact .inr (.inr (.inr (.inr (.inr (.inl y)))))
  · refine j.bo z ?_ (.inl y)
    rcases hz with y | y
    · exact .inr (.inr (.inr (.inr (.inl y))))
    · exact .inr (.inr (.inr (.inr (.inr (.inr y)))))
theorem JJ.same (j : JJ C tp ts x sp lp bk m H a b s ls tk n) (c : Same H H') : JJ C tp ts x sp lp bk m H' a b s ls tk n := j.keep (j.tape.same c) (Same.chg c)
/-- the book's turn, then the frames' -/
theorem JJ.step {H1 H2 : Hp} {a' : FA} {s2 : FS} {wi' : Nat → Option Addr} (j : JJ C tp ts x sp lp bk m H a b s ls s.tk n)
    (B1 : Bh H1 { b with wi := wi' } s2.rt (offN s2.of) (n + 1)) (W1 : Bw H1 { b with wi := wi' } s2.ask s2.wt (n + 1)) (hw : ∀ k i, k < 4 → wi' k = some i → b.wi k = some i ∨ H i = none) (c1 : ChgP (bkS b) H H1)
    (f2 : Fr C (fun z => z ∈ a.own x ∨ H1 z = none) H2 x a' s2) (g2 : Good s2) (o2 : OB (n + 1) s2.of) (em : s2.m = s.m) (es : s2.sh = s.sh) (tz : ∀ e, (s2.tk.getD e []).length ≤ 64 * (n + 1)) (c2 : ChgP (fun z => z ∈ a.own x) H1 H2) : JJ C tp ts x sp lp bk m H2 a' { b with wi := wi' } s2 ls s.tk (n + 1) := by
  have alF := j.fr.al
  have new : ∀ z, bkS { b with wi := wi' } z → bkS b z ∨ H z = none := fun z q => by
    rcases q with q | q | q | q | q | q | ⟨k, hk, q⟩
    · exact .inl (.inl q)
    · exact .inl (.inr (.inl q))
    · exact .inl (.inr (.inr (.inl q)))
    · exact .inl (.inr (.inr (.inr (.inl q))))
    · exact .inl (.inr (.inr (.inr (.inr (.inl q)))))
    · exact .inl (.inr (.inr (.inr (.inr (.inr (.inl q))))))
    · rcases hw k z hk q with y | y
      · exact .inl (.inr (.inr (.inr (.inr (.inr (.inr ⟨k, hk, y⟩))))))
      · exact .inr y
  have noF : ∀ z, bkS { b with wi := wi' } z → z ∉ a.own x := fun z q h => by
    rcases new z q with y | y
    · exact (j.fo z h).1 y
    · exact alF z h y
  have r1 : ∀ z, rsS tp ts sp lp ls z → ∀ o, H z = some o → H2 z = some o := fun z q o h => c2 _ _ (fun y => (j.fo z y).2 q) (c1 _ _ (fun y => j.bo z y q) h)
  have al1 : ∀ z, rsS tp ts sp lp ls z → H1 z ≠ none := fun z q y => by
    cases e : H z with
    | none => exact j.alR z q e
    | some o =>
      have := c1 _ _ (fun y => j.bo z y q) e
      rw [y] at this; cases this
  refine ⟨j.tape.keep2 (fun o h => r1 _ (.inl rfl) o h) (fun o h => r1 _ (.inr (.inl rfl)) o h), f2.mono fun z h => h, g2, o2, tz, B1.chg c2 fun z hz => noF z ?_, W1.chg c2 fun z hz => noF z ?_, j.eb, by rw [es]; exact r1 _ (.inr (.inr (.inl rfl))) _ j.hsp, em.trans j.sm, r1 _ (.inr (.inr (.inr (.inl rfl)))) _ j.hlp, j.hls.mono fun d l hm r => r1 _ (.inr (.inr (.inr (.inr hm)))) _ r, fun z hz => ?_, fun z hz => ?_, j.ap⟩
  · rcases hz with y | y | y | y | y
    · exact .inl y
    · exact .inr (.inl y)
    · exact .inr (.inr (.inl y))
    · exact .inr (.inr (.inr (.inl y)))
    · exact .inr (.inr (.inr (.inr (.inr (.inl y)))))
  · rcases hz with y | y
    · exact .inr (.inr (.inr (.inr (.inl y))))
    · exact .inr (.inr (.inr (.inr (.inr (.inr y)))))
  · rcases f2.mine z hz with y | y
    · exact ⟨fun q => noF z q y, (j.fo z y).2⟩
    · exact ⟨fun q => book_al B1 W1 z q y, fun q => al1 z q y⟩
  · rcases new z hz with y | y
    · exact j.bo z y
    · exact fun q => j.alR z q y
theorem outs {H1 H2 : Hp} {a' : FA} {s2 : FS} {wi' : Nat → Option Addr} {z : Addr} (f2 : Fr C (fun z => z ∈ a.own x ∨ H1 z = none) H2 x a' s2) (h1 : z ∉ a.own x) (h2 : ¬ bkS b z) (hz : ∀ k, k < 4 → wi' k = some z → b.wi k = some z) (hz2 : H1 z ≠ none) : z ∉ a'.own x ∧ ¬ bkS { b with wi := wi' } z := by
  refine ⟨fun q => ?_, fun q => ?_⟩
  · rcases f2.mine z q with y | y
    · exact h1 y
    · exact hz2 y
  · rcases q with q | q | q | q | q | q | ⟨k, hk, q⟩
    · exact h2 (.inl q)
    · exact h2 (.inr (.inl q))
    · exact h2 (.inr (.inr (.inl q)))
    · exact h2 (.inr (.inr (.inr (.inl q))))
    · exact h2 (.inr (.inr (.inr (.inr (.inl q)))))
    · exact h2 (.inr (.inr (.inr (.inr (.inr (.inl q))))))
    · exact h2 (.inr (.inr (.inr (.inr (.inr (.inr ⟨k, hk, hz k hk q⟩))))))
/-- a word is written -/
theorem JJ.words {s' : FS} {n' : Nat} (j : JJ C tp ts x sp lp bk m H a b s ls tk n) (f : Fr C (fun z => z ∈ a.own x) H' x a s') (e : s'.m = s.m ∧ s'.sh = s.sh ∧ s'.rt = s.rt ∧ s'.of = s.of ∧ s'.ask = s.ask ∧ s'.wt = s.wt ∧ s'.tk = s.tk) (c : ChgP (fun z => z ∈ a.own x) H H') : JJ C tp ts x sp lp bk m H' a b s' ls tk n := by
  obtain ⟨e1, e2, e3, e4, e5, e6, e7⟩ := e
  have r1 : ∀ z, rsS tp ts sp lp ls z → ∀ o, H z = some o → H' z = some o := fun z q o h => c _ _ (fun y => (j.fo z y).2 q) h
  have noF : ∀ z, bkS b z → z ∉ a.own x := fun z q h => (j.fo z h).1 q
  refine ⟨j.tape.keep2 (fun o h => r1 _ (.inl rfl) o h) (fun o h => r1 _ (.inr (.inl rfl)) o h), f, j.good.same e1 e2 e3 (by rw [e5, e6]; exact j.good.aw), by rw [e4]; exact j.ob, by rw [e7]; exact j.tz, ?_, ?_, j.eb, by rw [e2]; exact r1 _ (.inr (.inr (.inl rfl))) _ j.hsp, e1.trans j.sm, r1 _ (.inr (.inr (.inr (.inl rfl)))) _ j.hlp, j.hls.mono fun d l hm r => r1 _ (.inr (.inr (.inr (.inr hm)))) _ r, j.fo, j.bo, j.ap⟩
  · rw [e3, e4]
    refine j.bh.chg c fun z hz => noF z ?_
    rcases hz with y | y | y | y | y
    · exact .inl y
    · exact .inr (.inl y)
    · exact .inr (.inr (.inl y))
    · exact .inr (.inr (.inr (.inl y)))
    · exact .inr (.inr (.inr (.inr (.inr (.inl y)))))
  · rw [e5, e6]
    refine j.bw.chg c fun z hz => noF z ?_
    rcases hz with y | y
    · exact .inr (.inr (.inr (.inr (.inl y))))
    · exact .inr (.inr (.inr (.inr (.inr (.inr y)))))
/-- what was lost grows -/
theorem JJ.lost {q : Addr} {e : Nat} {l : List Nat} (j : JJ C tp ts x sp lp bk m H a b s ls tk n) (he : e < ls.length) (hq : NsL H q l) (q1 : q ∉ a.own x) (q2 : ¬ bkS b q) (q3 : ¬ rsS tp ts sp lp ls q) : JJ C tp ts x sp lp bk m (upd H lp (.lst ((ls.set e q).map V.ref))) a b s (ls.set e q) (tk.set e l) n := by
  obtain ⟨a1, a2, a3, a4, a5, a6⟩ := j.ap
  have c : Chg lp H (upd H lp (.lst ((ls.set e q).map V.ref))) := Chg.upd
  have lpr : rsS tp ts sp lp ls lp := .inr (.inr (.inr (.inl rfl)))
  have sub : ∀ z, rsS tp ts sp lp (ls.set e q) z → rsS tp ts sp lp ls z ∨ z = q := fun z h => by
    rcases h with h | h | h | h | h
    · exact .inl (.inl h)
    · exact .inl (.inr (.inl h))
    · exact .inl (.inr (.inr (.inl h)))
    · exact .inl (.inr (.inr (.inr (.inl h))))
    · rcases List.mem_or_eq_of_mem_set h with y | y
      · exact .inl (.inr (.inr (.inr (.inr y))))
      · exact .inr y
  have qlp : q ≠ lp := fun y => q3 (by rw [y]; exact lpr)
  refine ⟨j.tape.keep2 (fun o h => c _ _ a2 h) (fun o h => c _ _ a4.symm h), j.fr.chg fun z hz o h => c z o (fun y => (j.fo z hz).2 (by rw [y]; exact lpr)) h, j.good, j.ob, j.tz, j.bh.chg (S := fun z => z = lp) c fun z hz y => ?_, j.bw.chg (S := fun z => z = lp) c fun z hz y => ?_, j.eb, c _ _ a5.symm j.hsp, j.sm, upd_same, ⟨by rw [List.length_set, List.length_set]; exact j.hls.1, fun k d l' hd hl => ?_⟩, fun z hz => ⟨(j.fo z hz).1, fun h => ?_⟩, fun z hz h => ?_, a1, a2, fun h => ?_, a4, a5, fun h => ?_⟩
  · refine j.bo z ?_ (by rw [show z = lp from y]; exact lpr)
    rcases hz with y | y | y | y | y
    · exact .inl y
    · exact .inr (.inl y)
    · exact .inr (.inr (.inl y))
    · exact .inr (.inr (.inr (.inl y)))
    · exact .inr (.inr (.inr (.inr (.inr (.inl y)))))
  · refine j.bo z ?_ (by rw [show z = lp from y]; exact lpr)
    rcases hz with y | y
    · exact .inr (.inr (.inr (.inr (.inl y))))
    · exact .inr (.inr (.inr (.inr (.inr (.inr y)))))
  · by_cases y : e = k
    · subst y
      rw [List.getElem?_set_self he] at hd
      rw [List.getElem?_set_self (by rw [← j.hls.1]; exact he)] at hl
      cases hd
      cases hl
      exact c _ _ qlp hq
    · rw [List.getElem?_set_ne y] at hd hl
      exact c _ _ (fun w => a6 (by rw [← w]; exact List.mem_of_getElem? hd)) (j.hls.2 k d l' hd hl)
  · rcases sub z h with y | y
    · exact (j.fo z hz).2 y
    · exact q1 (by rw [← y]; exact hz)
  · rcases sub z h with y | y
    · exact j.bo z hz y
    · exact q2 (by rw [← y]; exact hz)
  · rcases List.mem_or_eq_of_mem_set h with y | y
    · exact a3 y
    · exact q3 (.inl y.symm)
  · rcases List.mem_or_eq_of_mem_set h with y | y
    · exact a6 y
    · exact qlp y.symm
end
theorem RV.keep {H H' : Hp} {v : V} {r : Res} (h : RV H v r) (c : ∀ p, v = .ref p → ∀ o, H p = some o → H' p = some o) : RV H' v r := by
  cases r with
  | lst l =>
    obtain ⟨p, rfl, hp⟩ := h
    exact ⟨p, rfl, c p rfl _ hp⟩
  | non => exact h
  | int f => exact h
  | bl b => exact h
end My

namespace My
open PySem L2
local macro_rules | `(tactic| walk_at "ne") => `(tactic| first | assumption | exact Ne.symm (by assumption) | exact ne_of_none (by assumption) (by assumption) | exact Ne.symm (ne_of_none (by assumption) (by assumption)))
local macro_rules | `(tactic| walk_at "hp") => `(tactic| first | assumption | with_reducible exact upd_same | (with_reducible refine Eq.trans (upd_ne ?_) ?_; rotate_left; walk_at "hp"; walk_at "ne"))
local macro_rules | `(tactic| walk_at "cnd") => `(tactic| first | omega | (show (0 : Int) < _; omega) | exact ⟨by omega, by omega⟩ | exact Or.inl ⟨by omega, by omega⟩ | exact Or.inr ⟨by omega, by omega⟩ | exact ⟨by omega, by omega, by decide⟩ | exact ⟨by omega, by omega, by omega⟩)
local macro_rules | `(tactic| walk_at "at") => `(tactic| first | exact atC 0 rfl rfl | exact atC 1 rfl rfl | exact atC 2 rfl rfl | exact atC 3 rfl rfl | exact atC 4 rfl rfl | exact atC 5 rfl rfl | exact atC 6 rfl rfl | exact atC 7 rfl rfl)
local macro_rules | `(tactic| walk_at "ix") => `(tactic| first | exact ixC 0 rfl (Nat.le_of_ble_eq_true rfl) | exact ixC 1 rfl (Nat.le_of_ble_eq_true rfl) | exact ixC 2 rfl (Nat.le_of_ble_eq_true rfl) | exact ixC 3 rfl (Nat.le_of_ble_eq_true rfl) | exact ixC 4 rfl (Nat.le_of_ble_eq_true rfl) | exact ixC 5 rfl (Nat.le_of_ble_eq_true rfl))
local macro_rules | `(tactic| walk_at "st") => `(tactic| first
  | refine ⟨_, rfl, ?_⟩
  | refine ⟨_, _, rfl, rfl, (by walk_at "cnd" : (_ : Prop)), ?_⟩
  | refine ⟨_, _, rfl, rfl, ?_⟩
  | refine ⟨rfl, ?_⟩
  | refine Or.inl ⟨_, rfl, ?_⟩
  | refine ⟨_, _, _, _, rfl, rfl, by exact SqL.of (by walk_at "hp"), by walk_at "at", ?_⟩
  | refine ⟨_, _, _, _, rfl, rfl, by exact SqT.of (by walk_at "hp"), by walk_at "at", ?_⟩
  | refine ⟨_, _, _, _, rfl, rfl, by walk_at "hp", by walk_at "ix", ?_⟩
  | refine ⟨_, _, rfl, Or.inl (by exact SqL.of (by walk_at "hp")), ?_⟩
  | refine ⟨_, _, rfl, Or.inr (by exact SqT.of (by walk_at "hp")), ?_⟩)
local macro_rules | `(tactic| walk_at "so") => `(tactic| first
  | refine ⟨_, _, _, _, _, rfl, by walk_at "hp", by assumption, by assumption, rfl, ?_⟩
  | refine ⟨_, _, _, _, rfl, by walk_at "hp", by assumption, by assumption, Nat.le_of_ble_eq_true rfl, ?_⟩
  | refine ⟨_, _, _, rfl, by walk_at "hp", rfl, ?_⟩
  | walk_at "st")
local macro_rules | `(tactic| walk_at "ro") => `(tactic| repeat walk_at "so")
local macro_rules | `(tactic| walk_at "run") => `(tactic| repeat walk_at "st")

theorem sum_le4 {c : Nat} : ∀ {l : List Nat}, (∀ q ∈ l, q ≤ c) → l.sum ≤ l.length * c
  | [], _ => Nat.zero_le _
  | a :: l, h => by
    have ih := sum_le4 (l := l) fun q hq => h q (List.mem_cons_of_mem _ hq)
    have := h a List.mem_cons_self
    rw [List.sum_cons, List.length_cons, Nat.succ_mul]
    omega
theorem mkJJ {C tp ts x sp lp bk hd rg of wn q1 q2 q3 q4 p1 p2 p3 p4 : Addr} {m : Nat} {sh : List Nat} {G K9 K : Hp} {a : FA} (T : Tape G tp ts) (hsp : NsL G sp sh) (fr : Fr C (fun z => z ∈ a.own x) G x a (initS m sh)) (hsep : ∀ z ∈ a.own x, z ≠ tp ∧ z ≠ ts ∧ z ≠ sp) (sl : sh.length = 4) (ssum : sh.sum ≤ m) (tpsp : tp ≠ sp)
    (S1 : Same G K9) (S2 : Same K9 K) (c1 : K bk = some (.tup [.ref hd, .ref rg, .ref of, .ref wn])) (c2 : K hd = some (.lst [.ref q1, .ref q2, .ref q3, .ref q4])) (c3 : K rg = some (.dT [])) (c4 : K of = some (.dT [])) (c5 : K wn = some (.dK []))
    (cq : ∀ z ∈ [q1, q2, q3, q4], K z = some (.lst [])) (cp : ∀ z ∈ [p1, p2, p3, p4], K z = some (.lst [])) (cl : K lp = some (.lst [.ref p1, .ref p2, .ref p3, .ref p4]))
    (n1 : ∀ z ∈ [bk, hd, rg, of, wn, q1, q2, q3, q4], G z = none ∧ K9 z ≠ none) (n2 : ∀ z ∈ [lp, p1, p2, p3, p4], K9 z = none) (nd1 : [q1, q2, q3, q4, hd].Nodup) (nd2 : lp ∉ [p1, p2, p3, p4]) (rgof : rg ≠ of) :
    JJ C tp ts x sp lp bk m K a ⟨bk, hd, rg, of, wn, [q1, q2, q3, q4], fun _ => none⟩ (initS m sh) [p1, p2, p3, p4] (initS m sh).tk 0 := by
  obtain ⟨ns, i, r, y, ha, hs, _⟩ := id T
  have hsp' : G sp = some (.lst (sh.map vN)) := hsp
  have SS := S1.trans S2
  have rep : ∀ {α : Type} {n j : Nat} {u v : α}, (List.replicate n u)[j]? = some v → v = u := fun h => by
    obtain ⟨h1, h2⟩ := List.getElem?_eq_some_iff.mp h
    rw [← h2, List.getElem_replicate]
  have repD : ∀ {α : Type} {n j : Nat} {u : α}, (List.replicate n u).getD j u = u := fun {α n j u} => by
    rw [List.getD_eq_getElem?_getD]
    cases e : (List.replicate n u)[j]? with
    | none => rfl
    | some v => rw [rep e]; rfl
  have nd1' : [q1, q2, q3, q4].Nodup ∧ hd ∉ [q1, q2, q3, q4] := by
    have q : ([q1, q2, q3, q4] ++ [hd]).Nodup := nd1
    obtain ⟨x1, _, x3⟩ := List.nodup_append.mp q
    exact ⟨x1, fun z => x3 hd z hd (by simp) rfl⟩
  have bks : ∀ z, bkS ⟨bk, hd, rg, of, wn, [q1, q2, q3, q4], fun _ => none⟩ z → z ∈ [bk, hd, rg, of, wn, q1, q2, q3, q4] := fun z q => by
    rcases q with q | q | q | q | q | q | ⟨_, _, q⟩
    · have q : z = bk := q
      simp [q]
    · have q : z = hd := q
      simp [q]
    · have q : z = rg := q
      simp [q]
    · have q : z = of := q
      simp [q]
    · have q : z = wn := q
      simp [q]
    · have q : z ∈ [q1, q2, q3, q4] := q
      simp only [List.mem_cons, List.not_mem_nil, or_false] at q ⊢
      rcases q with q | q | q | q <;> simp [q]
    · cases q
  have nG2 : ∀ z ∈ [lp, p1, p2, p3, p4], G z = none := fun z hz => by
    cases e : G z with
    | none => rfl
    | some o =>
      have := S1 _ _ e
      rw [n2 z hz] at this; cases this
  have inP : ∀ z, z = lp ∨ z ∈ [p1, p2, p3, p4] → z ∈ [lp, p1, p2, p3, p4] := fun z q => List.mem_cons.mpr q
  have out : ∀ z, K9 z ≠ none → (z ≠ tp ∧ z ≠ ts ∧ z ≠ sp) → ¬ rsS tp ts sp lp [p1, p2, p3, p4] z := fun z hz ⟨y1, y2, y3⟩ q => by
    rcases q with q | q | q | q | q
    · exact y1 q
    · exact y2 q
    · exact y3 q
    · exact hz (n2 z (inP z (.inl q)))
    · exact hz (n2 z (inP z (.inr q)))
  have un : ∀ e, unchOf (initS m sh) (eD e) = if e < 4 then sh.getD e 0 else 0 := fun e => by
    by_cases h : e < 4
    · rw [unch_nat h, if_pos h]
      show sh.getD e 0 - ((List.replicate 4 ([] : RL)).getD e []).length = _
      rw [repD]; rfl
    · rw [if_neg h]
      unfold unchOf shareOf
      have : isE (eD e) = false := by
        show (decide ((0 : Int) ≤ (e : Int)) && decide ((e : Int) ≤ 3)) = false
        rw [decide_eq_false (by omega : ¬ (e : Int) ≤ 3), Bool.and_false]
      rw [this]
      show 0 - _ = 0
      omega
  refine ⟨T.same SS, (fr.same SS), ⟨fun e => ?_, fun e f h => ?_, ?_, fun e _ h => ?_⟩, fun l hl => ?_, fun e => ?_, ?_, ?_, rfl, SS _ _ hsp', rfl, cl, ?_, fun z hz => ⟨fun q => ?_, out z ?_ (hsep z hz)⟩, fun z hz => ?_, tpsp, ?_, ?_, ?_, ?_, nd2⟩
  · show (keysR ((List.replicate 4 []).getD e [])).Nodup
    rw [repD]; exact List.nodup_nil
  · have h : f ∈ keysR ((List.replicate 4 []).getD e []) := h
    rw [repD] at h; cases h
  · have e1 : lackOf (initS m sh) = sh.sum := by
      rw [lack_nat]
      show (sh.getD 0 0 - 0) + ((sh.getD 1 0 - 0) + ((sh.getD 2 0 - 0) + (sh.getD 3 0 - 0))) = sh.sum
      match sh, sl with
      | [a, b, c, d], _ => simp only [List.sum_cons, List.sum_nil]; show (a - 0) + ((b - 0) + ((c - 0) + (d - 0))) = _; omega
    have e2 : leftOf (initS m sh) = (m : Int) := by
      unfold leftOf
      show (m : Int) - (((List.replicate 4 ([] : RL)).map List.length).sum : Nat) = _
      show (m : Int) - ((0 : Nat) : Int) = _
      omega
    rw [e1, e2]
    omega
  · have h : 0 < (List.replicate 4 0).getD e 0 := h
    rw [repD] at h; omega
  · have hl : l ∈ List.replicate 4 [] := hl
    rw [List.eq_of_mem_replicate hl]
    exact ⟨Nat.le_refl _, fun p hp => by cases hp⟩
  · show ((List.replicate 4 ([] : List Nat)).getD e []).length ≤ _
    rw [repD]; exact Nat.zero_le _
  · refine ⟨c1, c2, rfl, nd1'.1, nd1'.2, ⟨rfl, fun j d l hd hl => ?_⟩, rgof, ⟨[], c3, Nat.le_refl _, fun e f _ => ?_⟩, ⟨[], c4, Nat.le_refl _, fun e f o _ _ => ?_⟩⟩
    · have hl : (List.replicate 4 ([] : RL))[j]? = some l := hl
      rw [rep hl]
      exact cq d (List.mem_of_getElem? hd)
    · show none = (getR ((List.replicate 4 []).getD e []) f).map rV
      rw [repD]; rfl
    · show none = (offN (List.replicate 4 []) e f o).map rV
      unfold offN
      rw [repD]; rfl
  · refine ⟨⟨[], c5, Nat.le_refl _, fun e _ => rfl⟩, fun e _ => .inl ⟨rfl, ?_⟩, fun e e' i _ _ h => (by cases h), fun e i _ h => (by cases h)⟩
    show (List.replicate 4 0).getD e 0 = 0
    exact repD
  · refine ⟨rfl, fun j d l hd hl => ?_⟩
    have hl : (List.replicate 4 ([] : List Nat))[j]? = some l := hl
    rw [rep hl]
    exact cp d (List.mem_of_getElem? hd)
  · exact fr.al z hz (n1 z (bks z q)).1
  · cases e : G z with
    | none => exact absurd e (fr.al z hz)
    | some o => rw [S1 _ _ e]; exact fun q => by cases q
  · obtain ⟨y1, y2⟩ := n1 z (bks z hz)
    refine out z y2 ⟨fun w => ?_, fun w => ?_, fun w => ?_⟩
    · rw [w, ha] at y1; cases y1
    · rw [w, hs] at y1; cases y1
    · rw [w, hsp'] at y1; cases y1
  · intro w
    have := nG2 lp (by simp)
    rw [← w, ha] at this; cases this
  · intro w
    have := nG2 tp (inP tp (.inr w))
    rw [ha] at this; cases this
  · intro w
    have := nG2 lp (by simp)
    rw [w, hs] at this; cases this
  · intro w
    have := nG2 lp (by simp)
    rw [w, hsp'] at this; cases this
theorem none_same {H H' : Hp} {z : Addr} (s : Same H H') (h : H' z = none) : H z = none := by
  cases e : H z with
  | none => rfl
  | some o => rw [s _ _ e] at h; cases h
def spLaw (K : PySem.W.Frag) : Sp := fun vs H Q _ => ∃ (a : Addr) (ns : List Int), vs = [.ref a] ∧ SqL K H a (ns.map V.int) ∧ ∀ H', Q (.bl true) H'
section
variable {P : Program} {w : World} {K : PySem.W.Frag} {mg : Str → Option Value} {base : Heap} {C_Frames C_NotValid : Addr}
abbrev s_law : Stmt := topS 31
abbrev ns_law : List Str := ["script", "tape", "many", "shares", "one", "frames", "book", "lost", "turn", "deed", "due", "told", "index"]
theorem sc_law : FnScope ns_law ["script"] (defScope s_law) := ⟨rfl, rfl, rfl, by decide +kernel, rfl, by decide +kernel, by decide +kernel⟩

theorem ok_law {f : Addr} {fd : FuncData} (F : Fun K "law" "law" s_law f fd) (T : Txt K mg C_Frames C_NotValid) (D_law_next : Dfn P w K mg base CX0 1 "_law_next" ["tape", "many"] spNext) (M_Frames : Mkr P w K mg base (L2.CX P w) 3 "Frames" C_Frames ["self", "many", "shares"] (spInitF C_Frames)) (D_law_deed : Dfn P w K mg base CX0 2 "_law_deed" ["tape", "many"] spDeedL) (D_law_own : Dfn P w K mg base CX0 3 "_law_own" ["deed", "book", "shares", "many"] spOwnL) (D_law_done : Dfn P w K mg base CX0 10 "_law_done" ["frames", "deed"] (spDoneL C_Frames)) (D_Frames_read : Mth P w K mg base (L2.CX P w) 5 C_Frames "read" ["self", "frame", "index"] (spRead C_Frames)) (D_Frames_write : Mth P w K mg base (L2.CX P w) 5 C_Frames "write" ["self", "frame", "index", "word"] (spWrite C_Frames)) (D_law_shown : Dfn P w K mg base CX0 7 "_law_shown" ["frames", "book", "shares", "many", "lost"] (spShownL C_Frames)) : FnOk P w K mg base CX0 11 f fd ["script"] (spLaw K) := by
  refine F.ok sc_law (fun vs H Q E h => ?_) (fun cdv A outer s0 H vs Q E hr h => ?_)
  · obtain ⟨a, ns, rfl, _⟩ := h
    rfl
  · obtain ⟨a0, ns, rfl, hS, k⟩ := h
    refine ⟨_, (pss_cons (ps_set (i := 1) sc_law.nd rfl (Or.inr rfl) (pe_lst (pa_cons (pe_callTy (kListOf K) (by rfl) T.b_list (by decide +kernel) (pa_cons (pv 0) pa_nil)) (pa_cons pe_int (pa_cons pe_int (pa_cons pe_int pa_nil))))))
  (C8.pss_cut (ps_set (i := 2) sc_law.nd rfl (Or.inr rfl) (pe_op op_add pe_int (pe_dcall D_law_next (hr.mono (by decide)) (by rfl) pass0 (pa_cons (pv 1) (pa_cons pe_int pa_nil)))))
  (C8.pss_cut (ps_setLc (i := 3) (own := [("one", 4)]) (by rfl) sc_law.nd rfl rfl (sw_true rfl rfl rfl (by decide +kernel)) (pi_range1 (by rfl) T.b_range (pa_cons pe_int pa_nil)) (blkOk_by (N := ns_law) (sc := defScope s_law) (by decide +kernel)) (fun _ _ _ _ _ => (pg_name (i := 4) sc_law.nd rfl (Or.inl rfl))) (fun _ _ _ _ _ => pts_nil) (fun _ _ _ _ _ => (pe_dcall D_law_next (hr.mono (by decide)) (by rfl) pass0 (pa_cons (pv 1) (pa_cons (pe_op op_add pe_int (pe_op op_fdiv (pv 2) pe_int)) pa_nil)))))
  (C8.pss_cut (ps_set (i := 5) sc_law.nd rfl (Or.inr rfl) (pe_dmake M_Frames (hr.mono (by decide)) (by rfl) passL (pa_cons (pv 2) (pa_cons (pe_callTy (kListOf K) (by rfl) T.b_list (by decide +kernel) (pa_cons (pv 3) pa_nil)) pa_nil))))
  (pss_cons (ps_set (i := 6) sc_law.nd rfl (Or.inl rfl) (pe_tup (pa_cons (pe_lst (pa_cons (pe_lst pa_nil) (pa_cons (pe_lst pa_nil) (pa_cons (pe_lst pa_nil) (pa_cons (pe_lst pa_nil) pa_nil))))) (pa_cons pe_dnewT (pa_cons pe_dnewT (pa_cons pe_dnewK pa_nil))))))
  (C8.pss_cut (ps_set (i := 7) sc_law.nd rfl (Or.inl rfl) (pe_lst (pa_cons (pe_lst pa_nil) (pa_cons (pe_lst pa_nil) (pa_cons (pe_lst pa_nil) (pa_cons (pe_lst pa_nil) pa_nil))))))
  (pss_cons (ps_for PassesOwn.never (by rfl) (pi_range1 (by rfl) T.b_range (pa_cons (pe_dcall D_law_next (hr.mono (by decide)) (by rfl) pass0 (pa_cons (pv 1) (pa_cons (pe_ix (kIxL K) (pe_lst (pa_cons pe_int (pa_cons pe_int (pa_cons pe_int pa_nil)))) (pe_dcall D_law_next (hr.mono (by decide)) (by rfl) pass0 (pa_cons (pv 1) (pa_cons pe_int pa_nil))) (fun _ _ => rfl)) pa_nil))) pa_nil)) (pg_name (i := 8) sc_law.nd rfl (Or.inl rfl)) (pss_cons (ps_set (i := 9) sc_law.nd rfl (Or.inl rfl) (pe_dcall D_law_deed (hr.mono (by decide)) (by rfl) pass0 (pa_cons (pv 1) (pa_cons (pv 2) pa_nil))))
  (pss_cons (ps_set (i := 10) sc_law.nd rfl (Or.inr rfl) (pe_dcall D_law_own (hr.mono (by decide)) (by rfl) pass0 (pa_cons (pv 9) (pa_cons (pv 6) (pa_cons (pv 3) (pa_cons (pv 2) pa_nil))))))
  (C8.pss_cut (ps_set (i := 11) sc_law.nd rfl (Or.inl rfl) (pe_dcall D_law_done (hr.mono (by decide)) (by rfl) pass0 (pa_cons (pv 5) (pa_cons (pv 9) pa_nil))))
  (C8.pss_cut (ps_if (PW.pt (pw_or (pt_cmpR (kNeD K hr.units) (pv 11) (pv 10) (nomark _)) (pw_or1 (PW.pt (pw_and (pt_cmpR (kIn K) (pe_ix (kIxT K) (pv 9) pe_int (fun _ _ => rfl)) (pe_tup (pa_cons pe_str (pa_cons pe_str (pa_cons pe_str (pa_cons pe_str pa_nil))))) (by rfl)) (pw_and1 (pt_not (pt_val (pe_callB (kIsi K) (by rfl) T.b_isinstance (by decide +kernel) (pa_cons (pv 11) (pa_cons (pe_bltn (v := .ty "bool") (by rfl) T.b_bool (by decide +kernel) rfl) pa_nil))))))))))) (pss_one (ps_ret pe_bl)) pss_nil)
  (C8.pss_cut (ps_if (PW.pt (pw_and (pt_cmpR op_eq (pe_ix (kIxT K) (pv 9) pe_int (fun _ _ => rfl)) pe_str (nomark _)) (pw_and1 (pt_cmpR op_notN (pv 10) pe_non (nomark _))))) (pss_cons (ps_if (pt_cmpR (kNeD K hr.units) (pe_lc (own := [("index", 12)]) (by rfl) sc_law.nd (pi_range1 (by rfl) T.b_range (pa_cons pe_int pa_nil)) (blkOk_by (N := ns_law) (sc := defScope s_law) (by decide +kernel)) (fun _ _ _ _ _ => (pg_name (i := 12) sc_law.nd rfl (Or.inl rfl))) (fun _ _ _ _ _ => pts_nil) (fun _ _ _ _ _ => (pe_dmeth (pv 5) D_Frames_read (hr.mono (by decide)) passL (pa_cons (pv 10) (pa_cons (pv 12) pa_nil))))) (pe_op op_rep (pe_lst (pa_cons pe_int pa_nil)) pe_int) (nomark _)) (pss_one (ps_ret pe_bl)) pss_nil)
  (pss_one (ps_expr (pe_dmeth (pv 5) D_Frames_write (hr.mono (by decide)) passL (pa_cons (pv 10) (pa_cons (pe_dcall D_law_next (hr.mono (by decide)) (by rfl) pass0 (pa_cons (pv 1) (pa_cons pe_int pa_nil))) (pa_cons (pe_op op_add pe_int (pe_dcall D_law_next (hr.mono (by decide)) (by rfl) pass0 (pa_cons (pv 1) (pa_cons pe_int pa_nil)))) pa_nil))))))) pss_nil)
  (C8.pss_cut (ps_if (pt_cmpR op_eq (pe_ix (kIxT K) (pv 9) pe_int (fun _ _ => rfl)) pe_str (nomark _)) (pss_one (ps_asg (pe_op op_cat (pe_ix (kIxL K) (pv 7) (pe_ix (kIxT K) (pv 9) pe_int (fun _ _ => rfl)) (fun _ _ => rfl)) (pv 10)) (pg_sub (pv 7) (pe_ix (kIxT K) (pv 9) pe_int (fun _ _ => rfl)) set_list))) pss_nil)
  (pss_one (ps_if (PW.pt (pw_and (pt_cmpR op_eq (pe_op op_mod (pv 8) pe_int) pe_int (nomark _)) (pw_and1 (pt_not (pt_val (pe_dcall D_law_shown (hr.mono (by decide)) (by rfl) pass0 (pa_cons (pv 5) (pa_cons (pv 6) (pa_cons (pv 3) (pa_cons (pv 2) (pa_cons (pv 7) pa_nil))))))))))) (pss_one (ps_ret pe_bl)) pss_nil)))))))))
  (pss_one (ps_ret (pe_dcall D_law_shown (hr.mono (by decide)) (by rfl) pass0 (pa_cons (pv 5) (pa_cons (pv 6) (pa_cons (pv 3) (pa_cons (pv 2) (pa_cons (pv 7) pa_nil))))))))))))))), ?_⟩
    refine ⟨_, rfl, _, _, rfl, .inl hS, fun ts hts => ⟨szl rfl, fun tp htp => ?_⟩⟩
    have T0 : Tape (upd (upd H ts (.lst (ns.map V.int))) tp (.lst [.ref ts, .int 0, .int 0, .int 7])) tp ts :=
      ⟨ns, 0, 0, 7, upd_same, Same.new htp _ _ upd_same, by decide, by decide, by decide, by decide⟩
    have tst : tp ≠ ts := fun z => by rw [z, upd_same] at htp; cases htp
    generalize upd (upd H ts (.lst (ns.map V.int))) tp (.lst [.ref ts, .int 0, .int 0, .int 7]) = G0 at T0 ⊢
    walk_at "run"
    refine ⟨fun σ Hx => Hide (∃ m : Nat, 8 ≤ m ∧ m ≤ 20 ∧ σ = [some (.ref a0), some (.ref tp), some (.int (m : Int)), none, none, none, none, none, none, none, none, none, none] ∧ Tape Hx tp ts), ?_, ?_⟩
    · walk_at "run"
      refine ⟨tp, ts, _, rfl, by decide, by decide, T0, fun v H1 v0 v13 T1 c1 => ?_⟩
      obtain ⟨v, rfl⟩ := Int.eq_ofNat_of_zero_le v0
      have em : (8 : Int) + (v : Int) = ((8 + v : Nat) : Int) := by omega
      refine ⟨_, _, rfl, rfl, ?_⟩
      refine hide ⟨8 + v, by omega, by omega, ?_, T1⟩
      show [some (V.ref a0), some (.ref tp), some (V.int ((8 : Int) + (v : Int))), none, none, none, none, none, none, none, none, none, none] = _
      rw [em]
    rintro σ G1 hh
    obtain ⟨m, m8, m20, rfl, T1⟩ := hh.out
    clear hh T0 G0
    refine ⟨fun σ Hx => Hide (∃ (sp : Addr) (sh : List Nat), σ = [some (.ref a0), some (.ref tp), some (.int (m : Int)), some (.ref sp), none, none, none, none, none, none, none, none, none] ∧ Tape Hx tp ts ∧ NsL Hx sp sh ∧ sh.length = 4 ∧ sh.sum ≤ m ∧ tp ≠ sp), ?_, ?_⟩
    · walk_at "run"
      refine ⟨by decide, by decide, fun sp hsp => ?_⟩
      refine lc_range (lo := 0) (n := ((4 : Int) - 0).toNat) (fun i Hx => ∃ sh : List Nat, sh.length = i ∧ (∀ q ∈ sh, q ≤ m / 4) ∧ Hx sp = some (.lst (sh.map vN)) ∧ Tape Hx tp ts) ⟨[], rfl, fun q h => (by cases h), upd_same, T1.same (Same.new hsp)⟩ ?_ ?_
      · rintro i Hx hi ⟨sh, sl, sq, hx1, Tx⟩
        have hi4 : i < 4 := hi
        have spt : sp ≠ tp := T1.at hsp
        have sps : sp ≠ ts := T1.at2 hsp
        refine ⟨rfl, ?_⟩
        walk_at "run"
        have ed : (m : Int) / 4 = ((m / 4 : Nat) : Int) := by omega
        refine ⟨tp, ts, (1 : Int) + (m : Int) / 4, rfl, by omega, by omega, Tx, fun z H4 z0 z1 T4 c4 => ?_⟩
        obtain ⟨z, rfl⟩ := Int.eq_ofNat_of_zero_le z0
        refine ⟨_, c4 _ _ spt hx1, by rw [List.length_map]; exact szt (by omega), sh ++ [z], by rw [List.length_append, sl]; rfl, fun q hq => ?_, by rw [upd_same, List.map_append]; rfl, T4.upd spt sps⟩
        rcases List.mem_append.mp hq with y | y
        · exact sq q y
        · rw [List.mem_singleton.mp y]; omega
      · rintro Hx ⟨sh, sl, sq, hx1, Tx⟩
        have sl4 : sh.length = 4 := sl
        have := sum_le4 sq
        refine hide ⟨sp, sh, rfl, Tx, hx1, sl4, by rw [sl4] at this; omega, (T1.at hsp).symm⟩
    rintro σ G2 hh
    obtain ⟨sp, sh, rfl, T2, hsp, sl, ssum, tpsp⟩ := hh.out
    clear hh T1 G1
    refine ⟨fun σ Hx => Hide (∃ (x : Addr) (a' : FA), σ = [some (.ref a0), some (.ref tp), some (.int (m : Int)), some (.ref sp), none, some (.ref x), none, none, none, none, none, none, none] ∧ Tape Hx tp ts ∧ NsL Hx sp sh ∧ Fr C_Frames (fun z => z ∈ a'.own x) Hx x a' (initS m sh) ∧ ∀ z ∈ a'.own x, z ≠ tp ∧ z ≠ ts ∧ z ≠ sp), ?_, ?_⟩
    · have hsp' : G2 sp = some (.lst (sh.map vN)) := hsp
      walk_at "run"
      refine fun l2 hl2 => fun x dx hx hdx ne => ?_
      have s1 : Same G2 (upd (upd (upd G2 l2 (.lst (sh.map vN))) dx (.own x)) x (.ins C_Frames dx [])) := (Same.new hl2).trans ((Same.new hdx).trans (Same.new (by rw [upd_ne ne.symm]; exact hx)))
      have xn : G2 x = none := by
        cases y : G2 x with
        | none => rfl
        | some o => rw [(Same.new (o := .lst (sh.map vN)) hl2) _ _ y] at hx; cases hx
      have l2x : l2 ≠ x := fun y => by rw [← y, upd_same] at hx; cases hx
      have l2d : l2 ≠ dx := fun y => by rw [← y, upd_same] at hdx; cases hdx
      have hl3 : NsL (upd (upd (upd G2 l2 (.lst (sh.map vN))) dx (.own x)) x (.ins C_Frames dx [])) l2 sh := by
        show _ = _
        rw [upd_ne l2x, upd_ne l2d, upd_same]
      have hx3 : (upd (upd (upd G2 l2 (.lst (sh.map vN))) dx (.own x)) x (.ins C_Frames dx [])) x = some (.ins C_Frames dx []) := upd_same
      generalize upd (upd (upd G2 l2 (.lst (sh.map vN))) dx (.own x)) x (.ins C_Frames dx []) = G3 at s1 hl3 hx3 ⊢
      refine ⟨x, dx, l2, m, sh, rfl, hx3, hl3, sl, m8, by omega, ssum, fun a' H' fr c => ?_⟩
      obtain ⟨ns', i', r', z', hta, hts', _⟩ := id T2
      have tx : tp ≠ x := fun y => by rw [y, xn] at hta; cases hta
      have tsx : ts ≠ x := fun y => by rw [y, xn] at hts'; cases hts'
      have spx : sp ≠ x := fun y => by rw [y, xn] at hsp'; cases hsp'
      refine ⟨rfl, hide ⟨x, a', rfl, T2.keep2 (fun o h => c _ _ tx (s1 _ _ h)) (fun o h => c _ _ tsx (s1 _ _ h)), c _ _ spx (s1 _ _ hsp'), fr.mono fun z h => h, fun z hz => ?_⟩⟩
      rcases fr.mine z hz with y | y
      · rw [y]; exact ⟨tx.symm, tsx.symm, spx.symm⟩
      · refine ⟨fun w => ?_, fun w => ?_, fun w => ?_⟩
        · rw [w, s1 _ _ hta] at y; cases y
        · rw [w, s1 _ _ hts'] at y; cases y
        · rw [w, s1 _ _ hsp'] at y; cases y
    rintro σ G4 hh
    obtain ⟨x, a', rfl, T4, hsp4, fr4, hsep⟩ := hh.out
    clear hh T2 hsp G2
    walk_at "run"
    refine ⟨szl rfl, fun q1 hq1 => ?_⟩
    have sq1 : Same G4 (upd G4 q1 (.lst [])) := Same.new hq1
    have dq1 : (upd G4 q1 (.lst [])) q1 = some (.lst []) := upd_same
    generalize upd G4 q1 (.lst []) = Kq1 at sq1 dq1 ⊢
    refine ⟨szl rfl, fun q2 hq2 => ?_⟩
    have sq2 : Same Kq1 (upd Kq1 q2 (.lst [])) := Same.new hq2
    have dq2 : (upd Kq1 q2 (.lst [])) q2 = some (.lst []) := upd_same
    generalize upd Kq1 q2 (.lst []) = Kq2 at sq2 dq2 ⊢
    refine ⟨szl rfl, fun q3 hq3 => ?_⟩
    have sq3 : Same Kq2 (upd Kq2 q3 (.lst [])) := Same.new hq3
    have dq3 : (upd Kq2 q3 (.lst [])) q3 = some (.lst []) := upd_same
    generalize upd Kq2 q3 (.lst []) = Kq3 at sq3 dq3 ⊢
    refine ⟨szl rfl, fun q4 hq4 => ?_⟩
    have sq4 : Same Kq3 (upd Kq3 q4 (.lst [])) := Same.new hq4
    have dq4 : (upd Kq3 q4 (.lst [])) q4 = some (.lst []) := upd_same
    generalize upd Kq3 q4 (.lst []) = Kq4 at sq4 dq4 ⊢
    refine ⟨szl rfl, fun hd hhd => ?_⟩
    have shd : Same Kq4 (upd Kq4 hd (.lst [.ref q1, .ref q2, .ref q3, .ref q4])) := Same.new hhd
    have dhd : (upd Kq4 hd (.lst [.ref q1, .ref q2, .ref q3, .ref q4])) hd = some (.lst [.ref q1, .ref q2, .ref q3, .ref q4]) := upd_same
    generalize upd Kq4 hd (.lst [.ref q1, .ref q2, .ref q3, .ref q4]) = Khd at shd dhd ⊢
    refine fun rg hrg => ?_
    have srg : Same Khd (upd Khd rg (.dT [])) := Same.new hrg
    have drg : (upd Khd rg (.dT [])) rg = some (.dT []) := upd_same
    generalize upd Khd rg (.dT []) = Krg at srg drg ⊢
    refine fun of hof => ?_
    have sof : Same Krg (upd Krg of (.dT [])) := Same.new hof
    have dof : (upd Krg of (.dT [])) of = some (.dT []) := upd_same
    generalize upd Krg of (.dT []) = Kof at sof dof ⊢
    refine fun wn hwn => ?_
    have swn : Same Kof (upd Kof wn (.dK [])) := Same.new hwn
    have dwn : (upd Kof wn (.dK [])) wn = some (.dK []) := upd_same
    generalize upd Kof wn (.dK []) = Kwn at swn dwn ⊢
    refine ⟨szl rfl, fun bk hbk => ?_⟩
    have sbk : Same Kwn (upd Kwn bk (.tup [.ref hd, .ref rg, .ref of, .ref wn])) := Same.new hbk
    have dbk : (upd Kwn bk (.tup [.ref hd, .ref rg, .ref of, .ref wn])) bk = some (.tup [.ref hd, .ref rg, .ref of, .ref wn]) := upd_same
    generalize upd Kwn bk (.tup [.ref hd, .ref rg, .ref of, .ref wn]) = Kbk at sbk dbk ⊢
    walk_at "run"
    refine ⟨fun σ Hx => Hide (∃ (lp : Addr) (a1 : FA) (b : BA) (s : FS) (ls : List Addr), σ = [some (.ref a0), some (.ref tp), some (.int (m : Int)), some (.ref sp), none, some (.ref x), some (.ref bk), some (.ref lp), none, none, none, none, none] ∧ JJ C_Frames tp ts x sp lp bk m Hx a1 b s ls s.tk 0), ?_, ?_⟩
    · walk_at "run"
      refine ⟨szl rfl, fun p1 hp1 => ?_⟩
      have sp1 : Same Kbk (upd Kbk p1 (.lst [])) := Same.new hp1
      have dp1 : (upd Kbk p1 (.lst [])) p1 = some (.lst []) := upd_same
      generalize upd Kbk p1 (.lst []) = Kp1 at sp1 dp1 ⊢
      refine ⟨szl rfl, fun p2 hp2 => ?_⟩
      have sp2 : Same Kp1 (upd Kp1 p2 (.lst [])) := Same.new hp2
      have dp2 : (upd Kp1 p2 (.lst [])) p2 = some (.lst []) := upd_same
      generalize upd Kp1 p2 (.lst []) = Kp2 at sp2 dp2 ⊢
      refine ⟨szl rfl, fun p3 hp3 => ?_⟩
      have sp3 : Same Kp2 (upd Kp2 p3 (.lst [])) := Same.new hp3
      have dp3 : (upd Kp2 p3 (.lst [])) p3 = some (.lst []) := upd_same
      generalize upd Kp2 p3 (.lst []) = Kp3 at sp3 dp3 ⊢
      refine ⟨szl rfl, fun p4 hp4 => ?_⟩
      have sp4 : Same Kp3 (upd Kp3 p4 (.lst [])) := Same.new hp4
      have dp4 : (upd Kp3 p4 (.lst [])) p4 = some (.lst []) := upd_same
      generalize upd Kp3 p4 (.lst []) = Kp4 at sp4 dp4 ⊢
      refine ⟨szl rfl, fun lp hlp => ?_⟩
      have slp : Same Kp4 (upd Kp4 lp (.lst [.ref p1, .ref p2, .ref p3, .ref p4])) := Same.new hlp
      have dlp : (upd Kp4 lp (.lst [.ref p1, .ref p2, .ref p3, .ref p4])) lp = some (.lst [.ref p1, .ref p2, .ref p3, .ref p4]) := upd_same
      generalize upd Kp4 lp (.lst [.ref p1, .ref p2, .ref p3, .ref p4]) = Klp at slp dlp ⊢
      have S1 : Same G4 Kbk := ((((((((sq1).trans sq2).trans sq3).trans sq4).trans shd).trans srg).trans sof).trans swn).trans sbk
      have S2 : Same Kbk Klp := ((((sp1).trans sp2).trans sp3).trans sp4).trans slp
      have eq1 := (((((((((((((sq2).trans sq3).trans sq4).trans shd).trans srg).trans sof).trans swn).trans sbk).trans sp1).trans sp2).trans sp3).trans sp4).trans slp) _ _ dq1
      have eq2 := ((((((((((((sq3).trans sq4).trans shd).trans srg).trans sof).trans swn).trans sbk).trans sp1).trans sp2).trans sp3).trans sp4).trans slp) _ _ dq2
      have eq3 := (((((((((((sq4).trans shd).trans srg).trans sof).trans swn).trans sbk).trans sp1).trans sp2).trans sp3).trans sp4).trans slp) _ _ dq3
      have eq4 := ((((((((((shd).trans srg).trans sof).trans swn).trans sbk).trans sp1).trans sp2).trans sp3).trans sp4).trans slp) _ _ dq4
      have ehd := (((((((((srg).trans sof).trans swn).trans sbk).trans sp1).trans sp2).trans sp3).trans sp4).trans slp) _ _ dhd
      have erg := ((((((((sof).trans swn).trans sbk).trans sp1).trans sp2).trans sp3).trans sp4).trans slp) _ _ drg
      have eof := (((((((swn).trans sbk).trans sp1).trans sp2).trans sp3).trans sp4).trans slp) _ _ dof
      have ewn := ((((((sbk).trans sp1).trans sp2).trans sp3).trans sp4).trans slp) _ _ dwn
      have ebk := (((((sp1).trans sp2).trans sp3).trans sp4).trans slp) _ _ dbk
      have ep1 := ((((sp2).trans sp3).trans sp4).trans slp) _ _ dp1
      have ep2 := (((sp3).trans sp4).trans slp) _ _ dp2
      have ep3 := ((sp4).trans slp) _ _ dp3
      have ep4 := (slp) _ _ dp4
      have elp := (Same.refl _) _ _ dlp
      have nq1 : G4 q1 = none ∧ Kbk q1 ≠ none := ⟨hq1, by rw [((((((((sq2).trans sq3).trans sq4).trans shd).trans srg).trans sof).trans swn).trans sbk) _ _ dq1]; exact fun z => (by cases z)⟩
      have nq2 : G4 q2 = none ∧ Kbk q2 ≠ none := ⟨none_same (sq1) hq2, by rw [(((((((sq3).trans sq4).trans shd).trans srg).trans sof).trans swn).trans sbk) _ _ dq2]; exact fun z => (by cases z)⟩
      have nq3 : G4 q3 = none ∧ Kbk q3 ≠ none := ⟨none_same ((sq1).trans sq2) hq3, by rw [((((((sq4).trans shd).trans srg).trans sof).trans swn).trans sbk) _ _ dq3]; exact fun z => (by cases z)⟩
      have nq4 : G4 q4 = none ∧ Kbk q4 ≠ none := ⟨none_same (((sq1).trans sq2).trans sq3) hq4, by rw [(((((shd).trans srg).trans sof).trans swn).trans sbk) _ _ dq4]; exact fun z => (by cases z)⟩
      have nhd : G4 hd = none ∧ Kbk hd ≠ none := ⟨none_same ((((sq1).trans sq2).trans sq3).trans sq4) hhd, by rw [((((srg).trans sof).trans swn).trans sbk) _ _ dhd]; exact fun z => (by cases z)⟩
      have nrg : G4 rg = none ∧ Kbk rg ≠ none := ⟨none_same (((((sq1).trans sq2).trans sq3).trans sq4).trans shd) hrg, by rw [(((sof).trans swn).trans sbk) _ _ drg]; exact fun z => (by cases z)⟩
      have nof : G4 of = none ∧ Kbk of ≠ none := ⟨none_same ((((((sq1).trans sq2).trans sq3).trans sq4).trans shd).trans srg) hof, by rw [((swn).trans sbk) _ _ dof]; exact fun z => (by cases z)⟩
      have nwn : G4 wn = none ∧ Kbk wn ≠ none := ⟨none_same (((((((sq1).trans sq2).trans sq3).trans sq4).trans shd).trans srg).trans sof) hwn, by rw [(sbk) _ _ dwn]; exact fun z => (by cases z)⟩
      have nbk : G4 bk = none ∧ Kbk bk ≠ none := ⟨none_same ((((((((sq1).trans sq2).trans sq3).trans sq4).trans shd).trans srg).trans sof).trans swn) hbk, by rw [(Same.refl _) _ _ dbk]; exact fun z => (by cases z)⟩
      have np1 : Kbk p1 = none := hp1
      have np2 : Kbk p2 = none := none_same (sp1) hp2
      have np3 : Kbk p3 = none := none_same ((sp1).trans sp2) hp3
      have np4 : Kbk p4 = none := none_same (((sp1).trans sp2).trans sp3) hp4
      have nlp : Kbk lp = none := none_same ((((sp1).trans sp2).trans sp3).trans sp4) hlp
      have x01 : q1 ≠ q2 := ne_of_none ((Same.refl _) _ _ dq1) hq2
      have x02 : q1 ≠ q3 := ne_of_none ((sq2) _ _ dq1) hq3
      have x03 : q1 ≠ q4 := ne_of_none (((sq2).trans sq3) _ _ dq1) hq4
      have x04 : q1 ≠ hd := ne_of_none ((((sq2).trans sq3).trans sq4) _ _ dq1) hhd
      have x12 : q2 ≠ q3 := ne_of_none ((Same.refl _) _ _ dq2) hq3
      have x13 : q2 ≠ q4 := ne_of_none ((sq3) _ _ dq2) hq4
      have x14 : q2 ≠ hd := ne_of_none (((sq3).trans sq4) _ _ dq2) hhd
      have x23 : q3 ≠ q4 := ne_of_none ((Same.refl _) _ _ dq3) hq4
      have x24 : q3 ≠ hd := ne_of_none ((sq4) _ _ dq3) hhd
      have x34 : q4 ≠ hd := ne_of_none ((Same.refl _) _ _ dq4) hhd
      have y0 : p1 ≠ lp := ne_of_none ((((sp2).trans sp3).trans sp4) _ _ dp1) hlp
      have y1 : p2 ≠ lp := ne_of_none (((sp3).trans sp4) _ _ dp2) hlp
      have y2 : p3 ≠ lp := ne_of_none ((sp4) _ _ dp3) hlp
      have y3 : p4 ≠ lp := ne_of_none ((Same.refl _) _ _ dp4) hlp
      have xrg : rg ≠ of := ne_of_none ((Same.refl _) _ _ drg) hof
      refine hide ⟨lp, a', ⟨bk, hd, rg, of, wn, [q1, q2, q3, q4], fun _ => none⟩, initS m sh, [p1, p2, p3, p4], rfl, mkJJ T4 hsp4 fr4 hsep sl ssum tpsp S1 S2 ebk ehd erg eof ewn (fun z hz => ?_) (fun z hz => ?_) elp (fun z hz => ?_) (fun z hz => ?_) ?_ ?_ xrg⟩
      · simp only [List.mem_cons, List.not_mem_nil, or_false] at hz
        rcases hz with rfl | rfl | rfl | rfl <;> assumption
      · simp only [List.mem_cons, List.not_mem_nil, or_false] at hz
        rcases hz with rfl | rfl | rfl | rfl <;> assumption
      · simp only [List.mem_cons, List.not_mem_nil, or_false] at hz
        rcases hz with rfl | rfl | rfl | rfl | rfl | rfl | rfl | rfl | rfl <;> assumption
      · simp only [List.mem_cons, List.not_mem_nil, or_false] at hz
        rcases hz with rfl | rfl | rfl | rfl | rfl <;> assumption
      · simp only [List.nodup_cons, List.mem_cons, List.not_mem_nil, or_false, not_or]
        exact ⟨⟨x01, x02, x03, x04⟩, ⟨x12, x13, x14⟩, ⟨x23, x24⟩, x34, fun z => z, List.nodup_nil⟩
      · simp only [List.mem_cons, List.not_mem_nil, or_false, not_or]
        exact ⟨y0.symm, y1.symm, y2.symm, y3.symm⟩
    rintro σ G5 hh
    obtain ⟨lp, a1, b, s, ls, rfl, j0⟩ := hh.out
    clear hh
    clear dbk sbk dwn swn dof sof drg srg dhd shd dq4 sq4 dq3 sq3 dq2 sq2 dq1 sq1 hbk hwn hof hrg hhd hq4 hq3 hq2 hq1 T4 hsp4 fr4 hsep
    walk_at "run"
    refine ⟨szl rfl, fun q1 hq1 => ?_⟩
    have jq := j0.same (Same.new (o := .lst [.int 30, .int 30, .int 91]) hq1)
    have q1t := j0.tape.at hq1
    clear j0
    walk_at "run"
    refine ⟨tp, ts, _, rfl, by decide, by decide, jq.tape, fun b3 H8 b0 b1 t8 c8 => ?_⟩
    have j8 := jq.keep t8 c8
    have hq8 := c8 q1 _ q1t upd_same
    have hb : b3 = 0 ∨ b3 = 1 ∨ b3 = 2 := by omega
    obtain ⟨c, hc, c0, c91⟩ : ∃ c : Int, ([V.int 30, V.int 30, V.int 91])[b3.toNat]? = some (.int c) ∧ 0 < c ∧ c ≤ 91 := by
      rcases hb with rfl | rfl | rfl
      · exact ⟨30, rfl, by decide, by decide⟩
      · exact ⟨30, rfl, by decide, by decide⟩
      · exact ⟨91, rfl, by decide, by decide⟩
    walk_at "run"
    refine ⟨q1, _, b3, .int c, rfl, rfl, SqL.of hq8, atC b3.toNat (by omega) hc, ?_⟩
    walk_at "run"
    refine ⟨tp, ts, c, rfl, c0, by omega, j8.tape, fun n H9 n0 n1 t9 c9 => ?_⟩
    have j9 := j8.keep t9 c9
    obtain ⟨n, rfl⟩ := Int.eq_ofNat_of_zero_le n0
    clear jq j8 t8 c8 hq8 hq1 t9 c9
    walk_at "run"
    refine ⟨by omega, by omega, ?_⟩
    refine for_range (fun i σ Hx => Hide (∃ (a : FA) (b : BA) (s : FS) (ls : List Addr) (o8 o9 o10 o11 : Option V), σ = [some (.ref a0), some (.ref tp), some (.int (m : Int)), some (.ref sp), none, some (.ref x), some (.ref bk), some (.ref lp), o8, o9, o10, o11, none] ∧ JJ C_Frames tp ts x sp lp bk m Hx a b s ls s.tk i)) ?_ ?_ ?_
    · exact hide ⟨a1, b, s, ls, none, none, none, none, rfl, j9⟩
    · rintro i σ G hi hh
      obtain ⟨a, b, s, ls, o8, o9, o10, o11, rfl, j⟩ := hh.out
      have i91 : i < 91 := by omega
      clear hh j9
      walk_at "run"
      refine ⟨tp, ts, m, rfl, m8, by omega, j.tape, fun p d H1 dok hd hp t1 c1 => ?_⟩
      have j1 := j.keep t1 c1
      have pF : p ∉ a.own x := fun q => j.fr.al p q hp
      have pB : ¬ bkS b p := fun q => j.alB p q hp
      have pR : ¬ rsS tp ts sp lp ls p := fun q => j.alR p q hp
      walk_at "run"
      refine ⟨b, p, sp, s, i, d, by rw [j.eb, j.sm]; rfl, hd, by rw [j.sm]; exact dok, j1.bh, j1.bw, j1.hsp, fun q => j.bo _ q (.inr (.inr (.inl rfl))), j1.fr.ok, j1.good, by omega, fun v wi' U H2 nx B2 W2 rv fv hw c2 => ?_⟩
      have dok' : d.ok s.m := by rw [j.sm]; exact dok
      have hd2 : H2 p = some (.tup d.vals) := c2 _ _ pB hd
      have fr2 : Fr C_Frames (fun z => z ∈ a.own x) H2 x a s := j1.fr.chg fun z hz o h => c2 _ _ (j1.fo z hz).1 h
      walk_at "run"
      refine ⟨fun σ Hx => Hide (∃ (a2 : FA) (b2 : BA) (s2 : FS) (U2 : V), σ = [some (.ref a0), some (.ref tp), some (.int (m : Int)), some (.ref sp), none, some (.ref x), some (.ref bk), some (.ref lp), some (.int (0 + (i : Int))), some (.ref p), some U, some U2, none] ∧ JJ C_Frames tp ts x sp lp bk m Hx a2 b2 s2 ls s.tk (i + 1) ∧ Hx p = some (.tup d.vals) ∧ (p ∉ a2.own x ∧ ¬ bkS b2 p ∧ ¬ rsS tp ts sp lp ls p) ∧ RV Hx U (resV s d) ∧ RV Hx U2 (resV s d) ∧ s2.tk = tkV s d ∧ (∀ f, resV s d = .int f → f < m ∧ s2.wd.getD f [] = List.replicate 8 0) ∧ (∀ q, U = .ref q → q ∉ a2.own x ∧ ¬ bkS b2 q ∧ ¬ rsS tp ts sp lp ls q)), ?_, ?_⟩
      · walk_at "run"
        refine ⟨x, p, a, s, i, d, rfl, hd2, dok', fr2, j.good, j.ob, by omega, j.tz, fun a2 s2 U2 H3 fr3 nx2 em es ob2 etk ewd rv2 fv2 c3 => ?_⟩
        have ev := nx.uniq nx2
        subst ev
        have good2 := j.good.next j.fr.ok dok' nx2 em es
        have j3 := j1.step B2 W2 (fun k i' hk hi => (hw k i' hk hi).imp id And.left) c2 fr3 good2 ob2 em es (fun e => by rw [etk]; exact tkV_len j.good j.fr.ok dok' j.tz e) c3
        have al1 : ∀ z ∈ a.own x, H1 z ≠ none := j1.fr.al
        have p3 := outs fr3 pF pB (fun k hk hi => by
          rcases hw k p hk hi with y | ⟨y, _⟩
          · exact y
          · rw [hd] at y; cases y) (by rw [hd2]; exact fun z => by cases z)
        refine hide ⟨a2, _, s2, U2, rfl, j3, c3 _ _ pF hd2, ⟨p3.1, p3.2, pR⟩, rv.keep fun q eq o h => c3 _ _ (fun y => al1 q y (fv q eq)) h, rv2, etk, fun f hf => by
          obtain ⟨w1, w2⟩ := ewd f hf
          exact ⟨by rw [← j.sm]; exact w1, w2⟩, fun q eq => ?_⟩
        have q2 : H2 q ≠ none := fun y => by
          subst eq
          cases e : resV s d with
          | lst l =>
            rw [e] at rv
            obtain ⟨q', eq, hq⟩ := rv
            cases eq
            rw [show H2 q = _ from hq] at y; cases y
          | non => rw [e] at rv; cases rv
          | int f => rw [e] at rv; cases rv
          | bl c => rw [e] at rv; cases rv
        obtain ⟨o1, o2⟩ := outs (b := b) (wi' := wi') fr3 (fun y => al1 q y (fv q eq)) (fun y => j1.alB q y (fv q eq)) (fun k hk hi => by
          rcases hw k q hk hi with y | ⟨_, y⟩
          · exact y
          · rw [eq] at y; cases y) q2
        exact ⟨o1, o2, fun y => j1.alR q y (fv q eq)⟩
      rintro σ H3 hh
      obtain ⟨a2, b2, s2, U2, rfl, j3, hp3, ⟨pF3, pB3, pR3⟩, rvU, rvU2, etk, ewd, outU⟩ := hh.out
      clear hh hd2 fr2 pF pB hw fv rv c2 nx B2 W2 j1 hd hp t1 c1
      refine ⟨fun σ Hx => Hide (σ = [some (.ref a0), some (.ref tp), some (.int (m : Int)), some (.ref sp), none, some (.ref x), some (.ref bk), some (.ref lp), some (.int (0 + (i : Int))), some (.ref p), some U, some U2, none] ∧ Same H3 Hx), ?_, ?_⟩
      · walk_at "run"
        refine ne_res rvU2 rvU ⟨_, rfl, iteF ?_⟩
        walk_at "run"
        cases d with
        | take e =>
          have hp4 : H3 p = some (.tup [.str "take", .int (e : Int), .int 0, .int 0, .int 0]) := hp3
          walk_at "run"
          refine ⟨szl rfl, fun q hq => ?_⟩
          refine ⟨q, _, rfl, .inr (SqT.of upd_same), rfl, rfl, _, rfl, ?_⟩
          refine iteF ?_
          exact hide ⟨rfl, Same.new hq⟩
        | offer e g o c =>
          have hp4 : H3 p = some (.tup [.str "offer", .int (e : Int), .int (g : Int), .int (o : Int), rV c]) := hp3
          walk_at "run"
          refine ⟨szl rfl, fun q hq => ?_⟩
          refine ⟨q, _, rfl, .inr (SqT.of upd_same), rfl, rfl, _, rfl, ?_⟩
          refine iteT ?_
          have e2 : U2 = .bl _ := rvU2
          subst e2
          walk_at "run"
          refine ⟨_, _, _, _, _, rfl, .ty _, (Dt.bl _).ty, kit_ty (kitBool (.bool _)), _, rfl, iteF ?_⟩
          exact hide ⟨rfl, Same.new hq⟩
        | accept e g o c =>
          have hp4 : H3 p = some (.tup [.str "accept", .int (e : Int), .int (g : Int), .int (o : Int), rV c]) := hp3
          walk_at "run"
          refine ⟨szl rfl, fun q hq => ?_⟩
          refine ⟨q, _, rfl, .inr (SqT.of upd_same), rfl, rfl, _, rfl, ?_⟩
          refine iteT ?_
          have e2 : U2 = .bl _ := rvU2
          subst e2
          walk_at "run"
          refine ⟨_, _, _, _, _, rfl, .ty _, (Dt.bl _).ty, kit_ty (kitBool (.bool _)), _, rfl, iteF ?_⟩
          exact hide ⟨rfl, Same.new hq⟩
        | drop e g o c =>
          have hp4 : H3 p = some (.tup [.str "drop", .int (e : Int), .int (g : Int), .int (o : Int), rV c]) := hp3
          walk_at "run"
          refine ⟨szl rfl, fun q hq => ?_⟩
          refine ⟨q, _, rfl, .inr (SqT.of upd_same), rfl, rfl, _, rfl, ?_⟩
          refine iteT ?_
          have e2 : U2 = .bl _ := rvU2
          subst e2
          walk_at "run"
          refine ⟨_, _, _, _, _, rfl, .ty _, (Dt.bl _).ty, kit_ty (kitBool (.bool _)), _, rfl, iteF ?_⟩
          exact hide ⟨rfl, Same.new hq⟩
        | narrow e g o c =>
          have hp4 : H3 p = some (.tup [.str "narrow", .int (e : Int), .int (g : Int), .int (o : Int), rV c]) := hp3
          walk_at "run"
          refine ⟨szl rfl, fun q hq => ?_⟩
          refine ⟨q, _, rfl, .inr (SqT.of upd_same), rfl, rfl, _, rfl, ?_⟩
          refine iteT ?_
          have e2 : U2 = .bl _ := rvU2
          subst e2
          walk_at "run"
          refine ⟨_, _, _, _, _, rfl, .ty _, (Dt.bl _).ty, kit_ty (kitBool (.bool _)), _, rfl, iteF ?_⟩
          exact hide ⟨rfl, Same.new hq⟩
        | slot e g o w =>
          have hp4 : H3 p = some (.tup [.str "slot", .int (e : Int), .int (g : Int), .int (o : Int), w]) := hp3
          walk_at "run"
          refine ⟨szl rfl, fun q hq => ?_⟩
          refine ⟨q, _, rfl, .inr (SqT.of upd_same), rfl, rfl, _, rfl, ?_⟩
          refine iteF ?_
          exact hide ⟨rfl, Same.new hq⟩
        | ask e n1 =>
          have hp4 : H3 p = some (.tup [.str "ask", .int (e : Int), .int 0, .int 0, .int (n1 : Int)]) := hp3
          walk_at "run"
          refine ⟨szl rfl, fun q hq => ?_⟩
          refine ⟨q, _, rfl, .inr (SqT.of upd_same), rfl, rfl, _, rfl, ?_⟩
          refine iteF ?_
          exact hide ⟨rfl, Same.new hq⟩
      rintro σ H4 hh
      obtain ⟨rfl, s4⟩ := hh.out
      clear hh
      have j4 := j3.same s4
      have hp4 := s4 _ _ hp3
      have rvU4 := rvU.keep (H' := H4) fun q _ o h => s4 _ _ h
      clear j3 hp3 rvU rvU2 s4
      have cU : ∀ (Hx : Hp) (s3 : FS), JJ C_Frames tp ts x sp lp bk m Hx a2 b2 s3 ls s.tk (i + 1) → True := fun _ _ _ => trivial
      refine ⟨fun σ Hx => Hide (σ = [some (.ref a0), some (.ref tp), some (.int (m : Int)), some (.ref sp), none, some (.ref x), some (.ref bk), some (.ref lp), some (.int (0 + (i : Int))), some (.ref p), some U, some U2, none] ∧ ∃ s3 : FS, JJ C_Frames tp ts x sp lp bk m Hx a2 b2 s3 ls s.tk (i + 1) ∧ s3.tk = tkV s d ∧ Hx p = some (.tup d.vals) ∧ RV Hx U (resV s d)), ?_, ?_⟩
      · cases d with
        | offer e g o c =>
          have hp5 : H4 p = some (.tup [.str "offer", .int (e : Int), .int (g : Int), .int (o : Int), rV c]) := hp4
          walk_at "run"
          exact hide ⟨rfl, s2, j4, etk, hp4, rvU4⟩
        | accept e g o c =>
          have hp5 : H4 p = some (.tup [.str "accept", .int (e : Int), .int (g : Int), .int (o : Int), rV c]) := hp4
          walk_at "run"
          exact hide ⟨rfl, s2, j4, etk, hp4, rvU4⟩
        | drop e g o c =>
          have hp5 : H4 p = some (.tup [.str "drop", .int (e : Int), .int (g : Int), .int (o : Int), rV c]) := hp4
          walk_at "run"
          exact hide ⟨rfl, s2, j4, etk, hp4, rvU4⟩
        | narrow e g o c =>
          have hp5 : H4 p = some (.tup [.str "narrow", .int (e : Int), .int (g : Int), .int (o : Int), rV c]) := hp4
          walk_at "run"
          exact hide ⟨rfl, s2, j4, etk, hp4, rvU4⟩
        | slot e g o w =>
          have hp5 : H4 p = some (.tup [.str "slot", .int (e : Int), .int (g : Int), .int (o : Int), w]) := hp4
          walk_at "run"
          exact hide ⟨rfl, s2, j4, etk, hp4, rvU4⟩
        | ask e n1 =>
          have hp5 : H4 p = some (.tup [.str "ask", .int (e : Int), .int 0, .int 0, .int (n1 : Int)]) := hp4
          walk_at "run"
          exact hide ⟨rfl, s2, j4, etk, hp4, rvU4⟩
        | take e =>
          have hp5 : H4 p = some (.tup [.str "take", .int (e : Int), .int 0, .int 0, .int 0]) := hp4
          walk_at "run"
          have rvK := rvU4
          have j4f := j4.fr.ins
          cases hr : resV s (.take e) with
          | non =>
            rw [hr] at rvU4
            have eU : U = .non := rvU4
            subst eU
            refine iteF ?_
            exact hide ⟨rfl, s2, j4, etk, hp4, rfl⟩
          | bl c => rw [hr] at rvU4; have eU : U = .bl c := rvU4; exact absurd hr (by
              show (if moreOf s (eD e) = true then _ else _) ≠ _
              split
              · split <;> (intro z; cases z)
              · intro z; cases z)
          | lst l => exact absurd hr (by
              show (if moreOf s (eD e) = true then _ else _) ≠ _
              split
              · split <;> (intro z; cases z)
              · intro z; cases z)
          | int g =>
            rw [hr] at rvU4
            have eU : U = .int (g : Int) := rvU4
            subst eU
            obtain ⟨gm, gw⟩ := ewd g hr
            have gm' : g < s2.m := by rw [j4.sm]; exact gm
            refine iteT ?_
            walk_at "ro"
            refine ⟨by decide, by decide, fun D hD => ?_⟩
            refine lcR (lo := 0) (n := ((8 : Int) - 0).toNat) ((List.replicate 8 0).map vN) rfl (by decide) hD ?_ ?_
            · intro jj y K1 Q' hy sk q
              have hj8 : jj < 8 := by
                have := (List.getElem?_eq_some_iff.mp hy).1
                rw [List.length_map, List.length_replicate] at this
                exact this
              have ey : y = .int ((0 : Nat) : Int) := by
                obtain ⟨h1, h2⟩ := List.getElem?_eq_some_iff.mp hy
                rw [← h2, List.getElem_map, List.getElem_replicate]; rfl
              subst ey
              have hki := sk _ _ j4f
              refine ⟨rfl, ?_⟩
              walk_at "ro"
              refine ⟨_, x, a2, s2, g, jj, 0, by rw [Int.zero_add]; rfl, j4.fr.same sk, gm', hj8, by rw [gw]; exact List.getElem?_replicate_of_lt hj8, ?_⟩
              exact q K1 (Same.refl _)
            · intro K1 sk dk
              walk_at "ro"
              refine ⟨szl rfl, fun q1 hq1 => ?_⟩
              walk_at "ro"
              refine ⟨_, _, _, rfl, rfl, upd_same, by decide, by decide, by decide, fun q2 hq2 => ?_⟩
              have s2q := (Same.new (o := .lst [V.int 0]) hq1).trans (Same.new (o := .lst (List.replicate (Int.toNat 8) [V.int 0]).flatten) hq2)
              have nq : NsL (upd (upd K1 q1 (.lst [V.int 0])) q2 (.lst (List.replicate (Int.toNat 8) [V.int 0]).flatten)) q2 (List.replicate 8 0) := upd_same
              refine ne_nats (ns := List.replicate 8 0) (s2q _ _ dk) nq ⟨_, rfl, iteF ?_⟩
              have j5 := j4.same (sk.trans s2q)
              have hp6 := (sk.trans s2q) _ _ hp4
              generalize upd (upd K1 q1 (.lst [V.int 0])) q2 (.lst (List.replicate (Int.toNat 8) [V.int 0]).flatten) = K3 at s2q nq j5 hp6 ⊢
              have j5f := j5.fr.ins
              walk_at "ro"
              refine ⟨tp, ts, _, rfl, by decide, by decide, j5.tape, fun v1 K4 v10 v18 t4 c4 => ?_⟩
              obtain ⟨v1, rfl⟩ := Int.eq_ofNat_of_zero_le v10
              have j6 := j5.keep t4 c4
              have ptp : p ≠ tp := fun y => pR3 (.inl y)
              walk_at "ro"
              refine ⟨tp, ts, _, rfl, by decide, by decide, j6.tape, fun v2 K5 v20 v29 t5 c5 => ?_⟩
              obtain ⟨v2, rfl⟩ := Int.eq_ofNat_of_zero_le v20
              have j7 := j6.keep t5 c5
              have j7f := j7.fr.ins
              have ew : (1 : Int) + (v2 : Int) = ((1 + v2 : Nat) : Int) := by omega
              walk_at "ro"
              refine ⟨_, x, a2, s2, g, v1, 1 + v2, by rw [← ew]; rfl, j7.fr, gm', by omega, by rw [gw, List.length_replicate], by omega, fun K6 fr6 c6 => ?_⟩
              exact hide ⟨rfl, wordS s2 g v1 (1 + v2), j7.words (n' := 0) fr6 ⟨rfl, rfl, rfl, rfl, rfl, rfl, rfl⟩ c6, etk, c6 _ _ pF3 (c5 _ _ ptp (c4 _ _ ptp hp6)), rfl⟩
      rintro σ H5 hh
      obtain ⟨rfl, s3, j5, etk5, hp5, rvU5⟩ := hh.out
      clear hh j4 hp4 rvU4
      refine ⟨fun σ Hx => Hide (σ = [some (.ref a0), some (.ref tp), some (.int (m : Int)), some (.ref sp), none, some (.ref x), some (.ref bk), some (.ref lp), some (.int (0 + (i : Int))), some (.ref p), some U, some U2, none] ∧ ∃ (ls' : List Addr), JJ C_Frames tp ts x sp lp bk m Hx a2 b2 s3 ls' s3.tk (i + 1)), ?_, ?_⟩
      · cases d with
        | take e =>
          have hp6 : H5 p = some (.tup [.str "take", .int (e : Int), .int 0, .int 0, .int 0]) := hp5
          have etk6 : s3.tk = s.tk := etk5
          walk_at "run"
          exact hide ⟨rfl, ls, by rw [etk6]; exact j5⟩
        | offer e g o c =>
          have hp6 : H5 p = some (.tup [.str "offer", .int (e : Int), .int (g : Int), .int (o : Int), rV c]) := hp5
          have etk6 : s3.tk = s.tk := etk5
          walk_at "run"
          exact hide ⟨rfl, ls, by rw [etk6]; exact j5⟩
        | accept e g o c =>
          have hp6 : H5 p = some (.tup [.str "accept", .int (e : Int), .int (g : Int), .int (o : Int), rV c]) := hp5
          have etk6 : s3.tk = s.tk := etk5
          walk_at "run"
          exact hide ⟨rfl, ls, by rw [etk6]; exact j5⟩
        | drop e g o c =>
          have hp6 : H5 p = some (.tup [.str "drop", .int (e : Int), .int (g : Int), .int (o : Int), rV c]) := hp5
          have etk6 : s3.tk = s.tk := etk5
          walk_at "run"
          exact hide ⟨rfl, ls, by rw [etk6]; exact j5⟩
        | narrow e g o c =>
          have hp6 : H5 p = some (.tup [.str "narrow", .int (e : Int), .int (g : Int), .int (o : Int), rV c]) := hp5
          have etk6 : s3.tk = s.tk := etk5
          walk_at "run"
          exact hide ⟨rfl, ls, by rw [etk6]; exact j5⟩
        | ask e n1 =>
          have hp6 : H5 p = some (.tup [.str "ask", .int (e : Int), .int 0, .int 0, .int (n1 : Int)]) := hp5
          have etk6 : s3.tk = s.tk := etk5
          walk_at "run"
          exact hide ⟨rfl, ls, by rw [etk6]; exact j5⟩
        | slot e g o w =>
          have hp6 : H5 p = some (.tup [.str "slot", .int (e : Int), .int (g : Int), .int (o : Int), w]) := hp5
          walk_at "run"
          have e4 : e < 4 := dok'.1
          have le : e < ls.length := by rw [j5.hls.1]; have := j.fr.ok.tk4; omega
          have lt : e < s.tk.length := by have := j.fr.ok.tk4; omega
          obtain ⟨dl, hdl, hkl⟩ := j5.hls.at (List.getElem?_eq_getElem lt)
          have egl : s.tk.getD e [] = s.tk[e] := by rw [List.getD_eq_getElem?_getD, List.getElem?_eq_getElem lt]; rfl
          have hkl : H5 dl = some (.lst (s.tk[e].map vN)) := hkl
          obtain ⟨qd, eU, hqd⟩ := (show ∃ p, U = .ref p ∧ NsL H5 p (if s.wt.getD e 0 = 1 then newsOf s e else []) from rvU5)
          subst eU
          have hqd : H5 qd = some (.lst ((if s.wt.getD e 0 = 1 then newsOf s e else []).map vN)) := hqd
          refine ⟨lp, _, _, _, rfl, rfl, SqL.of j5.hlp, atC e rfl (by rw [List.getElem?_map, hdl]; rfl), ?_⟩
          have z1 := j.tz e
          have z2 : (if s.wt.getD e 0 = 1 then newsOf s e else []).length ≤ 64 := by
            split
            · have := news_len s e
              have := j.good.len e
              have := j.fr.ok.m64
              omega
            · exact Nat.zero_le _
          walk_at "ro"
          refine ⟨dl, qd, _, _, rfl, rfl, hkl, hqd, by rw [List.length_map, List.length_map, ← egl]; exact szn (by omega), fun z hz => ?_⟩
          rw [← List.map_append]
          have sz := Same.new (o := .lst ((s.tk[e] ++ (if s.wt.getD e 0 = 1 then newsOf s e else [])).map vN)) hz
          have j6 := j5.same sz
          have nz : NsL (upd H5 z (.lst ((s.tk[e] ++ (if s.wt.getD e 0 = 1 then newsOf s e else [])).map vN))) z (s.tk[e] ++ (if s.wt.getD e 0 = 1 then newsOf s e else [])) := upd_same
          have hp7 := sz _ _ hp6
          have hl7 := j6.hlp
          walk_at "ro"
          refine ⟨_, _, _, e, rfl, rfl, hl7, ixC e rfl (by rw [List.length_map]; exact le), ?_⟩
          have els : (ls.map V.ref).set e (.ref z) = (ls.set e z).map V.ref := by rw [List.map_set]
          rw [els]
          have j7 := j6.lost le nz (fun y => j5.fr.al z y hz) (fun y => j5.alB z y hz) (fun y => j5.alR z y hz)
          have et : s3.tk = s.tk.set e (s.tk[e] ++ (if s.wt.getD e 0 = 1 then newsOf s e else [])) := by
            rw [etk5, ← egl]; rfl
          exact hide ⟨rfl, ls.set e z, by rw [et]; exact j7⟩
      rintro σ H6 hh
      obtain ⟨rfl, ls', j6⟩ := hh.out
      clear hh j5 hp5 rvU5
      have fin : ∀ Hx, Same H6 Hx → ∃ (a : FA) (b : BA) (s : FS) (ls : List Addr) (o8 o9 o10 o11 : Option V), [some (.ref a0), some (.ref tp), some (.int (m : Int)), some (.ref sp), none, some (.ref x), some (.ref bk), some (.ref lp), some (.int (0 + (i : Int))), some (.ref p), some U, some U2, none] = [some (.ref a0), some (.ref tp), some (.int (m : Int)), some (.ref sp), none, some (.ref x), some (.ref bk), some (.ref lp), o8, o9, o10, o11, none] ∧ JJ C_Frames tp ts x sp lp bk m Hx a b s ls s.tk (i + 1) := fun Hx sx => ⟨a2, b2, s3, ls', _, _, _, _, rfl, j6.same sx⟩
      walk_at "run"
      refine iteD (fun q => ?_) (fun q => ?_)
      · walk_at "run"
        refine ⟨_, x, sp, lp, a2, b2, s3, _, ls', by rw [j6.eb, j6.sm]; rfl, j6.fr, j6.good, j6.bh, j6.bw, j6.hsp, j6.hlp, j6.hls, fun H7 s7 => ?_⟩
        refine ⟨_, rfl, iteF ?_⟩
        exact hide (fin _ s7)
      · exact hide (fin _ (Same.refl _))
    · rintro σ Hx hh
      obtain ⟨a, b, s, ls, o8, o9, o10, o11, rfl, j⟩ := hh.out
      walk_at "run"
      refine ⟨_, x, sp, lp, a, b, s, _, ls, by rw [j.eb, j.sm]; rfl, j.fr, j.good, j.bh, j.bw, j.hsp, j.hlp, j.hls, fun H' _ => k H'⟩
end
end My

namespace My
open PySem L2
/-! ### what the top has written, and the end -/
/-- an error of the class at S is what an except of S names -/
theorem exm_self {K : PySem.W.Frag} {S : Addr} (h1 : PySem.W.subIn K (.ref S) (.type "BaseException") = some true) (h2 : PySem.W.isClsIn K S = true) (h3 : PySem.W.typeIn K (.ref S) = some (.type "type")) (h4 : PySem.W.subIn K (.ref S) (.ref S) = some true) : PySem.W.exmOne K (.ref S) (.ref S) = some true := by
  have e1 : (PySem.W.subIn K (.ref S) (.type "BaseException") == some true) = true := by rw [h1] <;> rfl
  have e2 : ((PySem.W.clsIn K S).isSome && PySem.W.typeIn K (.ref S) == some (.type "type")) = true := by
    have h2' : (PySem.W.clsIn K S).isSome = true := h2
    rw [h2', h3] <;> rfl
  unfold PySem.W.exmOne PySem.W.kitCls
  refine (if_pos e1).trans ((if_pos e2).trans ?_)
  exact h4
theorem all_mk {l : PySem.W.OpenLaw} {w : World} {K : PySem.W.Frag} {h : Heap} {mg : Str → Option Value} {fa : Addr} (X : K.In h) (G : h.Ns mainGlobals mg) (hfa : mg "law" = some (.ref fa))
    {C_Frames C_NotValid : Addr}
    {f_law_next : Addr} {od_law_next an_law_next : Option Addr} {sl_law_next : Array (Option Value)} {oc_law_next kV_law_next dc_law_next pm_law_next cd_law_next ct_law_next : Value}
    {f_is_at_least : Addr} {od_is_at_least an_is_at_least : Option Addr} {sl_is_at_least : Array (Option Value)} {oc_is_at_least kV_is_at_least dc_is_at_least pm_is_at_least cd_is_at_least ct_is_at_least : Value}
    {f_is_between : Addr} {od_is_between an_is_between : Option Addr} {sl_is_between : Array (Option Value)} {oc_is_between kV_is_between dc_is_between pm_is_between cd_is_between ct_is_between : Value}
    {f_is_index : Addr} {od_is_index an_is_index : Option Addr} {sl_is_index : Array (Option Value)} {oc_is_index kV_is_index dc_is_index pm_is_index cd_is_index ct_is_index : Value}
    {f_is_environment : Addr} {od_is_environment an_is_environment : Option Addr} {sl_is_environment : Array (Option Value)} {oc_is_environment kV_is_environment dc_is_environment pm_is_environment cd_is_environment ct_is_environment : Value}
    {f_Frames_is_frame : Addr} {od_Frames_is_frame an_Frames_is_frame : Option Addr} {sl_Frames_is_frame : Array (Option Value)} {oc_Frames_is_frame kV_Frames_is_frame dc_Frames_is_frame pm_Frames_is_frame cd_Frames_is_frame ct_Frames_is_frame : Value}
    {f_Frames_right : Addr} {od_Frames_right an_Frames_right : Option Addr} {sl_Frames_right : Array (Option Value)} {oc_Frames_right kV_Frames_right dc_Frames_right pm_Frames_right cd_Frames_right ct_Frames_right : Value}
    {f_Frames_holdings : Addr} {od_Frames_holdings an_Frames_holdings : Option Addr} {sl_Frames_holdings : Array (Option Value)} {oc_Frames_holdings kV_Frames_holdings dc_Frames_holdings pm_Frames_holdings cd_Frames_holdings ct_Frames_holdings : Value}
    {f_Frames_share : Addr} {od_Frames_share an_Frames_share : Option Addr} {sl_Frames_share : Array (Option Value)} {oc_Frames_share kV_Frames_share dc_Frames_share pm_Frames_share cd_Frames_share ct_Frames_share : Value}
    {f_Frames_asked : Addr} {od_Frames_asked an_Frames_asked : Option Addr} {sl_Frames_asked : Array (Option Value)} {oc_Frames_asked kV_Frames_asked dc_Frames_asked pm_Frames_asked cd_Frames_asked ct_Frames_asked : Value}
    {f_Frames_charge : Addr} {od_Frames_charge an_Frames_charge : Option Addr} {sl_Frames_charge : Array (Option Value)} {oc_Frames_charge kV_Frames_charge dc_Frames_charge pm_Frames_charge cd_Frames_charge ct_Frames_charge : Value}
    {f_Frames_taken : Addr} {od_Frames_taken an_Frames_taken : Option Addr} {sl_Frames_taken : Array (Option Value)} {oc_Frames_taken kV_Frames_taken dc_Frames_taken pm_Frames_taken cd_Frames_taken ct_Frames_taken : Value}
    {f_Frames_left : Addr} {od_Frames_left an_Frames_left : Option Addr} {sl_Frames_left : Array (Option Value)} {oc_Frames_left kV_Frames_left dc_Frames_left pm_Frames_left cd_Frames_left ct_Frames_left : Value}
    {f_Frames_is_held : Addr} {od_Frames_is_held an_Frames_is_held : Option Addr} {sl_Frames_is_held : Array (Option Value)} {oc_Frames_is_held kV_Frames_is_held dc_Frames_is_held pm_Frames_is_held cd_Frames_is_held ct_Frames_is_held : Value}
    {f_Frames_free : Addr} {od_Frames_free an_Frames_free : Option Addr} {sl_Frames_free : Array (Option Value)} {oc_Frames_free kV_Frames_free dc_Frames_free pm_Frames_free cd_Frames_free ct_Frames_free : Value}
    {f_Frames_uncharged : Addr} {od_Frames_uncharged an_Frames_uncharged : Option Addr} {sl_Frames_uncharged : Array (Option Value)} {oc_Frames_uncharged kV_Frames_uncharged dc_Frames_uncharged pm_Frames_uncharged cd_Frames_uncharged ct_Frames_uncharged : Value}
    {f_Frames_may_hold_more : Addr} {od_Frames_may_hold_more an_Frames_may_hold_more : Option Addr} {sl_Frames_may_hold_more : Array (Option Value)} {oc_Frames_may_hold_more kV_Frames_may_hold_more dc_Frames_may_hold_more pm_Frames_may_hold_more cd_Frames_may_hold_more ct_Frames_may_hold_more : Value}
    {f_Frames_offered : Addr} {od_Frames_offered an_Frames_offered : Option Addr} {sl_Frames_offered : Array (Option Value)} {oc_Frames_offered kV_Frames_offered dc_Frames_offered pm_Frames_offered cd_Frames_offered ct_Frames_offered : Value}
    {f_Frames_end : Addr} {od_Frames_end an_Frames_end : Option Addr} {sl_Frames_end : Array (Option Value)} {oc_Frames_end kV_Frames_end dc_Frames_end pm_Frames_end cd_Frames_end ct_Frames_end : Value}
    {f_Frames_drop : Addr} {od_Frames_drop an_Frames_drop : Option Addr} {sl_Frames_drop : Array (Option Value)} {oc_Frames_drop kV_Frames_drop dc_Frames_drop pm_Frames_drop cd_Frames_drop ct_Frames_drop : Value}
    {f_Frames_narrow : Addr} {od_Frames_narrow an_Frames_narrow : Option Addr} {sl_Frames_narrow : Array (Option Value)} {oc_Frames_narrow kV_Frames_narrow dc_Frames_narrow pm_Frames_narrow cd_Frames_narrow ct_Frames_narrow : Value}
    {f_Frames_ask_back : Addr} {od_Frames_ask_back an_Frames_ask_back : Option Addr} {sl_Frames_ask_back : Array (Option Value)} {oc_Frames_ask_back kV_Frames_ask_back dc_Frames_ask_back pm_Frames_ask_back cd_Frames_ask_back ct_Frames_ask_back : Value}
    {f_is_word : Addr} {od_is_word an_is_word : Option Addr} {sl_is_word : Array (Option Value)} {oc_is_word kV_is_word dc_is_word pm_is_word cd_is_word ct_is_word : Value}
    {f_Frames_read : Addr} {od_Frames_read an_Frames_read : Option Addr} {sl_Frames_read : Array (Option Value)} {oc_Frames_read kV_Frames_read dc_Frames_read pm_Frames_read cd_Frames_read ct_Frames_read : Value}
    {f_Frames_write : Addr} {od_Frames_write an_Frames_write : Option Addr} {sl_Frames_write : Array (Option Value)} {oc_Frames_write kV_Frames_write dc_Frames_write pm_Frames_write cd_Frames_write ct_Frames_write : Value}
    {f_Frames_take_back : Addr} {od_Frames_take_back an_Frames_take_back : Option Addr} {sl_Frames_take_back : Array (Option Value)} {oc_Frames_take_back kV_Frames_take_back dc_Frames_take_back pm_Frames_take_back cd_Frames_take_back ct_Frames_take_back : Value}
    {f_Frames_slot_ended : Addr} {od_Frames_slot_ended an_Frames_slot_ended : Option Addr} {sl_Frames_slot_ended : Array (Option Value)} {oc_Frames_slot_ended kV_Frames_slot_ended dc_Frames_slot_ended pm_Frames_slot_ended cd_Frames_slot_ended ct_Frames_slot_ended : Value}
    {f_Frames_take : Addr} {od_Frames_take an_Frames_take : Option Addr} {sl_Frames_take : Array (Option Value)} {oc_Frames_take kV_Frames_take dc_Frames_take pm_Frames_take cd_Frames_take ct_Frames_take : Value}
    {f_includes : Addr} {od_includes an_includes : Option Addr} {sl_includes : Array (Option Value)} {oc_includes kV_includes dc_includes pm_includes cd_includes ct_includes : Value}
    {f_Frames_offer : Addr} {od_Frames_offer an_Frames_offer : Option Addr} {sl_Frames_offer : Array (Option Value)} {oc_Frames_offer kV_Frames_offer dc_Frames_offer pm_Frames_offer cd_Frames_offer ct_Frames_offer : Value}
    {f_Frames_accept : Addr} {od_Frames_accept an_Frames_accept : Option Addr} {sl_Frames_accept : Array (Option Value)} {oc_Frames_accept kV_Frames_accept dc_Frames_accept pm_Frames_accept cd_Frames_accept ct_Frames_accept : Value}
    {f_are_shares : Addr} {od_are_shares an_are_shares : Option Addr} {sl_are_shares : Array (Option Value)} {oc_are_shares kV_are_shares dc_are_shares pm_are_shares cd_are_shares ct_are_shares : Value}
    {f_Frames_init : Addr} {od_Frames_init an_Frames_init : Option Addr} {sl_Frames_init : Array (Option Value)} {oc_Frames_init kV_Frames_init dc_Frames_init pm_Frames_init cd_Frames_init ct_Frames_init : Value}
    {f_law_more : Addr} {od_law_more an_law_more : Option Addr} {sl_law_more : Array (Option Value)} {oc_law_more kV_law_more dc_law_more pm_law_more cd_law_more ct_law_more : Value}
    {f_law_end : Addr} {od_law_end an_law_end : Option Addr} {sl_law_end : Array (Option Value)} {oc_law_end kV_law_end dc_law_end pm_law_end cd_law_end ct_law_end : Value}
    {f_law_take : Addr} {od_law_take an_law_take : Option Addr} {sl_law_take : Array (Option Value)} {oc_law_take kV_law_take dc_law_take pm_law_take cd_law_take ct_law_take : Value}
    {f_law_accept : Addr} {od_law_accept an_law_accept : Option Addr} {sl_law_accept : Array (Option Value)} {oc_law_accept kV_law_accept dc_law_accept pm_law_accept cd_law_accept ct_law_accept : Value}
    {f_law_back : Addr} {od_law_back an_law_back : Option Addr} {sl_law_back : Array (Option Value)} {oc_law_back kV_law_back dc_law_back pm_law_back cd_law_back ct_law_back : Value}
    {f_law_own : Addr} {od_law_own an_law_own : Option Addr} {sl_law_own : Array (Option Value)} {oc_law_own kV_law_own dc_law_own pm_law_own cd_law_own ct_law_own : Value}
    {f_law_deed : Addr} {od_law_deed an_law_deed : Option Addr} {sl_law_deed : Array (Option Value)} {oc_law_deed kV_law_deed dc_law_deed pm_law_deed cd_law_deed ct_law_deed : Value}
    {f_law_done : Addr} {od_law_done an_law_done : Option Addr} {sl_law_done : Array (Option Value)} {oc_law_done kV_law_done dc_law_done pm_law_done cd_law_done ct_law_done : Value}
    {f_law_shown : Addr} {od_law_shown an_law_shown : Option Addr} {sl_law_shown : Array (Option Value)} {oc_law_shown kV_law_shown dc_law_shown pm_law_shown cd_law_shown ct_law_shown : Value}
    {f_law : Addr} {od_law an_law : Option Addr} {sl_law : Array (Option Value)} {oc_law kV_law dc_law pm_law cd_law ct_law : Value}
    {t_ENVIRONMENTS : Tok}
    {t_PATIENCE : Tok}
    {t_TOP : Tok}
    {t_WORDS : Tok}
    {t__LEAST_FRAMES : Tok}
    {t__MOST_FRAMES : Tok}
    (a_Frames : PySem.W.nsIn K mainGlobals "Frames" = some (some (.ref C_Frames)))
    (g1_Frames : PySem.W.plainGet K C_Frames Str.empty = true)
    (g2_Frames : PySem.W.hasDictIn K C_Frames = true)
    (g3_Frames : PySem.W.plainOver K C_Frames = true)
    (g4_Frames : PySem.W.findIn K (.ref C_Frames) "__setattr__" = some (some (.builtin "object.__setattr__")))
    (m_Frames : PySem.W.makesIn K C_Frames = true)
    (k_Frames : PySem.W.keepIn K (.ref C_Frames) = true)
    (n_Frames__words : PySem.W.findIn K (.ref C_Frames) "_words" = some none)
    (n_Frames__shares : PySem.W.findIn K (.ref C_Frames) "_shares" = some none)
    (n_Frames__rights : PySem.W.findIn K (.ref C_Frames) "_rights" = some none)
    (n_Frames__offers : PySem.W.findIn K (.ref C_Frames) "_offers" = some none)
    (n_Frames__asked : PySem.W.findIn K (.ref C_Frames) "_asked" = some none)
    (n_Frames__ends_to_wait : PySem.W.findIn K (.ref C_Frames) "_ends_to_wait" = some none)
    (n_Frames__taken : PySem.W.findIn K (.ref C_Frames) "_taken" = some none)
    (a_NotValid : PySem.W.nsIn K mainGlobals "NotValid" = some (some (.ref C_NotValid)))
    (k_NotValid : PySem.W.keepIn K (.ref C_NotValid) = true)
    (x_NotValid : PySem.W.excIn K C_NotValid [.type "ValueError", .type "Exception", .type "BaseException", .type "object"] "ValueError.__new__" = true)
    (e1_NotValid : PySem.W.subIn K (.ref C_NotValid) (.type "BaseException") = some true)
    (e2_NotValid : PySem.W.isClsIn K C_NotValid = true)
    (e3_NotValid : PySem.W.typeIn K (.ref C_NotValid) = some (.type "type"))
    (e4_NotValid : PySem.W.subIn K (.ref C_NotValid) (.ref C_NotValid) = some true)
    (a_law_next : PySem.W.nsIn K mainGlobals "_law_next" = some (some (.ref f_law_next)))
    (l_law_next : K.lookup f_law_next = some ⟨oc_law_next, od_law_next, .func (PySem.W.fnOf "_law_next" "_law_next" (defArgs s_law_next) (defBody s_law_next) (defScope s_law_next) .none kV_law_next dc_law_next pm_law_next an_law_next cd_law_next ct_law_next), sl_law_next⟩)
    (q_law_next : PySem.W.codeIn K cd_law_next "_law_next" = true)
    (k_law_next : PySem.W.keepIn K (.ref f_law_next) = true)
    (a_is_at_least : PySem.W.nsIn K mainGlobals "is_at_least" = some (some (.ref f_is_at_least)))
    (l_is_at_least : K.lookup f_is_at_least = some ⟨oc_is_at_least, od_is_at_least, .func (PySem.W.fnOf "is_at_least" "is_at_least" (defArgs s_is_at_least) (defBody s_is_at_least) (defScope s_is_at_least) .none kV_is_at_least dc_is_at_least pm_is_at_least an_is_at_least cd_is_at_least ct_is_at_least), sl_is_at_least⟩)
    (q_is_at_least : PySem.W.codeIn K cd_is_at_least "is_at_least" = true)
    (k_is_at_least : PySem.W.keepIn K (.ref f_is_at_least) = true)
    (a_is_between : PySem.W.nsIn K mainGlobals "is_between" = some (some (.ref f_is_between)))
    (l_is_between : K.lookup f_is_between = some ⟨oc_is_between, od_is_between, .func (PySem.W.fnOf "is_between" "is_between" (defArgs s_is_between) (defBody s_is_between) (defScope s_is_between) .none kV_is_between dc_is_between pm_is_between an_is_between cd_is_between ct_is_between), sl_is_between⟩)
    (q_is_between : PySem.W.codeIn K cd_is_between "is_between" = true)
    (k_is_between : PySem.W.keepIn K (.ref f_is_between) = true)
    (a_is_index : PySem.W.nsIn K mainGlobals "is_index" = some (some (.ref f_is_index)))
    (l_is_index : K.lookup f_is_index = some ⟨oc_is_index, od_is_index, .func (PySem.W.fnOf "is_index" "is_index" (defArgs s_is_index) (defBody s_is_index) (defScope s_is_index) .none kV_is_index dc_is_index pm_is_index an_is_index cd_is_index ct_is_index), sl_is_index⟩)
    (q_is_index : PySem.W.codeIn K cd_is_index "is_index" = true)
    (k_is_index : PySem.W.keepIn K (.ref f_is_index) = true)
    (a_is_environment : PySem.W.nsIn K mainGlobals "is_environment" = some (some (.ref f_is_environment)))
    (l_is_environment : K.lookup f_is_environment = some ⟨oc_is_environment, od_is_environment, .func (PySem.W.fnOf "is_environment" "is_environment" (defArgs s_is_environment) (defBody s_is_environment) (defScope s_is_environment) .none kV_is_environment dc_is_environment pm_is_environment an_is_environment cd_is_environment ct_is_environment), sl_is_environment⟩)
    (q_is_environment : PySem.W.codeIn K cd_is_environment "is_environment" = true)
    (k_is_environment : PySem.W.keepIn K (.ref f_is_environment) = true)
    (a_Frames_is_frame : PySem.W.findIn K (.ref C_Frames) "_is_frame" = some (some (.ref f_Frames_is_frame)))
    (i_Frames_is_frame : PySem.W.isFn K (.ref f_Frames_is_frame) = true)
    (l_Frames_is_frame : K.lookup f_Frames_is_frame = some ⟨oc_Frames_is_frame, od_Frames_is_frame, .func (PySem.W.fnOf "_is_frame" "Frames._is_frame" (defArgs s_Frames_is_frame) (defBody s_Frames_is_frame) (defScope s_Frames_is_frame) .none kV_Frames_is_frame dc_Frames_is_frame pm_Frames_is_frame an_Frames_is_frame cd_Frames_is_frame ct_Frames_is_frame), sl_Frames_is_frame⟩)
    (q_Frames_is_frame : PySem.W.codeIn K cd_Frames_is_frame "Frames._is_frame" = true)
    (k_Frames_is_frame : PySem.W.keepIn K (.ref f_Frames_is_frame) = true)
    (a_Frames_right : PySem.W.findIn K (.ref C_Frames) "right" = some (some (.ref f_Frames_right)))
    (i_Frames_right : PySem.W.isFn K (.ref f_Frames_right) = true)
    (l_Frames_right : K.lookup f_Frames_right = some ⟨oc_Frames_right, od_Frames_right, .func (PySem.W.fnOf "right" "Frames.right" (defArgs s_Frames_right) (defBody s_Frames_right) (defScope s_Frames_right) .none kV_Frames_right dc_Frames_right pm_Frames_right an_Frames_right cd_Frames_right ct_Frames_right), sl_Frames_right⟩)
    (q_Frames_right : PySem.W.codeIn K cd_Frames_right "Frames.right" = true)
    (k_Frames_right : PySem.W.keepIn K (.ref f_Frames_right) = true)
    (a_Frames_holdings : PySem.W.findIn K (.ref C_Frames) "holdings" = some (some (.ref f_Frames_holdings)))
    (i_Frames_holdings : PySem.W.isFn K (.ref f_Frames_holdings) = true)
    (l_Frames_holdings : K.lookup f_Frames_holdings = some ⟨oc_Frames_holdings, od_Frames_holdings, .func (PySem.W.fnOf "holdings" "Frames.holdings" (defArgs s_Frames_holdings) (defBody s_Frames_holdings) (defScope s_Frames_holdings) .none kV_Frames_holdings dc_Frames_holdings pm_Frames_holdings an_Frames_holdings cd_Frames_holdings ct_Frames_holdings), sl_Frames_holdings⟩)
    (q_Frames_holdings : PySem.W.codeIn K cd_Frames_holdings "Frames.holdings" = true)
    (k_Frames_holdings : PySem.W.keepIn K (.ref f_Frames_holdings) = true)
    (a_Frames_share : PySem.W.findIn K (.ref C_Frames) "share" = some (some (.ref f_Frames_share)))
    (i_Frames_share : PySem.W.isFn K (.ref f_Frames_share) = true)
    (l_Frames_share : K.lookup f_Frames_share = some ⟨oc_Frames_share, od_Frames_share, .func (PySem.W.fnOf "share" "Frames.share" (defArgs s_Frames_share) (defBody s_Frames_share) (defScope s_Frames_share) .none kV_Frames_share dc_Frames_share pm_Frames_share an_Frames_share cd_Frames_share ct_Frames_share), sl_Frames_share⟩)
    (q_Frames_share : PySem.W.codeIn K cd_Frames_share "Frames.share" = true)
    (k_Frames_share : PySem.W.keepIn K (.ref f_Frames_share) = true)
    (a_Frames_asked : PySem.W.findIn K (.ref C_Frames) "asked" = some (some (.ref f_Frames_asked)))
    (i_Frames_asked : PySem.W.isFn K (.ref f_Frames_asked) = true)
    (l_Frames_asked : K.lookup f_Frames_asked = some ⟨oc_Frames_asked, od_Frames_asked, .func (PySem.W.fnOf "asked" "Frames.asked" (defArgs s_Frames_asked) (defBody s_Frames_asked) (defScope s_Frames_asked) .none kV_Frames_asked dc_Frames_asked pm_Frames_asked an_Frames_asked cd_Frames_asked ct_Frames_asked), sl_Frames_asked⟩)
    (q_Frames_asked : PySem.W.codeIn K cd_Frames_asked "Frames.asked" = true)
    (k_Frames_asked : PySem.W.keepIn K (.ref f_Frames_asked) = true)
    (a_Frames_charge : PySem.W.findIn K (.ref C_Frames) "charge" = some (some (.ref f_Frames_charge)))
    (i_Frames_charge : PySem.W.isFn K (.ref f_Frames_charge) = true)
    (l_Frames_charge : K.lookup f_Frames_charge = some ⟨oc_Frames_charge, od_Frames_charge, .func (PySem.W.fnOf "charge" "Frames.charge" (defArgs s_Frames_charge) (defBody s_Frames_charge) (defScope s_Frames_charge) .none kV_Frames_charge dc_Frames_charge pm_Frames_charge an_Frames_charge cd_Frames_charge ct_Frames_charge), sl_Frames_charge⟩)
    (q_Frames_charge : PySem.W.codeIn K cd_Frames_charge "Frames.charge" = true)
    (k_Frames_charge : PySem.W.keepIn K (.ref f_Frames_charge) = true)
    (a_Frames_taken : PySem.W.findIn K (.ref C_Frames) "taken" = some (some (.ref f_Frames_taken)))
    (i_Frames_taken : PySem.W.isFn K (.ref f_Frames_taken) = true)
    (l_Frames_taken : K.lookup f_Frames_taken = some ⟨oc_Frames_taken, od_Frames_taken, .func (PySem.W.fnOf "taken" "Frames.taken" (defArgs s_Frames_taken) (defBody s_Frames_taken) (defScope s_Frames_taken) .none kV_Frames_taken dc_Frames_taken pm_Frames_taken an_Frames_taken cd_Frames_taken ct_Frames_taken), sl_Frames_taken⟩)
    (q_Frames_taken : PySem.W.codeIn K cd_Frames_taken "Frames.taken" = true)
    (k_Frames_taken : PySem.W.keepIn K (.ref f_Frames_taken) = true)
    (a_Frames_left : PySem.W.findIn K (.ref C_Frames) "left" = some (some (.ref f_Frames_left)))
    (i_Frames_left : PySem.W.isFn K (.ref f_Frames_left) = true)
    (l_Frames_left : K.lookup f_Frames_left = some ⟨oc_Frames_left, od_Frames_left, .func (PySem.W.fnOf "left" "Frames.left" (defArgs s_Frames_left) (defBody s_Frames_left) (defScope s_Frames_left) .none kV_Frames_left dc_Frames_left pm_Frames_left an_Frames_left cd_Frames_left ct_Frames_left), sl_Frames_left⟩)
    (q_Frames_left : PySem.W.codeIn K cd_Frames_left "Frames.left" = true)
    (k_Frames_left : PySem.W.keepIn K (.ref f_Frames_left) = true)
    (a_Frames_is_held : PySem.W.findIn K (.ref C_Frames) "_is_held" = some (some (.ref f_Frames_is_held)))
    (i_Frames_is_held : PySem.W.isFn K (.ref f_Frames_is_held) = true)
    (l_Frames_is_held : K.lookup f_Frames_is_held = some ⟨oc_Frames_is_held, od_Frames_is_held, .func (PySem.W.fnOf "_is_held" "Frames._is_held" (defArgs s_Frames_is_held) (defBody s_Frames_is_held) (defScope s_Frames_is_held) .none kV_Frames_is_held dc_Frames_is_held pm_Frames_is_held an_Frames_is_held cd_Frames_is_held ct_Frames_is_held), sl_Frames_is_held⟩)
    (q_Frames_is_held : PySem.W.codeIn K cd_Frames_is_held "Frames._is_held" = true)
    (k_Frames_is_held : PySem.W.keepIn K (.ref f_Frames_is_held) = true)
    (a_Frames_free : PySem.W.findIn K (.ref C_Frames) "free" = some (some (.ref f_Frames_free)))
    (i_Frames_free : PySem.W.isFn K (.ref f_Frames_free) = true)
    (l_Frames_free : K.lookup f_Frames_free = some ⟨oc_Frames_free, od_Frames_free, .func (PySem.W.fnOf "free" "Frames.free" (defArgs s_Frames_free) (defBody s_Frames_free) (defScope s_Frames_free) .none kV_Frames_free dc_Frames_free pm_Frames_free an_Frames_free cd_Frames_free ct_Frames_free), sl_Frames_free⟩)
    (q_Frames_free : PySem.W.codeIn K cd_Frames_free "Frames.free" = true)
    (k_Frames_free : PySem.W.keepIn K (.ref f_Frames_free) = true)
    (a_Frames_uncharged : PySem.W.findIn K (.ref C_Frames) "_uncharged" = some (some (.ref f_Frames_uncharged)))
    (i_Frames_uncharged : PySem.W.isFn K (.ref f_Frames_uncharged) = true)
    (l_Frames_uncharged : K.lookup f_Frames_uncharged = some ⟨oc_Frames_uncharged, od_Frames_uncharged, .func (PySem.W.fnOf "_uncharged" "Frames._uncharged" (defArgs s_Frames_uncharged) (defBody s_Frames_uncharged) (defScope s_Frames_uncharged) .none kV_Frames_uncharged dc_Frames_uncharged pm_Frames_uncharged an_Frames_uncharged cd_Frames_uncharged ct_Frames_uncharged), sl_Frames_uncharged⟩)
    (q_Frames_uncharged : PySem.W.codeIn K cd_Frames_uncharged "Frames._uncharged" = true)
    (k_Frames_uncharged : PySem.W.keepIn K (.ref f_Frames_uncharged) = true)
    (a_Frames_may_hold_more : PySem.W.findIn K (.ref C_Frames) "_may_hold_more" = some (some (.ref f_Frames_may_hold_more)))
    (i_Frames_may_hold_more : PySem.W.isFn K (.ref f_Frames_may_hold_more) = true)
    (l_Frames_may_hold_more : K.lookup f_Frames_may_hold_more = some ⟨oc_Frames_may_hold_more, od_Frames_may_hold_more, .func (PySem.W.fnOf "_may_hold_more" "Frames._may_hold_more" (defArgs s_Frames_may_hold_more) (defBody s_Frames_may_hold_more) (defScope s_Frames_may_hold_more) .none kV_Frames_may_hold_more dc_Frames_may_hold_more pm_Frames_may_hold_more an_Frames_may_hold_more cd_Frames_may_hold_more ct_Frames_may_hold_more), sl_Frames_may_hold_more⟩)
    (q_Frames_may_hold_more : PySem.W.codeIn K cd_Frames_may_hold_more "Frames._may_hold_more" = true)
    (k_Frames_may_hold_more : PySem.W.keepIn K (.ref f_Frames_may_hold_more) = true)
    (a_Frames_offered : PySem.W.findIn K (.ref C_Frames) "_offered" = some (some (.ref f_Frames_offered)))
    (i_Frames_offered : PySem.W.isFn K (.ref f_Frames_offered) = true)
    (l_Frames_offered : K.lookup f_Frames_offered = some ⟨oc_Frames_offered, od_Frames_offered, .func (PySem.W.fnOf "_offered" "Frames._offered" (defArgs s_Frames_offered) (defBody s_Frames_offered) (defScope s_Frames_offered) .none kV_Frames_offered dc_Frames_offered pm_Frames_offered an_Frames_offered cd_Frames_offered ct_Frames_offered), sl_Frames_offered⟩)
    (q_Frames_offered : PySem.W.codeIn K cd_Frames_offered "Frames._offered" = true)
    (k_Frames_offered : PySem.W.keepIn K (.ref f_Frames_offered) = true)
    (a_Frames_end : PySem.W.findIn K (.ref C_Frames) "_end" = some (some (.ref f_Frames_end)))
    (i_Frames_end : PySem.W.isFn K (.ref f_Frames_end) = true)
    (l_Frames_end : K.lookup f_Frames_end = some ⟨oc_Frames_end, od_Frames_end, .func (PySem.W.fnOf "_end" "Frames._end" (defArgs s_Frames_end) (defBody s_Frames_end) (defScope s_Frames_end) .none kV_Frames_end dc_Frames_end pm_Frames_end an_Frames_end cd_Frames_end ct_Frames_end), sl_Frames_end⟩)
    (q_Frames_end : PySem.W.codeIn K cd_Frames_end "Frames._end" = true)
    (k_Frames_end : PySem.W.keepIn K (.ref f_Frames_end) = true)
    (a_Frames_drop : PySem.W.findIn K (.ref C_Frames) "drop" = some (some (.ref f_Frames_drop)))
    (i_Frames_drop : PySem.W.isFn K (.ref f_Frames_drop) = true)
    (l_Frames_drop : K.lookup f_Frames_drop = some ⟨oc_Frames_drop, od_Frames_drop, .func (PySem.W.fnOf "drop" "Frames.drop" (defArgs s_Frames_drop) (defBody s_Frames_drop) (defScope s_Frames_drop) .none kV_Frames_drop dc_Frames_drop pm_Frames_drop an_Frames_drop cd_Frames_drop ct_Frames_drop), sl_Frames_drop⟩)
    (q_Frames_drop : PySem.W.codeIn K cd_Frames_drop "Frames.drop" = true)
    (k_Frames_drop : PySem.W.keepIn K (.ref f_Frames_drop) = true)
    (a_Frames_narrow : PySem.W.findIn K (.ref C_Frames) "narrow" = some (some (.ref f_Frames_narrow)))
    (i_Frames_narrow : PySem.W.isFn K (.ref f_Frames_narrow) = true)
    (l_Frames_narrow : K.lookup f_Frames_narrow = some ⟨oc_Frames_narrow, od_Frames_narrow, .func (PySem.W.fnOf "narrow" "Frames.narrow" (defArgs s_Frames_narrow) (defBody s_Frames_narrow) (defScope s_Frames_narrow) .none kV_Frames_narrow dc_Frames_narrow pm_Frames_narrow an_Frames_narrow cd_Frames_narrow ct_Frames_narrow), sl_Frames_narrow⟩)
    (q_Frames_narrow : PySem.W.codeIn K cd_Frames_narrow "Frames.narrow" = true)
    (k_Frames_narrow : PySem.W.keepIn K (.ref f_Frames_narrow) = true)
    (a_Frames_ask_back : PySem.W.findIn K (.ref C_Frames) "ask_back" = some (some (.ref f_Frames_ask_back)))
    (i_Frames_ask_back : PySem.W.isFn K (.ref f_Frames_ask_back) = true)
    (l_Frames_ask_back : K.lookup f_Frames_ask_back = some ⟨oc_Frames_ask_back, od_Frames_ask_back, .func (PySem.W.fnOf "ask_back" "Frames.ask_back" (defArgs s_Frames_ask_back) (defBody s_Frames_ask_back) (defScope s_Frames_ask_back) .none kV_Frames_ask_back dc_Frames_ask_back pm_Frames_ask_back an_Frames_ask_back cd_Frames_ask_back ct_Frames_ask_back), sl_Frames_ask_back⟩)
    (q_Frames_ask_back : PySem.W.codeIn K cd_Frames_ask_back "Frames.ask_back" = true)
    (k_Frames_ask_back : PySem.W.keepIn K (.ref f_Frames_ask_back) = true)
    (a_is_word : PySem.W.nsIn K mainGlobals "is_word" = some (some (.ref f_is_word)))
    (l_is_word : K.lookup f_is_word = some ⟨oc_is_word, od_is_word, .func (PySem.W.fnOf "is_word" "is_word" (defArgs s_is_word) (defBody s_is_word) (defScope s_is_word) .none kV_is_word dc_is_word pm_is_word an_is_word cd_is_word ct_is_word), sl_is_word⟩)
    (q_is_word : PySem.W.codeIn K cd_is_word "is_word" = true)
    (k_is_word : PySem.W.keepIn K (.ref f_is_word) = true)
    (a_Frames_read : PySem.W.findIn K (.ref C_Frames) "read" = some (some (.ref f_Frames_read)))
    (i_Frames_read : PySem.W.isFn K (.ref f_Frames_read) = true)
    (l_Frames_read : K.lookup f_Frames_read = some ⟨oc_Frames_read, od_Frames_read, .func (PySem.W.fnOf "read" "Frames.read" (defArgs s_Frames_read) (defBody s_Frames_read) (defScope s_Frames_read) .none kV_Frames_read dc_Frames_read pm_Frames_read an_Frames_read cd_Frames_read ct_Frames_read), sl_Frames_read⟩)
    (q_Frames_read : PySem.W.codeIn K cd_Frames_read "Frames.read" = true)
    (k_Frames_read : PySem.W.keepIn K (.ref f_Frames_read) = true)
    (a_Frames_write : PySem.W.findIn K (.ref C_Frames) "write" = some (some (.ref f_Frames_write)))
    (i_Frames_write : PySem.W.isFn K (.ref f_Frames_write) = true)
    (l_Frames_write : K.lookup f_Frames_write = some ⟨oc_Frames_write, od_Frames_write, .func (PySem.W.fnOf "write" "Frames.write" (defArgs s_Frames_write) (defBody s_Frames_write) (defScope s_Frames_write) .none kV_Frames_write dc_Frames_write pm_Frames_write an_Frames_write cd_Frames_write ct_Frames_write), sl_Frames_write⟩)
    (q_Frames_write : PySem.W.codeIn K cd_Frames_write "Frames.write" = true)
    (k_Frames_write : PySem.W.keepIn K (.ref f_Frames_write) = true)
    (a_Frames_take_back : PySem.W.findIn K (.ref C_Frames) "_take_back" = some (some (.ref f_Frames_take_back)))
    (i_Frames_take_back : PySem.W.isFn K (.ref f_Frames_take_back) = true)
    (l_Frames_take_back : K.lookup f_Frames_take_back = some ⟨oc_Frames_take_back, od_Frames_take_back, .func (PySem.W.fnOf "_take_back" "Frames._take_back" (defArgs s_Frames_take_back) (defBody s_Frames_take_back) (defScope s_Frames_take_back) .none kV_Frames_take_back dc_Frames_take_back pm_Frames_take_back an_Frames_take_back cd_Frames_take_back ct_Frames_take_back), sl_Frames_take_back⟩)
    (q_Frames_take_back : PySem.W.codeIn K cd_Frames_take_back "Frames._take_back" = true)
    (k_Frames_take_back : PySem.W.keepIn K (.ref f_Frames_take_back) = true)
    (a_Frames_slot_ended : PySem.W.findIn K (.ref C_Frames) "slot_ended" = some (some (.ref f_Frames_slot_ended)))
    (i_Frames_slot_ended : PySem.W.isFn K (.ref f_Frames_slot_ended) = true)
    (l_Frames_slot_ended : K.lookup f_Frames_slot_ended = some ⟨oc_Frames_slot_ended, od_Frames_slot_ended, .func (PySem.W.fnOf "slot_ended" "Frames.slot_ended" (defArgs s_Frames_slot_ended) (defBody s_Frames_slot_ended) (defScope s_Frames_slot_ended) .none kV_Frames_slot_ended dc_Frames_slot_ended pm_Frames_slot_ended an_Frames_slot_ended cd_Frames_slot_ended ct_Frames_slot_ended), sl_Frames_slot_ended⟩)
    (q_Frames_slot_ended : PySem.W.codeIn K cd_Frames_slot_ended "Frames.slot_ended" = true)
    (k_Frames_slot_ended : PySem.W.keepIn K (.ref f_Frames_slot_ended) = true)
    (a_Frames_take : PySem.W.findIn K (.ref C_Frames) "take" = some (some (.ref f_Frames_take)))
    (i_Frames_take : PySem.W.isFn K (.ref f_Frames_take) = true)
    (l_Frames_take : K.lookup f_Frames_take = some ⟨oc_Frames_take, od_Frames_take, .func (PySem.W.fnOf "take" "Frames.take" (defArgs s_Frames_take) (defBody s_Frames_take) (defScope s_Frames_take) .none kV_Frames_take dc_Frames_take pm_Frames_take an_Frames_take cd_Frames_take ct_Frames_take), sl_Frames_take⟩)
    (q_Frames_take : PySem.W.codeIn K cd_Frames_take "Frames.take" = true)
    (k_Frames_take : PySem.W.keepIn K (.ref f_Frames_take) = true)
    (a_includes : PySem.W.nsIn K mainGlobals "includes" = some (some (.ref f_includes)))
    (l_includes : K.lookup f_includes = some ⟨oc_includes, od_includes, .func (PySem.W.fnOf "includes" "includes" (defArgs s_includes) (defBody s_includes) (defScope s_includes) .none kV_includes dc_includes pm_includes an_includes cd_includes ct_includes), sl_includes⟩)
    (q_includes : PySem.W.codeIn K cd_includes "includes" = true)
    (k_includes : PySem.W.keepIn K (.ref f_includes) = true)
    (a_Frames_offer : PySem.W.findIn K (.ref C_Frames) "offer" = some (some (.ref f_Frames_offer)))
    (i_Frames_offer : PySem.W.isFn K (.ref f_Frames_offer) = true)
    (l_Frames_offer : K.lookup f_Frames_offer = some ⟨oc_Frames_offer, od_Frames_offer, .func (PySem.W.fnOf "offer" "Frames.offer" (defArgs s_Frames_offer) (defBody s_Frames_offer) (defScope s_Frames_offer) .none kV_Frames_offer dc_Frames_offer pm_Frames_offer an_Frames_offer cd_Frames_offer ct_Frames_offer), sl_Frames_offer⟩)
    (q_Frames_offer : PySem.W.codeIn K cd_Frames_offer "Frames.offer" = true)
    (k_Frames_offer : PySem.W.keepIn K (.ref f_Frames_offer) = true)
    (a_Frames_accept : PySem.W.findIn K (.ref C_Frames) "accept" = some (some (.ref f_Frames_accept)))
    (i_Frames_accept : PySem.W.isFn K (.ref f_Frames_accept) = true)
    (l_Frames_accept : K.lookup f_Frames_accept = some ⟨oc_Frames_accept, od_Frames_accept, .func (PySem.W.fnOf "accept" "Frames.accept" (defArgs s_Frames_accept) (defBody s_Frames_accept) (defScope s_Frames_accept) .none kV_Frames_accept dc_Frames_accept pm_Frames_accept an_Frames_accept cd_Frames_accept ct_Frames_accept), sl_Frames_accept⟩)
    (q_Frames_accept : PySem.W.codeIn K cd_Frames_accept "Frames.accept" = true)
    (k_Frames_accept : PySem.W.keepIn K (.ref f_Frames_accept) = true)
    (a_are_shares : PySem.W.nsIn K mainGlobals "are_shares" = some (some (.ref f_are_shares)))
    (l_are_shares : K.lookup f_are_shares = some ⟨oc_are_shares, od_are_shares, .func (PySem.W.fnOf "are_shares" "are_shares" (defArgs s_are_shares) (defBody s_are_shares) (defScope s_are_shares) .none kV_are_shares dc_are_shares pm_are_shares an_are_shares cd_are_shares ct_are_shares), sl_are_shares⟩)
    (q_are_shares : PySem.W.codeIn K cd_are_shares "are_shares" = true)
    (k_are_shares : PySem.W.keepIn K (.ref f_are_shares) = true)
    (a_Frames_init : PySem.W.findIn K (.ref C_Frames) "__init__" = some (some (.ref f_Frames_init)))
    (i_Frames_init : PySem.W.isFn K (.ref f_Frames_init) = true)
    (l_Frames_init : K.lookup f_Frames_init = some ⟨oc_Frames_init, od_Frames_init, .func (PySem.W.fnOf "__init__" "Frames.__init__" (defArgs s_Frames_init) (defBody s_Frames_init) (defScope s_Frames_init) .none kV_Frames_init dc_Frames_init pm_Frames_init an_Frames_init cd_Frames_init ct_Frames_init), sl_Frames_init⟩)
    (q_Frames_init : PySem.W.codeIn K cd_Frames_init "Frames.__init__" = true)
    (k_Frames_init : PySem.W.keepIn K (.ref f_Frames_init) = true)
    (a_law_more : PySem.W.nsIn K mainGlobals "_law_more" = some (some (.ref f_law_more)))
    (l_law_more : K.lookup f_law_more = some ⟨oc_law_more, od_law_more, .func (PySem.W.fnOf "_law_more" "_law_more" (defArgs s_law_more) (defBody s_law_more) (defScope s_law_more) .none kV_law_more dc_law_more pm_law_more an_law_more cd_law_more ct_law_more), sl_law_more⟩)
    (q_law_more : PySem.W.codeIn K cd_law_more "_law_more" = true)
    (k_law_more : PySem.W.keepIn K (.ref f_law_more) = true)
    (a_law_end : PySem.W.nsIn K mainGlobals "_law_end" = some (some (.ref f_law_end)))
    (l_law_end : K.lookup f_law_end = some ⟨oc_law_end, od_law_end, .func (PySem.W.fnOf "_law_end" "_law_end" (defArgs s_law_end) (defBody s_law_end) (defScope s_law_end) .none kV_law_end dc_law_end pm_law_end an_law_end cd_law_end ct_law_end), sl_law_end⟩)
    (q_law_end : PySem.W.codeIn K cd_law_end "_law_end" = true)
    (k_law_end : PySem.W.keepIn K (.ref f_law_end) = true)
    (a_law_take : PySem.W.nsIn K mainGlobals "_law_take" = some (some (.ref f_law_take)))
    (l_law_take : K.lookup f_law_take = some ⟨oc_law_take, od_law_take, .func (PySem.W.fnOf "_law_take" "_law_take" (defArgs s_law_take) (defBody s_law_take) (defScope s_law_take) .none kV_law_take dc_law_take pm_law_take an_law_take cd_law_take ct_law_take), sl_law_take⟩)
    (q_law_take : PySem.W.codeIn K cd_law_take "_law_take" = true)
    (k_law_take : PySem.W.keepIn K (.ref f_law_take) = true)
    (a_law_accept : PySem.W.nsIn K mainGlobals "_law_accept" = some (some (.ref f_law_accept)))
    (l_law_accept : K.lookup f_law_accept = some ⟨oc_law_accept, od_law_accept, .func (PySem.W.fnOf "_law_accept" "_law_accept" (defArgs s_law_accept) (defBody s_law_accept) (defScope s_law_accept) .none kV_law_accept dc_law_accept pm_law_accept an_law_accept cd_law_accept ct_law_accept), sl_law_accept⟩)
    (q_law_accept : PySem.W.codeIn K cd_law_accept "_law_accept" = true)
    (k_law_accept : PySem.W.keepIn K (.ref f_law_accept) = true)
    (a_law_back : PySem.W.nsIn K mainGlobals "_law_back" = some (some (.ref f_law_back)))
    (l_law_back : K.lookup f_law_back = some ⟨oc_law_back, od_law_back, .func (PySem.W.fnOf "_law_back" "_law_back" (defArgs s_law_back) (defBody s_law_back) (defScope s_law_back) .none kV_law_back dc_law_back pm_law_back an_law_back cd_law_back ct_law_back), sl_law_back⟩)
    (q_law_back : PySem.W.codeIn K cd_law_back "_law_back" = true)
    (k_law_back : PySem.W.keepIn K (.ref f_law_back) = true)
    (a_law_own : PySem.W.nsIn K mainGlobals "_law_own" = some (some (.ref f_law_own)))
    (l_law_own : K.lookup f_law_own = some ⟨oc_law_own, od_law_own, .func (PySem.W.fnOf "_law_own" "_law_own" (defArgs s_law_own) (defBody s_law_own) (defScope s_law_own) .none kV_law_own dc_law_own pm_law_own an_law_own cd_law_own ct_law_own), sl_law_own⟩)
    (q_law_own : PySem.W.codeIn K cd_law_own "_law_own" = true)
    (k_law_own : PySem.W.keepIn K (.ref f_law_own) = true)
    (a_law_deed : PySem.W.nsIn K mainGlobals "_law_deed" = some (some (.ref f_law_deed)))
    (l_law_deed : K.lookup f_law_deed = some ⟨oc_law_deed, od_law_deed, .func (PySem.W.fnOf "_law_deed" "_law_deed" (defArgs s_law_deed) (defBody s_law_deed) (defScope s_law_deed) .none kV_law_deed dc_law_deed pm_law_deed an_law_deed cd_law_deed ct_law_deed), sl_law_deed⟩)
    (q_law_deed : PySem.W.codeIn K cd_law_deed "_law_deed" = true)
    (k_law_deed : PySem.W.keepIn K (.ref f_law_deed) = true)
    (a_law_done : PySem.W.nsIn K mainGlobals "_law_done" = some (some (.ref f_law_done)))
    (l_law_done : K.lookup f_law_done = some ⟨oc_law_done, od_law_done, .func (PySem.W.fnOf "_law_done" "_law_done" (defArgs s_law_done) (defBody s_law_done) (defScope s_law_done) .none kV_law_done dc_law_done pm_law_done an_law_done cd_law_done ct_law_done), sl_law_done⟩)
    (q_law_done : PySem.W.codeIn K cd_law_done "_law_done" = true)
    (k_law_done : PySem.W.keepIn K (.ref f_law_done) = true)
    (a_law_shown : PySem.W.nsIn K mainGlobals "_law_shown" = some (some (.ref f_law_shown)))
    (l_law_shown : K.lookup f_law_shown = some ⟨oc_law_shown, od_law_shown, .func (PySem.W.fnOf "_law_shown" "_law_shown" (defArgs s_law_shown) (defBody s_law_shown) (defScope s_law_shown) .none kV_law_shown dc_law_shown pm_law_shown an_law_shown cd_law_shown ct_law_shown), sl_law_shown⟩)
    (q_law_shown : PySem.W.codeIn K cd_law_shown "_law_shown" = true)
    (k_law_shown : PySem.W.keepIn K (.ref f_law_shown) = true)
    (a_law : PySem.W.nsIn K mainGlobals "law" = some (some (.ref f_law)))
    (l_law : K.lookup f_law = some ⟨oc_law, od_law, .func (PySem.W.fnOf "law" "law" (defArgs s_law) (defBody s_law) (defScope s_law) .none kV_law dc_law pm_law an_law cd_law ct_law), sl_law⟩)
    (q_law : PySem.W.codeIn K cd_law "law" = true)
    (k_law : PySem.W.keepIn K (.ref f_law) = true)
    (z_abs : PySem.W.nsIn K mainGlobals "abs" = some none)
    (z_all : PySem.W.nsIn K mainGlobals "all" = some none)
    (z_any : PySem.W.nsIn K mainGlobals "any" = some none)
    (z_bool : PySem.W.nsIn K mainGlobals "bool" = some none)
    (z_int : PySem.W.nsIn K mainGlobals "int" = some none)
    (z_isinstance : PySem.W.nsIn K mainGlobals "isinstance" = some none)
    (z_len : PySem.W.nsIn K mainGlobals "len" = some none)
    (z_list : PySem.W.nsIn K mainGlobals "list" = some none)
    (z_max : PySem.W.nsIn K mainGlobals "max" = some none)
    (z_min : PySem.W.nsIn K mainGlobals "min" = some none)
    (z_range : PySem.W.nsIn K mainGlobals "range" = some none)
    (z_sum : PySem.W.nsIn K mainGlobals "sum" = some none)
    (y_ENVIRONMENTS : PySem.W.nsIn K mainGlobals "ENVIRONMENTS" = some (some (.int 4 t_ENVIRONMENTS)))
    (y_PATIENCE : PySem.W.nsIn K mainGlobals "PATIENCE" = some (some (.int 2 t_PATIENCE)))
    (y_TOP : PySem.W.nsIn K mainGlobals "TOP" = some (some (.int 4294967295 t_TOP)))
    (y_WORDS : PySem.W.nsIn K mainGlobals "WORDS" = some (some (.int 8 t_WORDS)))
    (y__LEAST_FRAMES : PySem.W.nsIn K mainGlobals "_LEAST_FRAMES" = some (some (.int 8 t__LEAST_FRAMES)))
    (y__MOST_FRAMES : PySem.W.nsIn K mainGlobals "_MOST_FRAMES" = some (some (.int 64 t__MOST_FRAMES))) :
    ∃ fd : FuncData, (∀ (s : Shared) (v : Value), BindsTo s fd ⟨[v], []⟩ [("script", v)]) ∧ ∀ base : Heap, K.In base → base.Ns mainGlobals mg → FnOk l.prog w K mg base CX0 11 fa fd ["script"] (spLaw K) := by
  have e := hfa.symm.trans (PySem.W.mg_of X G a_law)
  cases e
  have T : Txt K mg C_Frames C_NotValid := ⟨PySem.W.mg_none_of X G z_abs, PySem.W.mg_none_of X G z_all, PySem.W.mg_none_of X G z_any, PySem.W.mg_none_of X G z_bool, PySem.W.mg_none_of X G z_int, PySem.W.mg_none_of X G z_isinstance, PySem.W.mg_none_of X G z_len, PySem.W.mg_none_of X G z_list, PySem.W.mg_none_of X G z_max, PySem.W.mg_none_of X G z_min, PySem.W.mg_none_of X G z_range, PySem.W.mg_none_of X G z_sum, ⟨_, PySem.W.mg_of X G y_ENVIRONMENTS⟩, ⟨_, PySem.W.mg_of X G y_PATIENCE⟩, ⟨_, PySem.W.mg_of X G y_TOP⟩, ⟨_, PySem.W.mg_of X G y_WORDS⟩, ⟨_, PySem.W.mg_of X G y__LEAST_FRAMES⟩, ⟨_, PySem.W.mg_of X G y__MOST_FRAMES⟩, ⟨PySem.W.mg_of X G a_NotValid, k_NotValid, x_NotValid, e1_NotValid, e3_NotValid, exm_self e1_NotValid e2_NotValid e3_NotValid e4_NotValid⟩, ⟨g1_Frames, g2_Frames, g3_Frames, g4_Frames⟩, n_Frames__words, n_Frames__shares, n_Frames__rights, n_Frames__offers, n_Frames__asked, n_Frames__ends_to_wait, n_Frames__taken⟩
  have F_law_next := fun_mk (st := s_law_next) l_law_next q_law_next k_law_next
  have B_law_next := F_law_next.binds (ps := ["tape", "many"]) fun _ _ _ _ _ _ us hl => match us, hl with | [_, _], _ => rfl
  have F_is_at_least := fun_mk (st := s_is_at_least) l_is_at_least q_is_at_least k_is_at_least
  have B_is_at_least := F_is_at_least.binds (ps := ["value", "least"]) fun _ _ _ _ _ _ us hl => match us, hl with | [_, _], _ => rfl
  have F_is_between := fun_mk (st := s_is_between) l_is_between q_is_between k_is_between
  have B_is_between := F_is_between.binds (ps := ["value", "least", "most"]) fun _ _ _ _ _ _ us hl => match us, hl with | [_, _, _], _ => rfl
  have F_is_index := fun_mk (st := s_is_index) l_is_index q_is_index k_is_index
  have B_is_index := F_is_index.binds (ps := ["value", "many"]) fun _ _ _ _ _ _ us hl => match us, hl with | [_, _], _ => rfl
  have F_is_environment := fun_mk (st := s_is_environment) l_is_environment q_is_environment k_is_environment
  have B_is_environment := F_is_environment.binds (ps := ["value"]) fun _ _ _ _ _ _ us hl => match us, hl with | [_], _ => rfl
  have F_Frames_is_frame := fun_mk (st := s_Frames_is_frame) l_Frames_is_frame q_Frames_is_frame k_Frames_is_frame
  have B_Frames_is_frame := F_Frames_is_frame.binds (ps := ["self", "value"]) fun _ _ _ _ _ _ us hl => match us, hl with | [_, _], _ => rfl
  have F_Frames_right := fun_mk (st := s_Frames_right) l_Frames_right q_Frames_right k_Frames_right
  have B_Frames_right := F_Frames_right.binds (ps := ["self", "environment", "frame"]) fun _ _ _ _ _ _ us hl => match us, hl with | [_, _, _], _ => rfl
  have F_Frames_holdings := fun_mk (st := s_Frames_holdings) l_Frames_holdings q_Frames_holdings k_Frames_holdings
  have B_Frames_holdings := F_Frames_holdings.binds (ps := ["self", "environment"]) fun _ _ _ _ _ _ us hl => match us, hl with | [_, _], _ => rfl
  have F_Frames_share := fun_mk (st := s_Frames_share) l_Frames_share q_Frames_share k_Frames_share
  have B_Frames_share := F_Frames_share.binds (ps := ["self", "environment"]) fun _ _ _ _ _ _ us hl => match us, hl with | [_, _], _ => rfl
  have F_Frames_asked := fun_mk (st := s_Frames_asked) l_Frames_asked q_Frames_asked k_Frames_asked
  have B_Frames_asked := F_Frames_asked.binds (ps := ["self", "environment"]) fun _ _ _ _ _ _ us hl => match us, hl with | [_, _], _ => rfl
  have F_Frames_charge := fun_mk (st := s_Frames_charge) l_Frames_charge q_Frames_charge k_Frames_charge
  have B_Frames_charge := F_Frames_charge.binds (ps := ["self", "environment"]) fun _ _ _ _ _ _ us hl => match us, hl with | [_, _], _ => rfl
  have F_Frames_taken := fun_mk (st := s_Frames_taken) l_Frames_taken q_Frames_taken k_Frames_taken
  have B_Frames_taken := F_Frames_taken.binds (ps := ["self", "environment"]) fun _ _ _ _ _ _ us hl => match us, hl with | [_, _], _ => rfl
  have F_Frames_left := fun_mk (st := s_Frames_left) l_Frames_left q_Frames_left k_Frames_left
  have B_Frames_left := F_Frames_left.binds (ps := ["self"]) fun _ _ _ _ _ _ us hl => match us, hl with | [_], _ => rfl
  have F_Frames_is_held := fun_mk (st := s_Frames_is_held) l_Frames_is_held q_Frames_is_held k_Frames_is_held
  have B_Frames_is_held := F_Frames_is_held.binds (ps := ["self", "frame"]) fun _ _ _ _ _ _ us hl => match us, hl with | [_, _], _ => rfl
  have F_Frames_free := fun_mk (st := s_Frames_free) l_Frames_free q_Frames_free k_Frames_free
  have B_Frames_free := F_Frames_free.binds (ps := ["self"]) fun _ _ _ _ _ _ us hl => match us, hl with | [_], _ => rfl
  have F_Frames_uncharged := fun_mk (st := s_Frames_uncharged) l_Frames_uncharged q_Frames_uncharged k_Frames_uncharged
  have B_Frames_uncharged := F_Frames_uncharged.binds (ps := ["self", "environment"]) fun _ _ _ _ _ _ us hl => match us, hl with | [_, _], _ => rfl
  have F_Frames_may_hold_more := fun_mk (st := s_Frames_may_hold_more) l_Frames_may_hold_more q_Frames_may_hold_more k_Frames_may_hold_more
  have B_Frames_may_hold_more := F_Frames_may_hold_more.binds (ps := ["self", "environment"]) fun _ _ _ _ _ _ us hl => match us, hl with | [_, _], _ => rfl
  have F_Frames_offered := fun_mk (st := s_Frames_offered) l_Frames_offered q_Frames_offered k_Frames_offered
  have B_Frames_offered := F_Frames_offered.binds (ps := ["self", "owner", "frame", "other"]) fun _ _ _ _ _ _ us hl => match us, hl with | [_, _, _, _], _ => rfl
  have F_Frames_end := fun_mk (st := s_Frames_end) l_Frames_end q_Frames_end k_Frames_end
  have B_Frames_end := F_Frames_end.binds (ps := ["self", "environment", "frame"]) fun _ _ _ _ _ _ us hl => match us, hl with | [_, _, _], _ => rfl
  have F_Frames_drop := fun_mk (st := s_Frames_drop) l_Frames_drop q_Frames_drop k_Frames_drop
  have B_Frames_drop := F_Frames_drop.binds (ps := ["self", "environment", "frame"]) fun _ _ _ _ _ _ us hl => match us, hl with | [_, _, _], _ => rfl
  have F_Frames_narrow := fun_mk (st := s_Frames_narrow) l_Frames_narrow q_Frames_narrow k_Frames_narrow
  have B_Frames_narrow := F_Frames_narrow.binds (ps := ["self", "environment", "frame"]) fun _ _ _ _ _ _ us hl => match us, hl with | [_, _, _], _ => rfl
  have F_Frames_ask_back := fun_mk (st := s_Frames_ask_back) l_Frames_ask_back q_Frames_ask_back k_Frames_ask_back
  have B_Frames_ask_back := F_Frames_ask_back.binds (ps := ["self", "environment", "many"]) fun _ _ _ _ _ _ us hl => match us, hl with | [_, _, _], _ => rfl
  have F_is_word := fun_mk (st := s_is_word) l_is_word q_is_word k_is_word
  have B_is_word := F_is_word.binds (ps := ["value"]) fun _ _ _ _ _ _ us hl => match us, hl with | [_], _ => rfl
  have F_Frames_read := fun_mk (st := s_Frames_read) l_Frames_read q_Frames_read k_Frames_read
  have B_Frames_read := F_Frames_read.binds (ps := ["self", "frame", "index"]) fun _ _ _ _ _ _ us hl => match us, hl with | [_, _, _], _ => rfl
  have F_Frames_write := fun_mk (st := s_Frames_write) l_Frames_write q_Frames_write k_Frames_write
  have B_Frames_write := F_Frames_write.binds (ps := ["self", "frame", "index", "word"]) fun _ _ _ _ _ _ us hl => match us, hl with | [_, _, _, _], _ => rfl
  have F_Frames_take_back := fun_mk (st := s_Frames_take_back) l_Frames_take_back q_Frames_take_back k_Frames_take_back
  have B_Frames_take_back := F_Frames_take_back.binds (ps := ["self", "environment"]) fun _ _ _ _ _ _ us hl => match us, hl with | [_, _], _ => rfl
  have F_Frames_slot_ended := fun_mk (st := s_Frames_slot_ended) l_Frames_slot_ended q_Frames_slot_ended k_Frames_slot_ended
  have B_Frames_slot_ended := F_Frames_slot_ended.binds (ps := ["self", "environment"]) fun _ _ _ _ _ _ us hl => match us, hl with | [_, _], _ => rfl
  have F_Frames_take := fun_mk (st := s_Frames_take) l_Frames_take q_Frames_take k_Frames_take
  have B_Frames_take := F_Frames_take.binds (ps := ["self", "environment"]) fun _ _ _ _ _ _ us hl => match us, hl with | [_, _], _ => rfl
  have F_includes := fun_mk (st := s_includes) l_includes q_includes k_includes
  have B_includes := F_includes.binds (ps := ["held", "right"]) fun _ _ _ _ _ _ us hl => match us, hl with | [_, _], _ => rfl
  have F_Frames_offer := fun_mk (st := s_Frames_offer) l_Frames_offer q_Frames_offer k_Frames_offer
  have B_Frames_offer := F_Frames_offer.binds (ps := ["self", "environment", "frame", "other", "right"]) fun _ _ _ _ _ _ us hl => match us, hl with | [_, _, _, _, _], _ => rfl
  have F_Frames_accept := fun_mk (st := s_Frames_accept) l_Frames_accept q_Frames_accept k_Frames_accept
  have B_Frames_accept := F_Frames_accept.binds (ps := ["self", "environment", "frame", "owner"]) fun _ _ _ _ _ _ us hl => match us, hl with | [_, _, _, _], _ => rfl
  have F_are_shares := fun_mk (st := s_are_shares) l_are_shares q_are_shares k_are_shares
  have B_are_shares := F_are_shares.binds (ps := ["value"]) fun _ _ _ _ _ _ us hl => match us, hl with | [_], _ => rfl
  have F_Frames_init := fun_mk (st := s_Frames_init) l_Frames_init q_Frames_init k_Frames_init
  have B_Frames_init := F_Frames_init.binds (ps := ["self", "many", "shares"]) fun _ _ _ _ _ _ us hl => match us, hl with | [_, _, _], _ => rfl
  have F_law_more := fun_mk (st := s_law_more) l_law_more q_law_more k_law_more
  have B_law_more := F_law_more.binds (ps := ["held", "shares", "many", "environment"]) fun _ _ _ _ _ _ us hl => match us, hl with | [_, _, _, _], _ => rfl
  have F_law_end := fun_mk (st := s_law_end) l_law_end q_law_end k_law_end
  have B_law_end := F_law_end.binds (ps := ["book", "environment", "frame"]) fun _ _ _ _ _ _ us hl => match us, hl with | [_, _, _], _ => rfl
  have F_law_take := fun_mk (st := s_law_take) l_law_take q_law_take k_law_take
  have B_law_take := F_law_take.binds (ps := ["book", "shares", "many", "environment"]) fun _ _ _ _ _ _ us hl => match us, hl with | [_, _, _, _], _ => rfl
  have F_law_accept := fun_mk (st := s_law_accept) l_law_accept q_law_accept k_law_accept
  have B_law_accept := F_law_accept.binds (ps := ["book", "shares", "many", "environment", "frame", "owner"]) fun _ _ _ _ _ _ us hl => match us, hl with | [_, _, _, _, _, _], _ => rfl
  have F_law_back := fun_mk (st := s_law_back) l_law_back q_law_back k_law_back
  have B_law_back := F_law_back.binds (ps := ["book", "shares", "environment"]) fun _ _ _ _ _ _ us hl => match us, hl with | [_, _, _], _ => rfl
  have F_law_own := fun_mk (st := s_law_own) l_law_own q_law_own k_law_own
  have B_law_own := F_law_own.binds (ps := ["deed", "book", "shares", "many"]) fun _ _ _ _ _ _ us hl => match us, hl with | [_, _, _, _], _ => rfl
  have F_law_deed := fun_mk (st := s_law_deed) l_law_deed q_law_deed k_law_deed
  have B_law_deed := F_law_deed.binds (ps := ["tape", "many"]) fun _ _ _ _ _ _ us hl => match us, hl with | [_, _], _ => rfl
  have F_law_done := fun_mk (st := s_law_done) l_law_done q_law_done k_law_done
  have B_law_done := F_law_done.binds (ps := ["frames", "deed"]) fun _ _ _ _ _ _ us hl => match us, hl with | [_, _], _ => rfl
  have F_law_shown := fun_mk (st := s_law_shown) l_law_shown q_law_shown k_law_shown
  have B_law_shown := F_law_shown.binds (ps := ["frames", "book", "shares", "many", "lost"]) fun _ _ _ _ _ _ us hl => match us, hl with | [_, _, _, _, _], _ => rfl
  have F_law := fun_mk (st := s_law) l_law q_law k_law
  refine ⟨PySem.W.fnOf "law" "law" (defArgs s_law) (defBody s_law) (defScope s_law) .none kV_law dc_law pm_law an_law cd_law ct_law, fun s v => .of_eq rfl, fun base _ _ => ?_⟩
  have D_law_next : Dfn l.prog w K mg base CX0 1 "_law_next" ["tape", "many"] spNext := ⟨f_law_next, _, ok_law_next F_law_next T , PySem.W.mg_of X G a_law_next, k_law_next, B_law_next⟩
  have D_is_at_least : Dfn l.prog w K mg base CX0 1 "is_at_least" ["value", "least"] spGe := ⟨f_is_at_least, _, ok_is_at_least F_is_at_least T , PySem.W.mg_of X G a_is_at_least, k_is_at_least, B_is_at_least⟩
  have D_is_between : Dfn l.prog w K mg base CX0 2 "is_between" ["value", "least", "most"] spBtw := ⟨f_is_between, _, ok_is_between F_is_between T D_is_at_least, PySem.W.mg_of X G a_is_between, k_is_between, B_is_between⟩
  have D_is_index : Dfn l.prog w K mg base CX0 3 "is_index" ["value", "many"] spIdx := ⟨f_is_index, _, ok_is_index F_is_index T D_is_between, PySem.W.mg_of X G a_is_index, k_is_index, B_is_index⟩
  have D_is_environment : Dfn l.prog w K mg base CX0 4 "is_environment" ["value"] spEnv := ⟨f_is_environment, _, ok_is_environment F_is_environment T D_is_index, PySem.W.mg_of X G a_is_environment, k_is_environment, B_is_environment⟩
  have D_Frames_is_frame : Mth l.prog w K mg base CX0 4 C_Frames "_is_frame" ["self", "value"] (spIsF C_Frames) := ⟨f_Frames_is_frame, _, ok_Frames_is_frame F_Frames_is_frame T D_is_index, ⟨a_Frames_is_frame, i_Frames_is_frame, k_Frames_is_frame⟩, B_Frames_is_frame, T.o_Frames⟩
  have D_Frames_right : Mth l.prog w K mg base CX0 5 C_Frames "right" ["self", "environment", "frame"] (spRight C_Frames) := ⟨f_Frames_right, _, ok_Frames_right F_Frames_right T D_is_environment D_Frames_is_frame, ⟨a_Frames_right, i_Frames_right, k_Frames_right⟩, B_Frames_right, T.o_Frames⟩
  have D_Frames_holdings : Mth l.prog w K mg base CX0 5 C_Frames "holdings" ["self", "environment"] (spHold C_Frames) := ⟨f_Frames_holdings, _, ok_Frames_holdings F_Frames_holdings T D_is_environment, ⟨a_Frames_holdings, i_Frames_holdings, k_Frames_holdings⟩, B_Frames_holdings, T.o_Frames⟩
  have D_Frames_share : Mth l.prog w K mg base CX0 5 C_Frames "share" ["self", "environment"] (spNat1 C_Frames shareOf) := ⟨f_Frames_share, _, ok_Frames_share F_Frames_share T D_is_environment, ⟨a_Frames_share, i_Frames_share, k_Frames_share⟩, B_Frames_share, T.o_Frames⟩
  have D_Frames_asked : Mth l.prog w K mg base CX0 5 C_Frames "asked" ["self", "environment"] (spNat1 C_Frames askOf) := ⟨f_Frames_asked, _, ok_Frames_asked F_Frames_asked T D_is_environment, ⟨a_Frames_asked, i_Frames_asked, k_Frames_asked⟩, B_Frames_asked, T.o_Frames⟩
  have D_Frames_charge : Mth l.prog w K mg base CX0 6 C_Frames "charge" ["self", "environment"] (spNat1 C_Frames chargeOf) := ⟨f_Frames_charge, _, ok_Frames_charge F_Frames_charge T D_Frames_holdings, ⟨a_Frames_charge, i_Frames_charge, k_Frames_charge⟩, B_Frames_charge, T.o_Frames⟩
  have D_Frames_taken : Mth l.prog w K mg base CX0 5 C_Frames "taken" ["self", "environment"] (spTaken C_Frames) := ⟨f_Frames_taken, _, ok_Frames_taken F_Frames_taken T D_is_environment, ⟨a_Frames_taken, i_Frames_taken, k_Frames_taken⟩, B_Frames_taken, T.o_Frames⟩
  have D_Frames_left : Mth l.prog w K mg base CX0 1 C_Frames "left" ["self"] (spLeft C_Frames) := ⟨f_Frames_left, _, ok_Frames_left F_Frames_left T , ⟨a_Frames_left, i_Frames_left, k_Frames_left⟩, B_Frames_left, T.o_Frames⟩
  have D_Frames_is_held : Mth l.prog w K mg base CX0 1 C_Frames "_is_held" ["self", "frame"] (spHeld C_Frames) := ⟨f_Frames_is_held, _, ok_Frames_is_held F_Frames_is_held T , ⟨a_Frames_is_held, i_Frames_is_held, k_Frames_is_held⟩, B_Frames_is_held, T.o_Frames⟩
  have D_Frames_free : Mth l.prog w K mg base CX0 2 C_Frames "free" ["self"] (spFree C_Frames) := ⟨f_Frames_free, _, ok_Frames_free F_Frames_free T D_Frames_is_held, ⟨a_Frames_free, i_Frames_free, k_Frames_free⟩, B_Frames_free, T.o_Frames⟩
  have D_Frames_uncharged : Mth l.prog w K mg base CX0 7 C_Frames "_uncharged" ["self", "environment"] (spNat1 C_Frames unchOf) := ⟨f_Frames_uncharged, _, ok_Frames_uncharged F_Frames_uncharged T D_Frames_share D_Frames_charge, ⟨a_Frames_uncharged, i_Frames_uncharged, k_Frames_uncharged⟩, B_Frames_uncharged, T.o_Frames⟩
  have D_Frames_may_hold_more : Mth l.prog w K mg base CX0 8 C_Frames "_may_hold_more" ["self", "environment"] (spMore C_Frames) := ⟨f_Frames_may_hold_more, _, ok_Frames_may_hold_more F_Frames_may_hold_more T D_Frames_uncharged D_Frames_left, ⟨a_Frames_may_hold_more, i_Frames_may_hold_more, k_Frames_may_hold_more⟩, B_Frames_may_hold_more, T.o_Frames⟩
  have D_Frames_offered : Mth l.prog w K mg base CX0 5 C_Frames "_offered" ["self", "owner", "frame", "other"] (spOff C_Frames) := ⟨f_Frames_offered, _, ok_Frames_offered F_Frames_offered T D_is_environment D_Frames_is_frame, ⟨a_Frames_offered, i_Frames_offered, k_Frames_offered⟩, B_Frames_offered, T.o_Frames⟩
  have D_Frames_end : Mth l.prog w K mg base CX0 1 C_Frames "_end" ["self", "environment", "frame"] (spEnd C_Frames) := ⟨f_Frames_end, _, ok_Frames_end F_Frames_end T , ⟨a_Frames_end, i_Frames_end, k_Frames_end⟩, B_Frames_end, T.o_Frames⟩
  have D_Frames_drop : Mth l.prog w K mg base CX0 6 C_Frames "drop" ["self", "environment", "frame"] (spDrop C_Frames) := ⟨f_Frames_drop, _, ok_Frames_drop F_Frames_drop T D_Frames_right D_Frames_end, ⟨a_Frames_drop, i_Frames_drop, k_Frames_drop⟩, B_Frames_drop, T.o_Frames⟩
  have D_Frames_narrow : Mth l.prog w K mg base CX0 6 C_Frames "narrow" ["self", "environment", "frame"] (spNarrow C_Frames) := ⟨f_Frames_narrow, _, ok_Frames_narrow F_Frames_narrow T D_Frames_right, ⟨a_Frames_narrow, i_Frames_narrow, k_Frames_narrow⟩, B_Frames_narrow, T.o_Frames⟩
  have D_Frames_ask_back : Mth l.prog w K mg base (L2.CX l.prog w) 5 C_Frames "ask_back" ["self", "environment", "many"] (spAsk C_Frames) := ⟨f_Frames_ask_back, _, ok_Frames_ask_back F_Frames_ask_back T D_is_environment D_is_at_least, ⟨a_Frames_ask_back, i_Frames_ask_back, k_Frames_ask_back⟩, B_Frames_ask_back, T.o_Frames⟩
  have D_is_word : Dfn l.prog w K mg base CX0 3 "is_word" ["value"] spWord := ⟨f_is_word, _, ok_is_word F_is_word T D_is_between, PySem.W.mg_of X G a_is_word, k_is_word, B_is_word⟩
  have D_Frames_read : Mth l.prog w K mg base (L2.CX l.prog w) 5 C_Frames "read" ["self", "frame", "index"] (spRead C_Frames) := ⟨f_Frames_read, _, ok_Frames_read F_Frames_read T D_Frames_is_frame D_is_index, ⟨a_Frames_read, i_Frames_read, k_Frames_read⟩, B_Frames_read, T.o_Frames⟩
  have D_Frames_write : Mth l.prog w K mg base (L2.CX l.prog w) 5 C_Frames "write" ["self", "frame", "index", "word"] (spWrite C_Frames) := ⟨f_Frames_write, _, ok_Frames_write F_Frames_write T D_Frames_is_frame D_is_index D_is_word, ⟨a_Frames_write, i_Frames_write, k_Frames_write⟩, B_Frames_write, T.o_Frames⟩
  have D_Frames_take_back : Mth l.prog w K mg base CX0 7 C_Frames "_take_back" ["self", "environment"] (spBack C_Frames) := ⟨f_Frames_take_back, _, ok_Frames_take_back F_Frames_take_back T D_Frames_charge D_Frames_share D_Frames_holdings D_Frames_end, ⟨a_Frames_take_back, i_Frames_take_back, k_Frames_take_back⟩, B_Frames_take_back, T.o_Frames⟩
  have D_Frames_slot_ended : Mth l.prog w K mg base (L2.CX l.prog w) 8 C_Frames "slot_ended" ["self", "environment"] (spSlot C_Frames) := ⟨f_Frames_slot_ended, _, ok_Frames_slot_ended F_Frames_slot_ended T D_is_environment D_Frames_take_back, ⟨a_Frames_slot_ended, i_Frames_slot_ended, k_Frames_slot_ended⟩, B_Frames_slot_ended, T.o_Frames⟩
  have D_Frames_take : Mth l.prog w K mg base CX0 9 C_Frames "take" ["self", "environment"] (spTake C_Frames) := ⟨f_Frames_take, _, ok_Frames_take F_Frames_take T D_is_environment D_Frames_may_hold_more D_Frames_free, ⟨a_Frames_take, i_Frames_take, k_Frames_take⟩, B_Frames_take, T.o_Frames⟩
  have D_includes : Dfn l.prog w K mg base CX0 1 "includes" ["held", "right"] spIncl := ⟨f_includes, _, ok_includes F_includes T , PySem.W.mg_of X G a_includes, k_includes, B_includes⟩
  have D_Frames_offer : Mth l.prog w K mg base CX0 6 C_Frames "offer" ["self", "environment", "frame", "other", "right"] (spOffer C_Frames) := ⟨f_Frames_offer, _, ok_Frames_offer F_Frames_offer T D_is_environment D_includes D_Frames_right, ⟨a_Frames_offer, i_Frames_offer, k_Frames_offer⟩, B_Frames_offer, T.o_Frames⟩
  have D_Frames_accept : Mth l.prog w K mg base CX0 9 C_Frames "accept" ["self", "environment", "frame", "owner"] (spAccept C_Frames) := ⟨f_Frames_accept, _, ok_Frames_accept F_Frames_accept T D_Frames_offered D_includes D_Frames_right D_Frames_may_hold_more, ⟨a_Frames_accept, i_Frames_accept, k_Frames_accept⟩, B_Frames_accept, T.o_Frames⟩
  have D_are_shares : Dfn l.prog w K mg base CX0 2 "are_shares" ["value"] spShares := ⟨f_are_shares, _, ok_are_shares F_are_shares T D_is_at_least, PySem.W.mg_of X G a_are_shares, k_are_shares, B_are_shares⟩
  have M_Frames : Mkr l.prog w K mg base (L2.CX l.prog w) 3 "Frames" C_Frames ["self", "many", "shares"] (spInitF C_Frames) := ⟨f_Frames_init, _, ⟨m_Frames, a_Frames_init, i_Frames_init, k_Frames⟩, ok_Frames_init F_Frames_init T D_is_between D_are_shares, B_Frames_init, PySem.W.mg_of X G a_Frames⟩
  have D_law_more : Dfn l.prog w K mg base CX0 1 "_law_more" ["held", "shares", "many", "environment"] spMoreL := ⟨f_law_more, _, ok_law_more F_law_more T , PySem.W.mg_of X G a_law_more, k_law_more, B_law_more⟩
  have D_law_end : Dfn l.prog w K mg base CX0 1 "_law_end" ["book", "environment", "frame"] spEndL := ⟨f_law_end, _, ok_law_end F_law_end T , PySem.W.mg_of X G a_law_end, k_law_end, B_law_end⟩
  have D_law_take : Dfn l.prog w K mg base CX0 2 "_law_take" ["book", "shares", "many", "environment"] spTakeL := ⟨f_law_take, _, ok_law_take F_law_take T D_law_more, PySem.W.mg_of X G a_law_take, k_law_take, B_law_take⟩
  have D_law_accept : Dfn l.prog w K mg base CX0 2 "_law_accept" ["book", "shares", "many", "environment", "frame", "owner"] spAcceptL := ⟨f_law_accept, _, ok_law_accept F_law_accept T D_law_more, PySem.W.mg_of X G a_law_accept, k_law_accept, B_law_accept⟩
  have D_law_back : Dfn l.prog w K mg base CX0 2 "_law_back" ["book", "shares", "environment"] spBackL := ⟨f_law_back, _, ok_law_back F_law_back T D_law_end, PySem.W.mg_of X G a_law_back, k_law_back, B_law_back⟩
  have D_law_own : Dfn l.prog w K mg base CX0 3 "_law_own" ["deed", "book", "shares", "many"] spOwnL := ⟨f_law_own, _, ok_law_own F_law_own T D_law_take D_law_accept D_law_back D_law_end, PySem.W.mg_of X G a_law_own, k_law_own, B_law_own⟩
  have D_law_deed : Dfn l.prog w K mg base CX0 2 "_law_deed" ["tape", "many"] spDeedL := ⟨f_law_deed, _, ok_law_deed F_law_deed T D_law_next, PySem.W.mg_of X G a_law_deed, k_law_deed, B_law_deed⟩
  have D_law_done : Dfn l.prog w K mg base CX0 10 "_law_done" ["frames", "deed"] (spDoneL C_Frames) := ⟨f_law_done, _, ok_law_done F_law_done T D_Frames_take D_Frames_offer D_Frames_accept D_Frames_drop D_Frames_narrow D_Frames_ask_back D_Frames_slot_ended, PySem.W.mg_of X G a_law_done, k_law_done, B_law_done⟩
  have D_law_shown : Dfn l.prog w K mg base CX0 7 "_law_shown" ["frames", "book", "shares", "many", "lost"] (spShownL C_Frames) := ⟨f_law_shown, _, ok_law_shown F_law_shown T D_Frames_left D_Frames_holdings D_Frames_charge D_Frames_taken D_Frames_asked D_Frames_share D_Frames_right, PySem.W.mg_of X G a_law_shown, k_law_shown, B_law_shown⟩
  exact ok_law F_law T D_law_next M_Frames D_law_deed D_law_own D_law_done D_Frames_read D_Frames_write D_law_shown
theorem walk {l : PySem.W.OpenLaw} {q : Program} {loose : List Str} {XP : (Str → Option Value) → Heap → Prop} {YP : World → Heap → Prop} {d : DefRec} {K : Params → PySem.W.Frag} (hn : l.most = some 63) (hdf : d.params.defaults = [])
    (hY : ∀ (w : World) (h : Heap), YP w h → (K w.params).In h)
    (F : ∀ (w : World) (mg : Str → Option Value) (fa : Addr) (h : Heap), (K w.params).In h → h.Ns mainGlobals mg → mg d.name = some (.ref fa) →
      ∃ fd : FuncData, (∀ (s : Shared) (u : Value), BindsTo s fd ⟨[u], []⟩ [("script", u)]) ∧ ∀ base : Heap, (K w.params).In base → base.Ns mainGlobals mg → FnOk l.prog w (K w.params) mg base CX0 11 fa fd ["script"] (spLaw (K w.params))) :
    PySem.W.WalkO q loose XP YP l.row.toRowW d [] (fun f vs => PySem.call f vs) :=
  L2.walk_of (n := 63) (k := 11) (x := "script") (CX := fun _ => CX0) (sp := fun w => spLaw (K w.params)) hn (by decide) hdf ⟨rfl, by decide, by decide⟩ hY F (fun _ _ a ns hl _ hS => ⟨a, ns, rfl, hS, fun _ => rfl⟩) fun _ _ _ _ _ z => z
end My
open PySem PySem.W PyProof.Rows in
set_option maxRecDepth 100000 in
set_option maxHeartbeats 0 in
theorem PySem.Challenge.cw_steadhold_k32_frames_by_shares_holds : PySem.Challenge.rw_steadhold_k32_frames_by_shares.Holds := by
  w_on; o_law; k_head; (case hw => w_witness2)
  k_fill
  refine My.walk (l := PySem.Challenge.rw_steadhold_k32_frames_by_shares) rfl rfl (fun w h Y => PySem.W.kIn_of Y) ?F
  case F =>
    intro w mg fa h KX G hmg
    refine' My.all_mk KX G hmg ?a_Frames ?g1_Frames ?g2_Frames ?g3_Frames ?g4_Frames ?m_Frames ?k_Frames ?n_Frames__words ?n_Frames__shares ?n_Frames__rights ?n_Frames__offers ?n_Frames__asked ?n_Frames__ends_to_wait ?n_Frames__taken ?a_NotValid ?k_NotValid ?x_NotValid ?e1_NotValid ?e2_NotValid ?e3_NotValid ?e4_NotValid ?a_law_next ?l_law_next ?q_law_next ?k_law_next ?a_is_at_least ?l_is_at_least ?q_is_at_least ?k_is_at_least ?a_is_between ?l_is_between ?q_is_between ?k_is_between ?a_is_index ?l_is_index ?q_is_index ?k_is_index ?a_is_environment ?l_is_environment ?q_is_environment ?k_is_environment ?a_Frames_is_frame ?i_Frames_is_frame ?l_Frames_is_frame ?q_Frames_is_frame ?k_Frames_is_frame ?a_Frames_right ?i_Frames_right ?l_Frames_right ?q_Frames_right ?k_Frames_right ?a_Frames_holdings ?i_Frames_holdings ?l_Frames_holdings ?q_Frames_holdings ?k_Frames_holdings ?a_Frames_share ?i_Frames_share ?l_Frames_share ?q_Frames_share ?k_Frames_share ?a_Frames_asked ?i_Frames_asked ?l_Frames_asked ?q_Frames_asked ?k_Frames_asked ?a_Frames_charge ?i_Frames_charge ?l_Frames_charge ?q_Frames_charge ?k_Frames_charge ?a_Frames_taken ?i_Frames_taken ?l_Frames_taken ?q_Frames_taken ?k_Frames_taken ?a_Frames_left ?i_Frames_left ?l_Frames_left ?q_Frames_left ?k_Frames_left ?a_Frames_is_held ?i_Frames_is_held ?l_Frames_is_held ?q_Frames_is_held ?k_Frames_is_held ?a_Frames_free ?i_Frames_free ?l_Frames_free ?q_Frames_free ?k_Frames_free ?a_Frames_uncharged ?i_Frames_uncharged ?l_Frames_uncharged ?q_Frames_uncharged ?k_Frames_uncharged ?a_Frames_may_hold_more ?i_Frames_may_hold_more ?l_Frames_may_hold_more ?q_Frames_may_hold_more ?k_Frames_may_hold_more ?a_Frames_offered ?i_Frames_offered ?l_Frames_offered ?q_Frames_offered ?k_Frames_offered ?a_Frames_end ?i_Frames_end ?l_Frames_end ?q_Frames_end ?k_Frames_end ?a_Frames_drop ?i_Frames_drop ?l_Frames_drop ?q_Frames_drop ?k_Frames_drop ?a_Frames_narrow ?i_Frames_narrow ?l_Frames_narrow ?q_Frames_narrow ?k_Frames_narrow ?a_Frames_ask_back ?i_Frames_ask_back ?l_Frames_ask_back ?q_Frames_ask_back ?k_Frames_ask_back ?a_is_word ?l_is_word ?q_is_word ?k_is_word ?a_Frames_read ?i_Frames_read ?l_Frames_read ?q_Frames_read ?k_Frames_read ?a_Frames_write ?i_Frames_write ?l_Frames_write ?q_Frames_write ?k_Frames_write ?a_Frames_take_back ?i_Frames_take_back ?l_Frames_take_back ?q_Frames_take_back ?k_Frames_take_back ?a_Frames_slot_ended ?i_Frames_slot_ended ?l_Frames_slot_ended ?q_Frames_slot_ended ?k_Frames_slot_ended ?a_Frames_take ?i_Frames_take ?l_Frames_take ?q_Frames_take ?k_Frames_take ?a_includes ?l_includes ?q_includes ?k_includes ?a_Frames_offer ?i_Frames_offer ?l_Frames_offer ?q_Frames_offer ?k_Frames_offer ?a_Frames_accept ?i_Frames_accept ?l_Frames_accept ?q_Frames_accept ?k_Frames_accept ?a_are_shares ?l_are_shares ?q_are_shares ?k_are_shares ?a_Frames_init ?i_Frames_init ?l_Frames_init ?q_Frames_init ?k_Frames_init ?a_law_more ?l_law_more ?q_law_more ?k_law_more ?a_law_end ?l_law_end ?q_law_end ?k_law_end ?a_law_take ?l_law_take ?q_law_take ?k_law_take ?a_law_accept ?l_law_accept ?q_law_accept ?k_law_accept ?a_law_back ?l_law_back ?q_law_back ?k_law_back ?a_law_own ?l_law_own ?q_law_own ?k_law_own ?a_law_deed ?l_law_deed ?q_law_deed ?k_law_deed ?a_law_done ?l_law_done ?q_law_done ?k_law_done ?a_law_shown ?l_law_shown ?q_law_shown ?k_law_shown ?a_law ?l_law ?q_law ?k_law ?z_abs ?z_all ?z_any ?z_bool ?z_int ?z_isinstance ?z_len ?z_list ?z_max ?z_min ?z_range ?z_sum ?y_ENVIRONMENTS ?y_PATIENCE ?y_TOP ?y_WORDS ?y__LEAST_FRAMES ?y__MOST_FRAMES
    (case a_Frames => k_is)
    (case g1_Frames => k_is)
    (case g2_Frames => k_is)
    (case g3_Frames => k_is)
    (case g4_Frames => k_is)
    (case m_Frames => k_is)
    (case k_Frames => k_is)
    (case n_Frames__words => k_is)
    (case n_Frames__shares => k_is)
    (case n_Frames__rights => k_is)
    (case n_Frames__offers => k_is)
    (case n_Frames__asked => k_is)
    (case n_Frames__ends_to_wait => k_is)
    (case n_Frames__taken => k_is)
    (case a_NotValid => k_is)
    (case k_NotValid => k_is)
    (case x_NotValid => k_exc)
    (case e1_NotValid => k_is)
    (case e2_NotValid => k_is)
    (case e3_NotValid => k_is)
    (case e4_NotValid => first | rfl | k_is)
    (case a_law_next => k_is)
    (case l_law_next => k_is)
    (case q_law_next => k_is)
    (case k_law_next => k_is)
    (case a_is_at_least => k_is)
    (case l_is_at_least => k_is)
    (case q_is_at_least => k_is)
    (case k_is_at_least => k_is)
    (case a_is_between => k_is)
    (case l_is_between => k_is)
    (case q_is_between => k_is)
    (case k_is_between => k_is)
    (case a_is_index => k_is)
    (case l_is_index => k_is)
    (case q_is_index => k_is)
    (case k_is_index => k_is)
    (case a_is_environment => k_is)
    (case l_is_environment => k_is)
    (case q_is_environment => k_is)
    (case k_is_environment => k_is)
    (case a_Frames_is_frame => k_is)
    (case i_Frames_is_frame => k_is)
    (case l_Frames_is_frame => k_is)
    (case q_Frames_is_frame => k_is)
    (case k_Frames_is_frame => k_is)
    (case a_Frames_right => k_is)
    (case i_Frames_right => k_is)
    (case l_Frames_right => k_is)
    (case q_Frames_right => k_is)
    (case k_Frames_right => k_is)
    (case a_Frames_holdings => k_is)
    (case i_Frames_holdings => k_is)
    (case l_Frames_holdings => k_is)
    (case q_Frames_holdings => k_is)
    (case k_Frames_holdings => k_is)
    (case a_Frames_share => k_is)
    (case i_Frames_share => k_is)
    (case l_Frames_share => k_is)
    (case q_Frames_share => k_is)
    (case k_Frames_share => k_is)
    (case a_Frames_asked => k_is)
    (case i_Frames_asked => k_is)
    (case l_Frames_asked => k_is)
    (case q_Frames_asked => k_is)
    (case k_Frames_asked => k_is)
    (case a_Frames_charge => k_is)
    (case i_Frames_charge => k_is)
    (case l_Frames_charge => k_is)
    (case q_Frames_charge => k_is)
    (case k_Frames_charge => k_is)
    (case a_Frames_taken => k_is)
    (case i_Frames_taken => k_is)
    (case l_Frames_taken => k_is)
    (case q_Frames_taken => k_is)
    (case k_Frames_taken => k_is)
    (case a_Frames_left => k_is)
    (case i_Frames_left => k_is)
    (case l_Frames_left => k_is)
    (case q_Frames_left => k_is)
    (case k_Frames_left => k_is)
    (case a_Frames_is_held => k_is)
    (case i_Frames_is_held => k_is)
    (case l_Frames_is_held => k_is)
    (case q_Frames_is_held => k_is)
    (case k_Frames_is_held => k_is)
    (case a_Frames_free => k_is)
    (case i_Frames_free => k_is)
    (case l_Frames_free => k_is)
    (case q_Frames_free => k_is)
    (case k_Frames_free => k_is)
    (case a_Frames_uncharged => k_is)
    (case i_Frames_uncharged => k_is)
    (case l_Frames_uncharged => k_is)
    (case q_Frames_uncharged => k_is)
    (case k_Frames_uncharged => k_is)
    (case a_Frames_may_hold_more => k_is)
    (case i_Frames_may_hold_more => k_is)
    (case l_Frames_may_hold_more => k_is)
    (case q_Frames_may_hold_more => k_is)
    (case k_Frames_may_hold_more => k_is)
    (case a_Frames_offered => k_is)
    (case i_Frames_offered => k_is)
    (case l_Frames_offered => k_is)
    (case q_Frames_offered => k_is)
    (case k_Frames_offered => k_is)
    (case a_Frames_end => k_is)
    (case i_Frames_end => k_is)
    (case l_Frames_end => k_is)
    (case q_Frames_end => k_is)
    (case k_Frames_end => k_is)
    (case a_Frames_drop => k_is)
    (case i_Frames_drop => k_is)
    (case l_Frames_drop => k_is)
    (case q_Frames_drop => k_is)
    (case k_Frames_drop => k_is)
    (case a_Frames_narrow => k_is)
    (case i_Frames_narrow => k_is)
    (case l_Frames_narrow => k_is)
    (case q_Frames_narrow => k_is)
    (case k_Frames_narrow => k_is)
    (case a_Frames_ask_back => k_is)
    (case i_Frames_ask_back => k_is)
    (case l_Frames_ask_back => k_is)
    (case q_Frames_ask_back => k_is)
    (case k_Frames_ask_back => k_is)
    (case a_is_word => k_is)
    (case l_is_word => k_is)
    (case q_is_word => k_is)
    (case k_is_word => k_is)
    (case a_Frames_read => k_is)
    (case i_Frames_read => k_is)
    (case l_Frames_read => k_is)
    (case q_Frames_read => k_is)
    (case k_Frames_read => k_is)
    (case a_Frames_write => k_is)
    (case i_Frames_write => k_is)
    (case l_Frames_write => k_is)
    (case q_Frames_write => k_is)
    (case k_Frames_write => k_is)
    (case a_Frames_take_back => k_is)
    (case i_Frames_take_back => k_is)
    (case l_Frames_take_back => k_is)
    (case q_Frames_take_back => k_is)
    (case k_Frames_take_back => k_is)
    (case a_Frames_slot_ended => k_is)
    (case i_Frames_slot_ended => k_is)
    (case l_Frames_slot_ended => k_is)
    (case q_Frames_slot_ended => k_is)
    (case k_Frames_slot_ended => k_is)
    (case a_Frames_take => k_is)
    (case i_Frames_take => k_is)
    (case l_Frames_take => k_is)
    (case q_Frames_take => k_is)
    (case k_Frames_take => k_is)
    (case a_includes => k_is)
    (case l_includes => k_is)
    (case q_includes => k_is)
    (case k_includes => k_is)
    (case a_Frames_offer => k_is)
    (case i_Frames_offer => k_is)
    (case l_Frames_offer => k_is)
    (case q_Frames_offer => k_is)
    (case k_Frames_offer => k_is)
    (case a_Frames_accept => k_is)
    (case i_Frames_accept => k_is)
    (case l_Frames_accept => k_is)
    (case q_Frames_accept => k_is)
    (case k_Frames_accept => k_is)
    (case a_are_shares => k_is)
    (case l_are_shares => k_is)
    (case q_are_shares => k_is)
    (case k_are_shares => k_is)
    (case a_Frames_init => k_is)
    (case i_Frames_init => k_is)
    (case l_Frames_init => k_is)
    (case q_Frames_init => k_is)
    (case k_Frames_init => k_is)
    (case a_law_more => k_is)
    (case l_law_more => k_is)
    (case q_law_more => k_is)
    (case k_law_more => k_is)
    (case a_law_end => k_is)
    (case l_law_end => k_is)
    (case q_law_end => k_is)
    (case k_law_end => k_is)
    (case a_law_take => k_is)
    (case l_law_take => k_is)
    (case q_law_take => k_is)
    (case k_law_take => k_is)
    (case a_law_accept => k_is)
    (case l_law_accept => k_is)
    (case q_law_accept => k_is)
    (case k_law_accept => k_is)
    (case a_law_back => k_is)
    (case l_law_back => k_is)
    (case q_law_back => k_is)
    (case k_law_back => k_is)
    (case a_law_own => k_is)
    (case l_law_own => k_is)
    (case q_law_own => k_is)
    (case k_law_own => k_is)
    (case a_law_deed => k_is)
    (case l_law_deed => k_is)
    (case q_law_deed => k_is)
    (case k_law_deed => k_is)
    (case a_law_done => k_is)
    (case l_law_done => k_is)
    (case q_law_done => k_is)
    (case k_law_done => k_is)
    (case a_law_shown => k_is)
    (case l_law_shown => k_is)
    (case q_law_shown => k_is)
    (case k_law_shown => k_is)
    (case a_law => k_is)
    (case l_law => k_is)
    (case q_law => k_is)
    (case k_law => k_is)
    (case z_abs => k_is)
    (case z_all => k_is)
    (case z_any => k_is)
    (case z_bool => k_is)
    (case z_int => k_is)
    (case z_isinstance => k_is)
    (case z_len => k_is)
    (case z_list => k_is)
    (case z_max => k_is)
    (case z_min => k_is)
    (case z_range => k_is)
    (case z_sum => k_is)
    (case y_ENVIRONMENTS => k_is)
    (case y_PATIENCE => k_is)
    (case y_TOP => k_is)
    (case y_WORDS => k_is)
    (case y__LEAST_FRAMES => k_is)
    (case y__MOST_FRAMES => k_is)
