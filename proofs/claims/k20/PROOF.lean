import PyProof.Rows.All
import Wide.All
import OpenK.AllK
import Wide.FinOn
import HandS.ForMost
import HandS.IsInst
import HandS.Exc
import HandS.TryOnly
import HandS.ExcOwn
import HandS.WordsExc
import HandS.RaiseMore
import HandS.Codes
import HandS.TupAny
import PyProof.NeKinds
import HandS.DictComp
import HandS.DeepEq
import HandS.TupMul
import HandS.Style
import PySem.Challenge.RW_steadhold_k20_faults_of_disks
import HandS.Zip
import HandS.TupLe
import HandS.Deep
import HandS.Conv
set_option Elab.async false
set_option linter.all false
set_option maxRecDepth 100000
set_option maxHeartbeats 4000000
namespace My
open PySem L2
/-! ### rules that the layer lacks -/
section
variable {X : Cx}
/-- xs[i] as the read of xs[i] op= e -/
theorem get_list : PGet X (rIxL X.K) := fun pins s0 σ H o1 o2 u1 u2 Q I r1 r2 hh => by
  obtain ⟨l, xs, n, z, e1, e2, hl, hn, q⟩ := hh
  subst e1; subst e2
  cases r1
  obtain ⟨tk, e3⟩ := r2
  subst e3
  obtain ⟨us, rel, pll, _⟩ := I.list hl
  obtain ⟨j, c1, c2, _, c4, c5⟩ := atI_get hn
  obtain ⟨u, hu, ru⟩ := rel.get c2
  have len := rel.length
  have big := line63
  have goal : EP X pins σ Q u s0 := ⟨z, H, I, ru, q⟩
  rcases Int.lt_or_le n 0 with neg | pos
  · have hj : (n + (us.toArray.size : Int)).toNat = j := by
      rw [seqIndex_neg neg c4] at c1
      have c1' := Option.some.inj c1
      simpa [← len] using c1'
    exact PySem.wpAny_getItem_list_neg pll.isList neg (by simp; omega) (by omega) (by rw [hj]; simpa using hu) goal
  · have hj : n.toNat = j := by
      rw [seqIndex_of pos c5] at c1
      exact Option.some.inj c1
    exact PySem.wpAny_getItem_list pll.isList pos (by omega) (by rw [hj]; simpa using hu) goal
/-- a module's int, text -/
theorem pe_gint {x : Str} {i : Int} {pos : Pos} (hg : Gl X x) (hm : ∃ t, X.mg x = some (.int i t)) (hd : (x == ("__debug__" : Str)) = false := by decide) : PE X (.Name x pos) (tC (.int i)) := by
  obtain ⟨t, hm⟩ := hm
  exact pe_glob hg hm ⟨t, rfl⟩ hd
theorem pe_gstr {x i : Str} {pos : Pos} (hg : Gl X x) (hm : ∃ t, X.mg x = some (.str i t)) (hd : (x == ("__debug__" : Str)) = false := by decide) : PE X (.Name x pos) (tC (.str i)) := by
  obtain ⟨t, hm⟩ := hm
  exact pe_glob hg hm ⟨t, rfl⟩ hd
end
/-! ### rules with the written part named -/
def rLen (K : PySem.W.Frag) : List V → Hp → VK → Prop := fun xs H Q => ∃ p ys, xs = [.ref p] ∧ (SqL K H p ys ∨ SqT K H p ys) ∧ Q (.int ys.length) H
def rListOf (K : PySem.W.Frag) : List V → Hp → VK → Prop := fun xs H Q => ∃ p ys, xs = [.ref p] ∧ (SqL K H p ys ∨ SqT K H p ys) ∧ ∀ l, H l = none → Q (.ref l) (upd H l (.lst ys))
def rTupOf (K : PySem.W.Frag) : List V → Hp → VK → Prop := fun xs H Q => ∃ p ys, xs = [.ref p] ∧ ((SqL K H p ys ∧ ∀ l, H l = none → Q (.ref l) (upd H l (.tup ys))) ∨ (SqT K H p ys ∧ Q (.ref p) H))
section
variable {X : Cx} (K : PySem.W.Frag)
theorem kIxL (h : X.K = K := by rfl) : IxR X (rIxL K) := by subst h; exact ix_list
theorem kIxT (h : X.K = K := by rfl) : IxR X (rIxT K) := by subst h; exact ix_tup
theorem kGetL (h : X.K = K := by rfl) : PGet X (rIxL K) := by subst h; exact get_list
theorem kSlL (h : X.K = K := by rfl) : SlR X (rSlL K) := by subst h; exact sl_list
theorem kSlT (h : X.K = K := by rfl) : SlR X (rSlA K) := by subst h; exact sl_tupA
theorem kEqD (hu : X.A.units + 64 < cLine) (h : X.K = K := by rfl) : OpR X (compareOp .Eq) (rEqD K) := by subst h; exact op_eqD hu
theorem kNeD (hu : X.A.units + 64 < cLine) (h : X.K = K := by rfl) : OpR X (compareOp .NotEq) (rNeD K) := by subst h; exact op_neD hu
theorem kIn (h : X.K = K := by rfl) : OpR X (compareOp .In) (rIn K false) := by subst h; exact op_in_seq
theorem kNotIn (h : X.K = K := by rfl) : OpR X (compareOp .NotIn) (rIn K true) := by subst h; exact op_notIn_seq
theorem kCatT (h : X.K = K := by rfl) : OpR X (binaryOp .Add) (rCatA K) := by subst h; exact op_catA
theorem kLen (h : X.K = K := by rfl) : CallR X (.builtin "len") (rLen K) := by subst h; exact call_len_seq
theorem kListOf (h : X.K = K := by rfl) : CallR X (.type "list") (rListOf K) := by subst h; exact call_list_of
theorem kTupOf (h : X.K = K := by rfl) : CallR X (.type "tuple") (rTupOf K) := by subst h; exact call_tuple_of
theorem kIsi (h : X.K = K := by rfl) : CallR X (.builtin "isinstance") (rIsi K) := by subst h; exact call_isi
theorem kAll (hc : X.calm = true) (h : X.K = K := by rfl) : CallR X (.builtin "all") (rAll K) := by subst h; exact cr_all hc
theorem kAny (hc : X.calm = true) (h : X.K = K := by rfl) : CallR X (.builtin "any") (rAny K) := by subst h; exact cr_any hc
theorem kSum (hc : X.calm = true) (h : X.K = K := by rfl) : CallR X (.builtin "sum") (rSum K) := by subst h; exact cr_sum hc
theorem kSorted (h : X.K = K := by rfl) : CallR X (.builtin "sorted") (rSorted K) := by subst h; exact cr_sorted
theorem kIndex (h : X.K = K := by rfl) : MtR X "list.index" (rIndex K) := by subst h; exact mt_index
section
variable {tg l : Expr} {tl : TE} {pos : Pos}
theorem kpiL (hl : PE X l tl) (h : X.K = K := by rfl) : PI X tg l (iList K tl) := by subst h; exact pi_list hl
theorem kpiT (hl : PE X l tl) (h : X.K = K := by rfl) : PI X tg l (iTup K tl) := by subst h; exact pi_tup hl
theorem kpgT {es : List Expr} {k : Nat} {t : TGs} {n : Nat} (hc : X.calm = true) (hh : PGs X es t)
    (hn : (assignEach es X.env).length = n := by rfl) (hst : (assignEach es X.env).findIdx? (·.1) = none := by rfl) (h : X.K = K := by rfl) : PG X (.Tuple es k pos) (gTup K n t) := by subst h; exact pg_tup hc hh hn hst
theorem kBM0 {o : Expr} {to : TE} {name : Str} {apos cpos : Pos} {T id : String} {r : V → List V → Hp → VK → Prop} (pa : PlainAttrs T) (slot : Slot T name id) (hty : typeOf (.builtin id) = pure (.type "method_descriptor")) (hm : MtR X id r) (ho : PE X o to)
    (hbase : attributeBase o name X.env (eval o X.env) = eval o X.env := by rfl) (hline : (apos.endLine == cpos.line) = true := by rfl) (h : X.K = K := by rfl) : PE X (.Call (.Attribute o name apos) [] [] cpos) (tBM0 K T r to) := by
  subst h; exact pe_bm0 pa slot hty hm ho hbase hline
theorem kBM {o e : Expr} {es : List Expr} {to : TE} {t : TA} {name : Str} {apos cpos : Pos} {T id : String} {r : V → List V → Hp → VK → Prop} (pa : PlainAttrs T) (slot : Slot T name id) (hty : typeOf (.builtin id) = pure (.type "method_descriptor")) (hm : MtR X id r) (ho : PE X o to) (ha : PA X (e :: es) t)
    (hbase : attributeBase o name X.env (eval o X.env) = eval o X.env := by rfl)
    (hfew : ((backTo cpos (starEach (e :: es) X.env)).all (fun x => !x.1) && (backToKw cpos (keywordEach [] X.env)).all (fun x => x.1.isSome)
      && decide ((e :: es).length + ([] : List Keyword).length + (if ([] : List Keyword).isEmpty then 0 else 1) < 30)) = true := by rfl)
    (hline : (apos.endLine == cpos.line) = true := by rfl) (hs : starEach (e :: es) X.env = (false, eval e X.env) :: starEach es X.env := by rfl) (hplain : (backTo cpos (starEach es X.env)).any (·.1) = false := by rfl) (h : X.K = K := by rfl) :
    PE X (.Call (.Attribute o name apos) (e :: es) [] cpos) (tBM K T r to t) := by
  subst h; exact pe_bm pa slot hty hm ho ha hbase hfew hline hs hplain
theorem kSFld {o value : Expr} {f : Str} {pos' : Pos} {ta tv : TE} (ha : PE X o ta) (hv : PE X value tv) (hs : swapsWith value (some (.Attribute o f pos')) pos.line X.env = pure false) (h : X.K = K := by rfl) : PS X (.Assign [.Attribute o f pos'] value pos) (sFld K ta tv f) := by subst h; exact ps_fld ha hv hs
theorem kSFldA {o value : Expr} {f : Str} {tpos : Pos} {ta tv : TE} {op : Operator} {rd : V → V → Hp → VK → Prop} (ha : PE X o ta) (hv : PE X value tv) (hop : InOp X op rd) (h : X.K = K := by rfl) : PS X (.AugAssign (.Attribute o f tpos) op value pos) (sFldAug K ta tv rd f) := by subst h; exact ps_fldaug ha hv hop
theorem kFld {f : Str} (he : PE X l tl) (hb : attributeBase l f X.env (eval l X.env) = eval l X.env) (h : X.K = K := by rfl) : PE X (.Attribute l f pos) (tFld K tl f) := by subst h; exact pe_fld he hb
end
end
/-! ### xs.count(y), flat items -/
theorem countP_eqU {x : V} {v : Value} (rx : RelV x v) : ∀ {xs : List V} {us : List Value}, Vals xs us → xs.all flatV = true → us.countP (eqU x) = xs.countP fun y => eqV y x
  | _, _, .nil, _ => rfl
  | y :: xs, u :: us, .cons r t, f => by
    rw [List.all_cons, Bool.and_eq_true] at f
    rw [List.countP_cons, List.countP_cons, countP_eqU rx t f.2, eqU_of r f.1]
def rCount (K : PySem.W.Frag) : V → List V → Hp → VK → Prop := fun x vs H Q => ∃ (p : Addr) (xs : List V) (y : V), x = .ref p ∧ vs = [y] ∧ SqL K H p xs ∧ flatV y = true ∧ xs.all flatV = true ∧ Q (.int (xs.countP (fun z => eqV z y) : Nat)) H
theorem kCount {X : Cx} (K : PySem.W.Frag) (h : X.K = K := by rfl) : MtR X "list.count" (rCount K) := by
  subst h
  intro pins s0 σ H x vs u us Q I r1 r2 hh
  obtain ⟨p, xs, y, rfl, rfl, hl, fy, fx, q⟩ := hh
  cases r1
  cases r2 with
  | cons ry rn =>
    cases rn
    obtain ⟨ws, rel, ⟨⟨c0, d0, dat, sl0⟩, n, ho, hc, _, hd⟩, _⟩ := I.list hl
    dsimp only at hc hd
    subst hc hd
    refine call_meets PySem.F.slot_list_count ⟨_, ho, rfl⟩ PySem.F.entry_list_count (PySem.F.args_list_count_2 _ _)
      (SeqAt.list_countAt p ws.toArray n d0 sl0 _ (eqU y)) ⟨ho, fun z hz => mem_eqAt ry fy rel fx z (by simpa using hz), ?_⟩
    refine ⟨.int (xs.countP (fun z => eqV z y) : Nat), H, I.tok _, ⟨s0.toks, ?_⟩, q⟩
    rw [← countP_eqU ry rel fx]
/-! ### a def by its name -/
section
variable {P : Program} {w : World} {K : PySem.W.Frag} {mg : Str → Option Value} {base : Heap}
structure Dfn (P : Program) (w : World) (K : PySem.W.Frag) (mg : Str → Option Value) (base : Heap) (CX : CXT) (k : Nat) (x : Str) (ps : List Str) (sp : Sp) : Prop where
  ex : ∃ f fd, FnOk P w K mg base CX k f fd ps sp ∧ mg x = some (.ref f) ∧ PySem.W.keepIn K (.ref f) = true ∧ Binds K fd ps []
theorem Dfn.imp {CX : CXT} {k : Nat} {x : Str} {ps : List Str} {sp sp' : Sp} (D : Dfn P w K mg base CX k x ps sp) (h : ∀ vs H Q E, sp' vs H Q E → sp vs H Q E) : Dfn P w K mg base CX k x ps sp' := by
  obtain ⟨f, fd, F, a, b, c⟩ := D.ex
  exact ⟨f, fd, F.imp h, a, b, c⟩
end
section
variable {X : Cx} {CX : CXT} {k : Nat} {x : Str} {ps : List Str} {sp : Sp} {E : XK} {t : TA} {e : Expr} {es : List Expr} {p pos : Pos}
theorem pe_dcall (D : Dfn X.prog X.w X.K X.mg X.base CX k x ps sp) (hr : Room k X.A) (hg : Gl X x) (hx : Passes CX X E) (ha : PA X (e :: es) t) (hdb : (x == ("__debug__" : Str)) = false := by decide)
    (he : starEach (e :: es) X.env = (false, eval e X.env) :: starEach es X.env := by rfl) (hpl : (backTo pos (starEach es X.env)).any (·.1) = false := by rfl) : PE X (.Call (.Name x p) (e :: es) [] pos) (tCall sp [] E t) := by
  obtain ⟨f, fd, F, hm, hk, hb⟩ := D.ex
  exact pe_call F hr hg hm hk hb .nil hx ha hdb he hpl
theorem pe_dcall0 (D : Dfn X.prog X.w X.K X.mg X.base CX k x ps sp) (hr : Room k X.A) (hg : Gl X x) (hx : Passes CX X E) (hdb : (x == ("__debug__" : Str)) = false := by decide) : PE X (.Call (.Name x p) [] [] pos) (tCall sp [] E tNil) := by
  obtain ⟨f, fd, F, hm, hk, hb⟩ := D.ex
  exact pe_call0 F hr hg hm hk hb .nil hx hdb
end
/-! ### own errors, objects, methods by their names -/
/-- an own error class without an __init__, over ValueError -/
structure Exn (K : PySem.W.Frag) (mg : Str → Option Value) (x : Str) (C : Addr) : Prop where
  gC : mg x = some (.ref C)
  kC : PySem.W.keepIn K (.ref C) = true
  xI : PySem.W.excIn K C [.type "ValueError", .type "Exception", .type "BaseException", .type "object"] "ValueError.__new__" = true
  bE : PySem.W.subIn K (.ref C) (.type "BaseException") = some true
  tE : PySem.W.typeIn K (.ref C) = some (.type "type")
  eE : PySem.W.exmOne K (.ref C) (.ref C) = some true
section
variable {X : Cx} {C : Addr} {x : Str} {p pos : Pos}
/-- X() of such a class -/
theorem pmk_x (N : Exn X.K X.mg x C) (hg : Gl X x) (hdb : (x == ("__debug__" : Str)) = false := by decide) : PMk X (.Call (.Name x p) [] [] pos) (fun _ H Q => Q (.ref C) none H) := fun pins s σ H Q I h => by
  refine wpAny_Call_Name_kw (ld_glob I hg N.gC ?_ hdb)
  refine PySem.W.callWith_K0 (first := []) I.kIn N.kC ?_
  obtain ⟨m1, m2, m3, m4, m5, m6, m7, m8, m9, m10, m11, r0, r1, r2, r3, r4, mN, hC, hN, hi, tl⟩ := exc_obj I.kIn N.xI
  exact wpAny_call_exc_subT PySem.F.excBase_ValueError tl hC hN hi (fun _ _ made => mk_of I made (raises_own N.bE N.tE) h (I.hok.gone made.new)) (Nat.zero_le _)
end
section
variable {P : Program} {w : World} {K : PySem.W.Frag} {mg : Str → Option Value} {base : Heap}
/-- a method of the class at C -/
structure Mth (P : Program) (w : World) (K : PySem.W.Frag) (mg : Str → Option Value) (base : Heap) (CX : CXT) (k : Nat) (C : Addr) (m : Str) (ps : List Str) (sp : Sp) : Prop where
  ex : ∃ f fd, FnOk P w K mg base CX k f fd ps sp ∧ Meth K C m f ∧ Binds K fd ps [] ∧ Cls K C
/-- the making of its instances -/
structure Mkr (P : Program) (w : World) (K : PySem.W.Frag) (mg : Str → Option Value) (base : Heap) (CX : CXT) (k : Nat) (x : Str) (C : Addr) (ps : List Str) (sp : Sp) : Prop where
  ex : ∃ f fd, Mk K C f ∧ FnOk P w K mg base CX k f fd ps sp ∧ Binds K fd ps [] ∧ mg x = some (.ref C)
end
section
variable {X : Cx} {CX : CXT} {k : Nat} {C : Addr} {m x : Str} {ps : List Str} {sp : Sp} {E : XK} {t : TA} {ta : TE} {e o : Expr} {es : List Expr} {p pos apos : Pos}
theorem pe_dmeth {pl : Sem Bool} (he : PE X o ta) (D : Mth X.prog X.w X.K X.mg X.base CX k C m ps sp) (hr : Room k X.A) (hx : Passes CX X E) (ha : PA X (e :: es) t)
    (hst : starEach (e :: es) X.env = (false, eval e X.env) :: starEach es X.env := by rfl) (hpl : (backTo pos (starEach es X.env)).any (·.1) = false := by rfl)
    (ht : eval (.Call (.Attribute o m apos) (e :: es) [] pos) X.env = (do
      let ov ← eval o X.env
      standAt apos.atName
      let (f, first) ← holding [ov] (getMethod ov m pl)
      callWith pos f first (backTo pos (starEach (e :: es) X.env)) (backToKw pos (keywordEach [] X.env))) := by rfl) :
    PE X (.Call (.Attribute o m apos) (e :: es) [] pos) (tMeth C m sp [] E ta t) := by
  obtain ⟨f, fd, F, hm, hb, c⟩ := D.ex
  exact pe_meth (pl := pl) he c hm F hr hb .nil hx ha hst hpl ht
theorem pe_dmeth0 {pl : Sem Bool} (he : PE X o ta) (D : Mth X.prog X.w X.K X.mg X.base CX k C m ps sp) (hr : Room k X.A) (hx : Passes CX X E)
    (ht : eval (.Call (.Attribute o m apos) [] [] pos) X.env = (do
      let ov ← eval o X.env
      standAt apos.atName
      let (f, first) ← holding [ov] (getMethod ov m pl)
      callWith pos f first (backTo pos (starEach [] X.env)) (backToKw pos (keywordEach [] X.env))) := by rfl) :
    PE X (.Call (.Attribute o m apos) [] [] pos) (tMeth C m sp [] E ta tNil) := by
  obtain ⟨f, fd, F, hm, hb, c⟩ := D.ex
  exact pe_meth0 (pl := pl) he c hm F hr hb .nil hx ht
theorem pe_dmake (D : Mkr X.prog X.w X.K X.mg X.base CX k x C ps sp) (hr : Room (k + 1) X.A) (hg : Gl X x) (hx : Passes CX X E) (ha : PA X (e :: es) t) (hdb : (x == ("__debug__" : Str)) = false := by decide)
    (he : starEach (e :: es) X.env = (false, eval e X.env) :: starEach es X.env := by rfl) (hpl : (backTo pos (starEach es X.env)).any (·.1) = false := by rfl) : PE X (.Call (.Name x p) (e :: es) [] pos) (tMake C sp [] E t) := by
  obtain ⟨f, fd, M, F, hb, hm⟩ := D.ex
  exact pe_make M F hr hg hm hb .nil hx ha hdb he hpl
/-- out of a try's body: what is wished at all slots -/
abbrev EA (W : WX) : XK := fun cls d H => ∀ σ, W cls d σ H
theorem passT {W : WX} (tk : Takes X W) : Passes (L2.CX X.prog X.w) X (EA W) := passes_call tk fun _ _ σ _ h => h σ
end
/-! ### heaps -/
/-- all but a is kept -/
def Chg (a : Addr) (H H' : Hp) : Prop := ∀ b o, b ≠ a → H b = some o → H' b = some o
/-- tuples never change -/
def TS (H H' : Hp) : Prop := ∀ b xs, H b = some (.tup xs) → H' b = some (.tup xs)
theorem TS.refl (H : Hp) : TS H H := fun _ _ h => h
theorem TS.trans {H H1 H2 : Hp} (a : TS H H1) (b : TS H1 H2) : TS H H2 := fun c xs h => b c xs (a c xs h)
theorem Same.ts {H H' : Hp} (s : Same H H') : TS H H' := fun b xs h => s b _ h
theorem Chg.refl (a : Addr) (H : Hp) : Chg a H H := fun _ _ _ h => h
theorem Chg.trans {a : Addr} {H H1 H2 : Hp} (x : Chg a H H1) (y : Chg a H1 H2) : Chg a H H2 := fun b o n h => y b o n (x b o n h)
theorem Same.chg {a : Addr} {H H' : Hp} (s : Same H H') : Chg a H H' := fun b o _ h => s b o h
theorem Same.new {H : Hp} {p : Addr} {o : HO} (h : H p = none) : Same H (upd H p o) := fun b u e => by
  rw [upd_ne (ne_of_none e h)]
  exact e
theorem Chg.upd {a : Addr} {H : Hp} {o : HO} : Chg a H (upd H a o) := fun b u n e => by
  rw [upd_ne n]
  exact e
theorem Chg.ts {a : Addr} {H H' : Hp} {xs : List V} (c : Chg a H H') (h : H a = some (.lst xs)) : TS H H' := fun b ys e => c b _ (ne_of e h (by intro z; cases z)) e
/-- a new object may change at will -/
theorem Same.mut {H H' : Hp} {p : Addr} {o : HO} (s : Same H H') (h : H p = none) : Same H (L2.upd H' p o) := fun b u e => by
  rw [upd_ne (ne_of_none e h)]
  exact s b u e
theorem Chg.mut {a : Addr} {H H' : Hp} {p : Addr} {o : HO} (s : Chg a H H') (h : H p = none) : Chg a H (L2.upd H' p o) := fun b u n e => by
  rw [upd_ne (ne_of_none e h)]
  exact s b u n e
/-- a word that the steps do not look into -/
@[irreducible] def Hide (p : Prop) : Prop := p
theorem hide {p : Prop} (h : p) : Hide p := by unfold Hide; exact h
theorem Hide.out {p : Prop} (h : Hide p) : p := by unfold Hide at h; exact h
/-! ### small lemmas of readings -/
theorem iteD {c : Prop} [Decidable c] {A B : Prop} (h1 : c → A) (h2 : ¬ c → B) : if decide c = true then A else B := by
  by_cases h : c
  · rw [if_pos (decide_eq_true h)]; exact h1 h
  · rw [if_neg (by rw [decide_eq_false h]; decide)]; exact h2 h
theorem iteDn {c : Prop} [Decidable c] {A B : Prop} (h1 : ¬ c → A) (h2 : c → B) : if (!decide c) = true then A else B := by
  by_cases h : c
  · rw [if_neg (by rw [decide_eq_true h]; decide)]; exact h2 h
  · rw [if_pos (by rw [decide_eq_false h]; rfl)]; exact h1 h
theorem iteB {b : Bool} {A B : Prop} (h1 : b = true → A) (h2 : b = false → B) : if b = true then A else B := by
  cases b
  · rw [if_neg Bool.false_ne_true]; exact h2 rfl
  · rw [if_pos rfl]; exact h1 rfl
theorem at0 {a : V} {l : List V} : atI (a :: l) 0 = some a := by
  rw [show (0 : Int) = ((0 : Nat) : Int) from rfl]; exact atI_nat (by rfl)
theorem atC {xs : List V} {i : Int} {v : V} (j : Nat) (e : i = (j : Int)) (h : xs[j]? = some v) : atI xs i = some v := by rw [e]; exact atI_nat h
theorem ixC {n : Nat} {i : Int} (j : Nat) (e : i = (j : Int)) (h : j < n) : ixN n i = some j := by
  subst e
  unfold ixN
  rw [if_pos (by omega), if_pos (by omega)]
  simp
theorem szl {n : Nat} (h : Nat.ble n 100 = true) : n ≤ sizeLine := Nat.le_trans (Nat.le_of_ble_eq_true h) (by decide)
theorem szn {n : Nat} (h : n ≤ 100000) : n ≤ sizeLine := Nat.le_trans h (by decide)
theorem szt {n : Nat} (h : n < 100000) : n < sizeLine := Nat.lt_of_lt_of_le h (by decide)
/-! ### data over the heap -/
mutual
inductive Dt (H : Hp) : V → PyData → Prop
  | non : Dt H .non .none
  | bl (b : Bool) : Dt H (.bl b) (.bool b)
  | int (i : Int) : Dt H (.int i) (.int i)
  | str (x : Str) : Dt H (.str x) (.str x)
  | lst {a : Addr} {xs : List V} {ds : List PyData} : H a = some (.lst xs) → DtAll H xs ds → Dt H (.ref a) (.list ds)
  | tup {a : Addr} {xs : List V} {ds : List PyData} : H a = some (.tup xs) → DtAll H xs ds → Dt H (.ref a) (.tuple ds)
inductive DtAll (H : Hp) : List V → List PyData → Prop
  | nil : DtAll H [] []
  | cons {v : V} {vs : List V} {d : PyData} {ds : List PyData} : Dt H v d → DtAll H vs ds → DtAll H (v :: vs) (d :: ds)
end
mutual
def tonly : PyData → Bool
  | .list _ => false
  | .dict _ => false
  | .tuple xs => tonlyAll xs
  | _ => true
def tonlyAll : List PyData → Bool
  | [] => true
  | x :: xs => tonly x && tonlyAll xs
end
mutual
theorem Dt.same {H H' : Hp} (s : Same H H') : ∀ {d : PyData} {v : V}, Dt H v d → Dt H' v d
  | .none, _, h => by cases h; exact .non
  | .bool b, _, h => by cases h; exact .bl b
  | .int i, _, h => by cases h; exact .int i
  | .str x, _, h => by cases h; exact .str x
  | .list ds, _, h => by
    cases h with
    | lst ha hs => exact .lst (s _ _ ha) (DtAll.same s hs)
  | .tuple ds, _, h => by
    cases h with
    | tup ha hs => exact .tup (s _ _ ha) (DtAll.same s hs)
  | .dict _, _, h => by cases h
theorem DtAll.same {H H' : Hp} (s : Same H H') : ∀ {ds : List PyData} {vs : List V}, DtAll H vs ds → DtAll H' vs ds
  | [], _, h => by cases h; exact .nil
  | d :: ds, _, h => by
    cases h with
    | cons h1 h2 => exact .cons (Dt.same s h1) (DtAll.same s h2)
end
mutual
theorem Dt.ts {H H' : Hp} (s : TS H H') : ∀ {d : PyData} {v : V}, tonly d = true → Dt H v d → Dt H' v d
  | .none, _, _, h => by cases h; exact .non
  | .bool b, _, _, h => by cases h; exact .bl b
  | .int i, _, _, h => by cases h; exact .int i
  | .str x, _, _, h => by cases h; exact .str x
  | .list ds, _, t, h => by unfold tonly at t; cases t
  | .tuple ds, _, t, h => by
    unfold tonly at t
    cases h with
    | tup ha hs => exact .tup (s _ _ ha) (DtAll.ts s t hs)
  | .dict _, _, _, h => by cases h
theorem DtAll.ts {H H' : Hp} (s : TS H H') : ∀ {ds : List PyData} {vs : List V}, tonlyAll ds = true → DtAll H vs ds → DtAll H' vs ds
  | [], _, _, h => by cases h; exact .nil
  | d :: ds, _, t, h => by
    unfold tonlyAll at t
    rw [Bool.and_eq_true] at t
    cases h with
    | cons h1 h2 => exact .cons (Dt.ts s t.1 h1) (DtAll.ts s t.2 h2)
end
mutual
theorem Dt.dp {K : PySem.W.Frag} {H : Hp} : ∀ {d : PyData} {v : V}, Dt H v d → Dp K H v d
  | .none, _, h => by cases h; exact .non
  | .bool b, _, h => by cases h; exact .bl b
  | .int i, _, h => by cases h; exact .int i
  | .str x, _, h => by cases h; exact .str x
  | .list ds, _, h => by
    cases h with
    | lst ha hs => exact .lst (SqL.of ha) (DtAll.dp hs)
  | .tuple ds, _, h => by
    cases h with
    | tup ha hs => exact .tup (SqT.of ha) (DtAll.dp hs)
  | .dict _, _, h => by cases h
theorem DtAll.dp {K : PySem.W.Frag} {H : Hp} : ∀ {ds : List PyData} {vs : List V}, DtAll H vs ds → DpAll K H vs ds
  | [], _, h => by cases h; exact .nil
  | d :: ds, _, h => by
    cases h with
    | cons h1 h2 => exact .cons (Dt.dp h1) (DtAll.dp h2)
end
theorem DtAll.len {H : Hp} : ∀ {ds : List PyData} {vs : List V}, DtAll H vs ds → vs.length = ds.length
  | [], _, h => by cases h; rfl
  | d :: ds, _, h => by
    cases h with
    | cons h1 h2 => rw [List.length_cons, List.length_cons, DtAll.len h2]
theorem DtAll.get {H : Hp} : ∀ {ds : List PyData} {vs : List V} {i : Nat} {d : PyData}, DtAll H vs ds → ds[i]? = some d → ∃ v, vs[i]? = some v ∧ Dt H v d
  | [], _, i, d, h, e => by simp at e
  | d :: ds, _, 0, d', h, e => by
    cases h with
    | cons h1 h2 => simp at e; subst e; exact ⟨_, rfl, h1⟩
  | d :: ds, _, i + 1, d', h, e => by
    cases h with
    | cons h1 h2 =>
      obtain ⟨v, a, b⟩ := DtAll.get (i := i) h2 (by simpa using e)
      exact ⟨v, by simpa using a, b⟩
theorem DtAll.getV {H : Hp} : ∀ {ds : List PyData} {vs : List V} {i : Nat} {v : V}, DtAll H vs ds → vs[i]? = some v → ∃ d, ds[i]? = some d ∧ Dt H v d
  | [], _, i, d, h, e => by cases h; simp at e
  | d :: ds, _, 0, d', h, e => by
    cases h with
    | cons h1 h2 => simp at e; subst e; exact ⟨_, rfl, h1⟩
  | d :: ds, _, i + 1, d', h, e => by
    cases h with
    | cons h1 h2 =>
      obtain ⟨v, a, b⟩ := DtAll.getV (i := i) h2 (by simpa using e)
      exact ⟨v, by simpa using a, b⟩
theorem DtAll.append {H : Hp} : ∀ {ds es : List PyData} {vs us : List V}, DtAll H vs ds → DtAll H us es → DtAll H (vs ++ us) (ds ++ es)
  | [], _, _, _, h, h' => by cases h; exact h'
  | d :: ds, _, _, _, h, h' => by
    cases h with
    | cons h1 h2 => exact .cons h1 (DtAll.append h2 h')
/-! ### data that == may look at -/
theorem lay_all : ∀ {ds : List PyData}, (∀ d ∈ ds, d.canLay0 = true) → PyData.canLayAll0 ds = true
  | [], _ => by rw [PyData.canLayAll0]
  | d :: ds, h => by
    rw [PyData.canLayAll0, h d List.mem_cons_self, lay_all fun e he => h e (List.mem_cons_of_mem _ he)]; rfl
theorem dep_all {n : Nat} : ∀ {ds : List PyData}, (∀ d ∈ ds, d.depth ≤ n) → PyData.depthAll ds ≤ n
  | [], _ => by rw [PyData.depthAll]; exact Nat.zero_le _
  | d :: ds, h => by
    rw [PyData.depthAll]
    exact Nat.max_le.mpr ⟨h d List.mem_cons_self, dep_all fun e he => h e (List.mem_cons_of_mem _ he)⟩
/-- shaped, of so little depth -/
def Sh (n : Nat) (d : PyData) : Prop := d.canLay0 = true ∧ d.depth ≤ n
theorem Sh.int (n : Nat) (i : Int) : Sh n (.int i) := ⟨by rw [PyData.canLay0], by rw [PyData.depth]; exact Nat.zero_le _⟩
theorem Sh.bool (n : Nat) (i : Bool) : Sh n (.bool i) := ⟨by rw [PyData.canLay0], by rw [PyData.depth]; exact Nat.zero_le _⟩
theorem Sh.none (n : Nat) : Sh n .none := ⟨by rw [PyData.canLay0], by rw [PyData.depth]; exact Nat.zero_le _⟩
theorem Sh.tup {n : Nat} {ds : List PyData} (h : ∀ d ∈ ds, Sh n d) : Sh (n + 1) (.tuple ds) := ⟨by rw [PyData.canLay0]; exact lay_all fun d hd => (h d hd).1, by rw [PyData.depth]; exact Nat.succ_le_succ (dep_all fun d hd => (h d hd).2)⟩
theorem Sh.lst {n : Nat} {ds : List PyData} (h : ∀ d ∈ ds, Sh n d) : Sh (n + 1) (.list ds) := ⟨by rw [PyData.canLay0]; exact lay_all fun d hd => (h d hd).1, by rw [PyData.depth]; exact Nat.succ_le_succ (dep_all fun d hd => (h d hd).2)⟩
theorem Sh.ok {n : Nat} {d : PyData} (h : Sh n d) (hn : n ≤ 64 := by decide) : SeqAt.shaped d = true := by
  unfold SeqAt.shaped
  rw [h.1, decide_eq_true (Nat.le_trans h.2 hn)]; rfl
def tyName : PyData → String
  | .none => "NoneType"
  | .bool _ => "bool"
  | .int _ => "int"
  | .str _ => "str"
  | .list _ => "list"
  | .tuple _ => "tuple"
  | .dict _ => "dict"
theorem Dt.ty {K : PySem.W.Frag} {H : Hp} : ∀ {d : PyData} {v : V}, Dt H v d → TyX K H v (.type (tyName d))
  | .none, _, h => by cases h; exact .base .non
  | .bool b, _, h => by cases h; exact .base (.bl b)
  | .int i, _, h => by cases h; exact .base (.int i)
  | .str x, _, h => by cases h; exact .base (.str x)
  | .list ds, _, h => by
    cases h with
    | lst ha hs => exact .base (.lst ha)
  | .tuple ds, _, h => by
    cases h with
    | tup ha hs => exact .base (.tup ha)
  | .dict _, _, h => by cases h
def isNoneD : PyData → Bool
  | .none => true
  | _ => false
theorem Dt.isNon {H : Hp} {d : PyData} {v : V} (h : Dt H v d) : decide (v = V.non) = isNoneD d := by
  cases h <;> rfl
def isIntD : PyData → Bool
  | .int _ => true
  | .bool _ => true
  | _ => false
def isBoolD : PyData → Bool
  | .bool _ => true
  | _ => false
def isTupD : PyData → Bool
  | .tuple _ => true
  | _ => false
def isListD : PyData → Bool
  | .list _ => true
  | _ => false
theorem kitInt : ∀ d : PyData, kitB (tyName d) "int" = some (isIntD d)
  | .none => (by decide +kernel : kitB "NoneType" "int" = some false)
  | .bool _ => (by decide +kernel : kitB "bool" "int" = some true)
  | .int _ => (by decide +kernel : kitB "int" "int" = some true)
  | .str _ => (by decide +kernel : kitB "str" "int" = some false)
  | .list _ => (by decide +kernel : kitB "list" "int" = some false)
  | .tuple _ => (by decide +kernel : kitB "tuple" "int" = some false)
  | .dict _ => (by decide +kernel : kitB "dict" "int" = some false)
theorem kitBool : ∀ d : PyData, kitB (tyName d) "bool" = some (isBoolD d)
  | .none => (by decide +kernel : kitB "NoneType" "bool" = some false)
  | .bool _ => (by decide +kernel : kitB "bool" "bool" = some true)
  | .int _ => (by decide +kernel : kitB "int" "bool" = some false)
  | .str _ => (by decide +kernel : kitB "str" "bool" = some false)
  | .list _ => (by decide +kernel : kitB "list" "bool" = some false)
  | .tuple _ => (by decide +kernel : kitB "tuple" "bool" = some false)
  | .dict _ => (by decide +kernel : kitB "dict" "bool" = some false)
theorem kitTup : ∀ d : PyData, kitB (tyName d) "tuple" = some (isTupD d)
  | .none => (by decide +kernel : kitB "NoneType" "tuple" = some false)
  | .bool _ => (by decide +kernel : kitB "bool" "tuple" = some false)
  | .int _ => (by decide +kernel : kitB "int" "tuple" = some false)
  | .str _ => (by decide +kernel : kitB "str" "tuple" = some false)
  | .list _ => (by decide +kernel : kitB "list" "tuple" = some false)
  | .tuple _ => (by decide +kernel : kitB "tuple" "tuple" = some true)
  | .dict _ => (by decide +kernel : kitB "dict" "tuple" = some false)
theorem kitList : ∀ d : PyData, kitB (tyName d) "list" = some (isListD d)
  | .none => (by decide +kernel : kitB "NoneType" "list" = some false)
  | .bool _ => (by decide +kernel : kitB "bool" "list" = some false)
  | .int _ => (by decide +kernel : kitB "int" "list" = some false)
  | .str _ => (by decide +kernel : kitB "str" "list" = some false)
  | .list _ => (by decide +kernel : kitB "list" "list" = some true)
  | .tuple _ => (by decide +kernel : kitB "tuple" "list" = some false)
  | .dict _ => (by decide +kernel : kitB "dict" "list" = some false)
theorem r_isi {K : PySem.W.Frag} {H : Hp} {v : V} {d : PyData} {T : String} {b : Bool} {Q : VK} (h : Dt H v d) (e : kitB (tyName d) T = some b) (k : Q (.bl b) H) : rIsi K [v, .ty T] H Q :=
  ⟨_, _, _, _, _, rfl, .ty _, h.ty, kit_ty e, k⟩
/-- lo ≤ i ≤ hi, of a whole number -/
def isI (d : PyData) (lo hi : Int) : Bool := match d with
  | .int i => decide (lo ≤ i) && decide (i ≤ hi)
  | _ => false
def geI (d : PyData) (lo : Int) : Bool := match d with
  | .int i => decide (lo ≤ i)
  | _ => false
def spGe : Sp := fun vs H Q _ => ∃ v d lo, vs = [v, .int lo] ∧ Dt H v d ∧ Q (.bl (geI d lo)) H
def spBtw : Sp := fun vs H Q _ => ∃ v d lo hi, vs = [v, .int lo, .int hi] ∧ Dt H v d ∧ Q (.bl (isI d lo hi)) H
def spIdx : Sp := fun vs H Q _ => ∃ v d n, vs = [v, .int n] ∧ Dt H v d ∧ Q (.bl (isI d 0 (n - 1))) H
def spWord : Sp := fun vs H Q _ => ∃ v d, vs = [v] ∧ Dt H v d ∧ Q (.bl (isI d 0 4294967295)) H
theorem Dt.new {H : Hp} {p : Addr} {xs : List V} {ds : List PyData} (h : DtAll H xs ds) (hp : H p = none) : Dt (upd H p (.tup xs)) (.ref p) (.tuple ds) := .tup upd_same (h.same (Same.new hp))
/-- t + u of data -/
theorem r_catD {K : PySem.W.Frag} {H : Hp} {v u : V} {ds es : List PyData} {Q : VK} (h1 : Dt H v (.tuple ds)) (h2 : Dt H u (.tuple es)) (hz : ds.length + es.length ≤ 100000) (k : ∀ v' H', Same H H' → Dt H' v' (.tuple (ds ++ es)) → Q v' H') : rCatA K v u H Q := by
  cases h1 with
  | @tup a xs _ ha hs =>
    cases h2 with
    | @tup b ys _ hb ht =>
      refine ⟨a, b, xs, ys, rfl, rfl, SqT.of ha, SqT.of hb, szn (by rw [hs.len, ht.len]; exact hz), fun e => ?_, fun _ e => ?_, fun _ _ p hp => ?_⟩
      · subst e
        have : ds = [] := List.length_eq_zero_iff.mp (by rw [← hs.len]; rfl)
        subst this
        exact k _ _ (Same.refl H) (.tup hb ht)
      · subst e
        have : es = [] := List.length_eq_zero_iff.mp (by rw [← ht.len]; rfl)
        subst this
        rw [List.append_nil] at k
        exact k _ _ (Same.refl H) (.tup ha hs)
      · exact k _ _ (Same.new hp) (Dt.new (hs.append ht) hp)
/-! ### comprehensions whose elements change nothing that stood -/
theorem take_snoc {α : Type} {l : List α} {i : Nat} {y : α} (h : l[i]? = some y) : l.take i ++ [y] = l.take (i + 1) := by
  rw [List.take_add_one, h]; rfl
section
variable {K : PySem.W.Frag} {g : TG} {te : TE} {vs : List Nat} {σ : L2.St} {H : Hp} {D : Addr} {Qd : Hp → Prop}
/-- over a tuple: ys are the elements -/
theorem lcT {a : Addr} {xs : List V} (ys : List V) (hl : ys.length = xs.length) (hz : xs.length < 100000) (hx : H a = some (.tup xs)) (hD : H D = none)
    (step : ∀ (j : Nat) (x y : V) (H1 : Hp) (Q' : VK), xs[j]? = some x → ys[j]? = some y → Same H H1 → (∀ H2, Same H1 H2 → Q' y H2) → g x (wipe σ vs) H1 fun σ2 H2 => wipe σ2 vs = wipe σ vs ∧ te σ2 H2 Q')
    (k : ∀ H1, Same H H1 → H1 D = some (.lst ys) → Qd H1) :
    ∃ W : Nat → Nat → Hp → Prop, (∃ m, W 0 m (upd H D (.lst []))) ∧ ∀ i m H, W i m H →
      ((Itt K a).stop i H ∧ Qd H) ∨ ((Itt K a).go i H ∧ ∃ Nx : Hp → Prop, (∀ H', Nx H' → ∃ m', m' < m ∧ W (i + 1) m' H') ∧ ∀ x H', (Itt K a).yld i H x H' → g x (wipe σ vs) H' fun σ2 H2 => wipe σ2 vs = wipe σ vs ∧ tYes σ2 H2 fun b H3 =>
        if b = true then te σ2 H3 fun y H4 => ∃ acc, H4 D = some (.lst acc) ∧ acc.length < sizeLine ∧ Nx (upd H4 D (.lst (acc ++ [y]))) else Nx H3) := by
  refine lc_tup (K := K) (xs := xs) (fun i H1 => Same H H1 ∧ H1 D = some (.lst (ys.take i))) ⟨Same.new hD, upd_same⟩ (fun i H1 _ h => SqT.of (h.1 _ _ hx)) ?_ ?_
  · rintro i x H1 hi ⟨s1, d1⟩
    have hil : i < xs.length := (List.getElem?_eq_some_iff.mp hi).1
    have hy : ys[i]? = some ys[i] := List.getElem?_eq_getElem (by omega)
    refine step i x _ H1 _ hi hy s1 fun H2 s2 => ?_
    refine ⟨_, s2 _ _ d1, ?_, Same.mut (s1.trans s2) hD, ?_⟩
    · rw [List.length_take]
      exact Nat.lt_of_lt_of_le (Nat.lt_of_le_of_lt (Nat.min_le_right _ _) (by omega : ys.length < 100000)) (by decide)
    · rw [take_snoc hy]; exact upd_same
  · rintro H1 ⟨s1, d1⟩
    rw [List.take_of_length_le (by omega)] at d1
    exact k H1 s1 d1
/-- over a list: ys are the elements -/
theorem lcL {a : Addr} {xs : List V} (ys : List V) (hl : ys.length = xs.length) (hz : xs.length < 100000) (hx : H a = some (.lst xs)) (hD : H D = none)
    (step : ∀ (j : Nat) (x y : V) (H1 : Hp) (Q' : VK), xs[j]? = some x → ys[j]? = some y → Same H H1 → (∀ H2, Same H1 H2 → Q' y H2) → g x (wipe σ vs) H1 fun σ2 H2 => wipe σ2 vs = wipe σ vs ∧ te σ2 H2 Q')
    (k : ∀ H1, Same H H1 → H1 D = some (.lst ys) → Qd H1) :
    ∃ W : Nat → Nat → Hp → Prop, (∃ m, W 0 m (upd H D (.lst []))) ∧ ∀ i m H, W i m H →
      ((Itl K a).stop i H ∧ Qd H) ∨ ((Itl K a).go i H ∧ ∃ Nx : Hp → Prop, (∀ H', Nx H' → ∃ m', m' < m ∧ W (i + 1) m' H') ∧ ∀ x H', (Itl K a).yld i H x H' → g x (wipe σ vs) H' fun σ2 H2 => wipe σ2 vs = wipe σ vs ∧ tYes σ2 H2 fun b H3 =>
        if b = true then te σ2 H3 fun y H4 => ∃ acc, H4 D = some (.lst acc) ∧ acc.length < sizeLine ∧ Nx (upd H4 D (.lst (acc ++ [y]))) else Nx H3) := by
  refine lc_list (K := K) (xs := xs) (fun i H1 => Same H H1 ∧ H1 D = some (.lst (ys.take i))) ⟨Same.new hD, upd_same⟩ (fun i H1 _ h => SqL.of (h.1 _ _ hx)) ?_ ?_
  · rintro i x H1 hi ⟨s1, d1⟩
    have hil : i < xs.length := (List.getElem?_eq_some_iff.mp hi).1
    have hy : ys[i]? = some ys[i] := List.getElem?_eq_getElem (by omega)
    refine step i x _ H1 _ hi hy s1 fun H2 s2 => ?_
    refine ⟨_, s2 _ _ d1, ?_, Same.mut (s1.trans s2) hD, ?_⟩
    · rw [List.length_take]
      exact Nat.lt_of_lt_of_le (Nat.lt_of_le_of_lt (Nat.min_le_right _ _) (by omega : ys.length < 100000)) (by decide)
    · rw [take_snoc hy]; exact upd_same
  · rintro H1 ⟨s1, d1⟩
    rw [List.take_of_length_le (by omega)] at d1
    exact k H1 s1 d1
theorem lcR {lo : Int} {n : Nat} (ys : List V) (hl : ys.length = n) (hz : n < 100000) (hD : H D = none)
    (step : ∀ (j : Nat) (y : V) (H1 : Hp) (Q' : VK), ys[j]? = some y → Same H H1 → (∀ H2, Same H1 H2 → Q' y H2) → g (.int (lo + j)) (wipe σ vs) H1 fun σ2 H2 => wipe σ2 vs = wipe σ vs ∧ te σ2 H2 Q')
    (k : ∀ H1, Same H H1 → H1 D = some (.lst ys) → Qd H1) :
    ∃ W : Nat → Nat → Hp → Prop, (∃ m, W 0 m (upd H D (.lst []))) ∧ ∀ i m H, W i m H →
      ((Itr lo n).stop i H ∧ Qd H) ∨ ((Itr lo n).go i H ∧ ∃ Nx : Hp → Prop, (∀ H', Nx H' → ∃ m', m' < m ∧ W (i + 1) m' H') ∧ ∀ x H', (Itr lo n).yld i H x H' → g x (wipe σ vs) H' fun σ2 H2 => wipe σ2 vs = wipe σ vs ∧ tYes σ2 H2 fun b H3 =>
        if b = true then te σ2 H3 fun y H4 => ∃ acc, H4 D = some (.lst acc) ∧ acc.length < sizeLine ∧ Nx (upd H4 D (.lst (acc ++ [y]))) else Nx H3) := by
  refine lc_range (fun i H1 => Same H H1 ∧ H1 D = some (.lst (ys.take i))) ⟨Same.new hD, upd_same⟩ ?_ ?_
  · rintro i H1 hi ⟨s1, d1⟩
    have hy : ys[i]? = some ys[i] := List.getElem?_eq_getElem (by omega)
    refine step i _ H1 _ hy s1 fun H2 s2 => ?_
    refine ⟨_, s2 _ _ d1, ?_, Same.mut (s1.trans s2) hD, ?_⟩
    · rw [List.length_take]
      exact Nat.lt_of_lt_of_le (Nat.lt_of_le_of_lt (Nat.min_le_right _ _) (by omega : ys.length < 100000)) (by decide)
    · rw [take_snoc hy]; exact upd_same
  · rintro H1 ⟨s1, d1⟩
    rw [List.take_of_length_le (by omega)] at d1
    exact k H1 s1 d1
end
end My

namespace My
open PySem L2
theorem units1 {k : Nat} {A : Around} (r : Room k A) : A.units + 1 < cLine := by have := r.un; omega
theorem units71 {k : Nat} {A : Around} (r : Room k A) : A.units + 71 < cLine := by have := r.un; omega
/-! ### d.update(e) -/
def rUpd : V → List V → Hp → VK → Prop := fun x xs H Q => ∃ (a b : Addr) (kvs more : List (Key × V)), x = .ref a ∧ xs = [.ref b] ∧ a ≠ b ∧ H a = some (.dK kvs) ∧ H b = some (.dK more) ∧ kvs.length + more.length ≤ sizeLine ∧ Q .non (upd H a (.dK (mergeK kvs more)))
open PySem.Spec PyProof.Rows in
theorem mt_update {X : Cx} : MtR X "dict.update" rUpd := by
  intro pins s σ H x xs v us Q I rx rxs h
  obtain ⟨a, b, kvs, more, rfl, rfl, hab, ha, hb, hz, q⟩ := h
  cases rx
  obtain ⟨u, rfl, ru⟩ := rxs.one
  cases ru
  obtain ⟨z, hd, vs, rel, dd⟩ := dk_of I.hok ha
  obtain ⟨z2, hd2, vs2, rel2, dd2⟩ := dk_of I.hok hb
  refine call_meetsIn PySem.F.slot_dict_update dd.typeIs PySem.F.entry_dict_update (PySem.F.args_dict_update_2 _ _) (meets_dict_update (mixKind X.prog X.w) a b hab hd2) ⟨vs, vs2, dd, dd2, by rw [← rel.length, ← rel2.length]; exact hz, fun h' dd' _ hs => ?_⟩
  have he : ∃ q, h'.get? a = some q := let ⟨q, _, _, hq, _⟩ := dd'; ⟨q, hq⟩
  exact ⟨.non, _, d_write (t' := s.toks) I (by rw [ha]; exact True.intro) hs he (dk_new (Nat.le_trans (length_mergeK _ _) hz) hd (KV.merge rel2 rel) dd'), rfl, q⟩
/-! ### != of tuples within one model -/
section
open PySem.Spec PyProof.Rows PySem.SeqAt
open AutoSeq1 (wpAny_loadPart')
open MeetsSeq MeetsSeq2 MeetsSeq3
variable {prog : Program} {w : World}
theorem tuple_neP (l b : Addr) (items items2 : Array Value) (n n2 : Nat) (dd dd2 : Option Addr) (sl sl2 : Array (Option Value)) (e : Nat → Bool) :
    MeetsIn prog w (Builtin.«tuple.__ne__» ⟨[.ref l, .ref b], []⟩)
      (fun A R s => s.heap.get? l = some { cls := .type "tuple", dict := dd, data := .seq items n, slots := sl } ∧ s.heap.get? b = some { cls := .type "tuple", dict := dd2, data := .seq items2 n2, slots := sl2 } ∧
        (∀ j (h1 : j < items.size) (h2 : j < items2.size), EqP prog w A.in1 s items[j] items2[j] (e j)) ∧
        R (.ok (.ret (.bool (!((List.range (min items.size items2.size)).all e && items.size == items2.size))))) s) :=
  .of_wp fun A R s h => by
    obtain ⟨hp, g, d, tk, os⟩ := s; obtain ⟨hl, hb, he, h⟩ := h
    have f2 := AutoSeq1.sub_tuple_tuple
    have hZ : (items.toList.zip items2.toList).length = min items.size items2.size := by simp
    wp_walk using wpAny_loadPart' hl, wpAny_loadPart' hb, wpAny_forIn_list _ (fun rest b s' => b.1 = none ∧ s' = ⟨hp, g, d, tk, os⟩ ∧ ∃ i, rest = (items.toList.zip items2.toList).drop i ∧
      R (.ok (.ret (.bool (!(((List.range (min items.size items2.size)).drop i).all e && items.size == items2.size))))) ⟨hp, g, d, tk, os⟩) _
    case turn =>
      rintro ⟨y, x⟩ rest b s' ⟨hb', rfl, i, hz, hR⟩
      have hlt : i < (items.toList.zip items2.toList).length := by
        rcases Nat.lt_or_ge i (items.toList.zip items2.toList).length with h' | h'
        · exact h'
        · rw [List.drop_of_length_le h'] at hz; cases hz
      have hm : i < min items.size items2.size := hZ ▸ hlt
      have h1 : i < items.size := Nat.lt_of_lt_of_le hm (Nat.min_le_left _ _)
      have h2 : i < items2.size := Nat.lt_of_lt_of_le hm (Nat.min_le_right _ _)
      rw [List.drop_eq_getElem_cons hlt] at hz
      injection hz with hyx hrest
      have hy : y = items[i] := by have := congrArg Prod.fst hyx; simpa using this
      have hx : x = items2[i] := by have := congrArg Prod.snd hyx; simpa using this
      subst hy hx
      have hd : (List.range (min items.size items2.size)).drop i = i :: (List.range (min items.size items2.size)).drop (i + 1) := by simp [List.drop_eq_getElem_cons, hm]
      rw [hd, List.all_cons] at hR
      refine wpAny_bind (he i h1 h2 _ _ ?_)
      cases hy : e i with
      | true =>
        rw [hy] at hR
        wp_walk
        exact ⟨rfl, rfl, i + 1, hrest, by simpa using hR⟩
      | false =>
        rw [hy] at hR
        wp_walk
        exact ⟨_, rfl, by simpa using hR⟩
    case fin =>
      rintro ⟨b1, b2⟩ s' ⟨hb', rfl, i, hz, hR⟩
      simp only at hb'
      subst hb'
      have hge : min items.size items2.size ≤ i := by
        rcases Nat.lt_or_ge i (items.toList.zip items2.toList).length with h' | h'
        · rw [List.drop_eq_getElem_cons h'] at hz; cases hz
        · exact hZ ▸ h'
      rw [List.drop_of_length_le (by simpa using hge)] at hR
      wp_walk
      exact ⟨_, rfl, by simpa [Builtin.Tuple.tupleCompareSizes, bne] using hR⟩
    case h =>
      exact ⟨rfl, rfl, 0, rfl, by simpa using h⟩
theorem rcnP_tuples {A : Around} {s : Shared} {l b : Addr} {items items2 : Array Value} {e : Nat → Bool} (hl : s.heap.IsTuple l items) (hb : s.heap.IsTuple b items2) (hu : A.units < cLine)
    (he : ∀ j (h1 : j < items.size) (h2 : j < items2.size), EqP prog w A.in1 s items[j] items2[j] (e j)) (E Q : Value → Shared → Prop) (h : Q (.bool (!((List.range (min items.size items2.size)).all e && items.size == items2.size))) s) :
    wpAny (model prog w) A (richCompare .NotEq (.ref l) (.ref b)) Q E s := by
  obtain ⟨⟨cls, dd, data, sl⟩, ho, hc, n, hd⟩ := id hl
  obtain ⟨⟨cls2, dd2, data2, sl2⟩, ho2, hc2, n2, hd2⟩ := id hb
  simp only at hc hd hc2 hd2
  subst hc hd hc2 hd2
  have ta : s.TypeIs (.ref l) "tuple" := ⟨_, ho, rfl⟩
  have tb : s.TypeIs (.ref b) "tuple" := ⟨_, ho2, rfl⟩
  exact wpAny_richCompare_same_room (op := .NotEq) ta tb F.slot_tuple_ne (call_meetsIn F.slot_tuple_ne ta F.entry_tuple_ne (F.args_tuple_ne_2 _ _) (tuple_neP l b items items2 n n2 dd dd2 sl sl2 e)
    ⟨ho, ho2, he, (show Value.bool (!((List.range (min items.size items2.size)).all e && items.size == items2.size)) ≠ Value.notImplemented ∧ Q (.bool (!((List.range (min items.size items2.size)).all e && items.size == items2.size))) s from ⟨(fun x => nomatch x), h⟩)⟩) hu
end
/-- the same data -/
def LfV (K : PySem.W.Frag) (H : Hp) (x y : V) : Prop := ∃ d, Dp K H x d ∧ Dp K H y d ∧ SeqAt.shaped d = true
/-- lists of dicts with the same data -/
def FoV (K : PySem.W.Frag) (H : Hp) (x y : V) : Prop := EqR K H (EqR K H (LfV K H)) x y
section
variable {X : Cx} {pins : List (Addr × Obj)} {σ : L2.St} {H : Hp} {s : Shared}
theorem lf_run (I : Inv X pins σ H s) {A : Around} (hu : A.units + 64 < cLine) {x y : V} {v u : Value} (h : LfV X.K H x y) (rx : RelV x v) (ry : RelV y u) : SeqAt.EqP X.prog X.w A s v u true := by
  obtain ⟨d, h1, h2, hs⟩ := h
  obtain ⟨as, r1⟩ := Dp.reads I d x v h1 rx
  obtain ⟨bs, r2⟩ := Dp.reads I d y u h2 ry
  have z := SeqAt.eqAt_reads d d A s v u as bs r1 r2 (SeqAt.canLay_of_shaped hs) (SeqAt.canLay_of_shaped hs) (SeqAt.room_of_shaped hs hu)
  rw [SeqAt.eqv_refl _ (SeqAt.canLay_of_shaped hs)] at z
  exact z.eqP
theorem eqR_P (I : Inv X pins σ H s) {A : Around} {F : V → V → Prop} (hu : A.units < cLine) (ih : ∀ x y v u, F x y → RelV x v → RelV y u → SeqAt.EqP X.prog X.w A.in1 s v u true) {x y : V} {v u : Value} (h : EqR X.K H F x y) (rx : RelV x v) (ry : RelV y u) : SeqAt.EqP X.prog X.w A s v u true := by
  have step := eqR_run I hu ih h rx ry
  obtain ⟨a, b, rfl, rfl⟩ : ∃ a b, x = .ref a ∧ y = .ref b := by
    rcases h with ⟨a, b, _, _, e1, e2, _⟩ | ⟨a, b, _, _, e1, e2, _⟩
    · exact ⟨a, b, e1, e2⟩
    · exact ⟨a, b, e1, e2⟩
  cases (show v = Value.ref a from rx)
  cases (show u = Value.ref b from ry)
  by_cases e : a = b
  · subst e
    exact (SeqAt.EqAt.same _).eqP
  · exact SeqAt.eqP_refs e step
end
def rNeF (K : PySem.W.Frag) : R2 := fun x y H Q => ((∃ d, Dp K H x d ∧ Dp K H y d ∧ SeqAt.shaped d = true) ∨ ∃ a b z u v, x = .ref a ∧ y = .ref b ∧ SqT K H a [.str z, u] ∧ SqT K H b [.str z, v] ∧ FoV K H u v) ∧ Q (.bl false) H
open PySem.Spec PyProof.Rows in
theorem op_neF {X : Cx} (hu : X.A.units + 71 < cLine) : OpR X (compareOp .NotEq) (rNeF X.K) := by
  intro pins s σ H x y v u Q I rx ry h
  obtain ⟨⟨d, h1, h2, hs⟩ | ⟨a, b, z, v1, v2, rfl, rfl, ha, hb, hf⟩, q⟩ := h
  · obtain ⟨as, r1⟩ := Dp.reads I d x v h1 rx
    obtain ⟨bs, r2⟩ := Dp.reads I d y u h2 ry
    refine SeqAt.compareNe_shaped r1 r2 hs hs (by omega) ⟨.bl _, H, I, rfl, ?_⟩
    rw [SeqAt.eqv_refl _ (SeqAt.canLay_of_shaped hs)]
    exact q
  · cases (show v = Value.ref a from rx)
    cases (show u = Value.ref b from ry)
    obtain ⟨us, r1, p1, _⟩ := I.tuple ha
    obtain ⟨ws, r2, p2, _⟩ := I.tuple hb
    refine rcnP_tuples (e := fun _ => true) (show s.heap.IsTuple a us.toArray from p1) (show s.heap.IsTuple b ws.toArray from p2) (by omega) (fun j j1 j2 => ?_) _ _ ?_
    · cases r1 with
      | cons a1 r1 => cases r1 with
        | cons a2 r1 => cases r1; cases r2 with
          | cons b1 r2 => cases r2 with
            | cons b2 r2 =>
              cases r2
              match j, j1, j2 with
              | 0, _, _ => exact (eqAt_same (v := V.str z) a1 b1 rfl).eqP
              | 1, _, _ =>
                exact eqR_P I (A := X.A.in1) (by show X.A.units + 1 < cLine; omega) (fun x y v u h rx ry => eqR_P I (A := X.A.in1.in1) (by show X.A.units + 1 + 1 < cLine; omega) (fun x y v u h rx ry => lf_run I (by show X.A.units + 1 + 1 + 1 + 64 < cLine; omega) h rx ry) h rx ry) hf a2 b2
              | n + 2, j1, _ => exact absurd j1 (by simp)
    · have e1 : us.length = 2 := by rw [← r1.length]; rfl
      have e2 : ws.length = 2 := by rw [← r2.length]; rfl
      have e3 : (!((List.range (min us.toArray.size ws.toArray.size)).all (fun _ => true) && us.toArray.size == ws.toArray.size)) = false := by simp [e1, e2]
      rw [e3]
      exact ⟨.bl false, H, I, rfl, q⟩
theorem kNeF {X : Cx} (K : PySem.W.Frag) (hu : X.A.units + 71 < cLine) (h : X.K = K := by rfl) : OpR X (compareOp .NotEq) (rNeF K) := by subst h; exact op_neF hu
/-! ### many dicts locked -/
abbrev AK := Addr × List (Key × V)
def lockAll : Hp → List AK → List Obj → Hp
  | H, (d, kvs) :: ds, od :: ods => lockAll (upd H d (.frz od (.dK kvs))) ds ods
  | H, _, _ => H
def freeAll : Hp → List AK → Hp
  | H, [] => H
  | H, (d, kvs) :: ds => freeAll (upd H d (.dK kvs)) ds
theorem lockAll_other : ∀ {ds : List AK} {ods : List Obj} {H : Hp} {b : Addr}, b ∉ ds.map (·.1) → lockAll H ds ods b = H b
  | [], _, _, _, _ => rfl
  | (d, kvs) :: ds, [], _, _, _ => rfl
  | (d, kvs) :: ds, od :: ods, H, b, h => by
    rw [List.map_cons, List.mem_cons, not_or] at h
    show lockAll (upd H d _) ds ods b = _
    rw [lockAll_other h.2, upd_ne h.1]
theorem lockAll_at : ∀ {ds : List AK} {ods : List Obj} {H : Hp}, (ds.map (·.1)).Nodup → ods.length = ds.length → ∀ p ∈ ds, ∃ od, lockAll H ds ods p.1 = some (.frz od (.dK p.2))
  | [], _, _, _, _, p, h => by cases h
  | (d, kvs) :: ds, [], _, _, hl, _, _ => by cases hl
  | (d, kvs) :: ds, od :: ods, H, nd, hl, p, h => by
    rw [List.map_cons, List.nodup_cons] at nd
    rcases List.mem_cons.mp h with rfl | h
    · exact ⟨od, by show lockAll (upd H d _) ds ods d = _; rw [lockAll_other nd.1, upd_same]⟩
    · exact lockAll_at nd.2 (by simpa using hl) p h
theorem freeAll_other : ∀ {ds : List AK} {H : Hp} {b : Addr}, b ∉ ds.map (·.1) → freeAll H ds b = H b
  | [], _, _, _ => rfl
  | (d, kvs) :: ds, H, b, h => by
    rw [List.map_cons, List.mem_cons, not_or] at h
    show freeAll (upd H d _) ds b = _
    rw [freeAll_other h.2, upd_ne h.1]
section
variable {X : Cx} {pins : List (Addr × Obj)} {σ : L2.St} {s : Shared}
theorem inv_lockAll : ∀ {ds : List AK} {H : Hp}, Inv X pins σ H s → (ds.map (·.1)).Nodup → (∀ p ∈ ds, H p.1 = some (.dK p.2)) → ∃ ods : List Obj, ods.length = ds.length ∧ Inv X pins σ (lockAll H ds ods) s
  | [], H, I, _, _ => ⟨[], rfl, I⟩
  | (d, kvs) :: ds, H, I, nd, h => by
    rw [List.map_cons, List.nodup_cons] at nd
    obtain ⟨od, I1⟩ := I.lock (h _ List.mem_cons_self) (by exact True.intro)
    obtain ⟨ods, hl, I2⟩ := inv_lockAll (ds := ds) I1 nd.2 fun p hp => by
      rw [upd_ne (fun e => nd.1 (List.mem_map.mpr ⟨p, hp, e⟩))]
      exact h p (List.mem_cons_of_mem _ hp)
    exact ⟨od :: ods, by rw [List.length_cons, hl, List.length_cons], I2⟩
theorem inv_freeAll : ∀ {ds : List AK} {H : Hp}, Inv X pins σ H s → (ds.map (·.1)).Nodup → (∀ p ∈ ds, (∀ o' u', X.H_0 p.1 ≠ some (.frz o' u')) ∧ ∃ od, H p.1 = some (.frz od (.dK p.2))) → Inv X pins σ (freeAll H ds) s
  | [], H, I, _, _ => I
  | (d, kvs) :: ds, H, I, nd, h => by
    rw [List.map_cons, List.nodup_cons] at nd
    obtain ⟨n, od, e⟩ := h _ List.mem_cons_self
    refine inv_freeAll (ds := ds) (I.unlock e n) nd.2 fun p hp => ?_
    obtain ⟨n', od', e'⟩ := h p (List.mem_cons_of_mem _ hp)
    exact ⟨n', od', by rw [upd_ne (fun e => nd.1 (List.mem_map.mpr ⟨p, hp, e⟩))]; exact e'⟩
end
def iListL (K : PySem.W.Frag) (tl : TE) : TI := fun σ H R => tl σ H fun x H1 => ∃ (a : Addr) (ds : List AK), x = .ref a ∧ SqL K H1 a (ds.map fun p => V.ref p.1) ∧ a ∉ ds.map (·.1) ∧ (ds.map (·.1)).Nodup ∧ (∀ p ∈ ds, H1 p.1 = some (.dK p.2)) ∧ ∀ ods : List Obj, ods.length = ds.length → R (Itl K a) (lockAll H1 ds ods)
theorem pi_listL {X : Cx} {tg l : Expr} {tl : TE} (hl : PE X l tl) : PI X tg l (iListL X.K tl) := by
  refine ⟨fun pins s σ H R I h => ?_⟩
  refine thn (hl.run pins s σ H _ I h) fun v s1 ⟨x, H1, I1, r1, q1⟩ => ?_
  obtain ⟨a, ds, e, hq, ha, nd, hds, q⟩ := q1
  subst e
  cases r1
  obtain ⟨its, rv, p, hz⟩ := I1.list hq
  obtain ⟨ods, ol, I2⟩ := inv_lockAll I1 nd hds
  refine wpAny_pyIter_list p.isList ?_
  refine ⟨s1.heap.objs.size, [s1.heap.objs.size], _, _, lockAll H1 ds ods, rfl, I2.kept (t' := s1.toks) fun b o e => Heap.get?_push_of_some _ e, turn_list a _, ⟨_, Heap.get?_push_size _ rfl, rfl, rfl⟩, fun b hb => ?_, q ods ol⟩
  have e : b = s1.heap.objs.size := by simpa using hb
  subst e
  exact I2.fpOk (Nat.le_refl _) (I2.hok.fresh (Nat.le_refl _))
theorem kpiLL {X : Cx} {tg l : Expr} {tl : TE} (K : PySem.W.Frag) (hl : PE X l tl) (h : X.K = K := by rfl) : PI X tg l (iListL K tl) := by subst h; exact pi_listL hl
def tUnl (t : TE) : TE := fun σ H Q => t σ H fun v H' => ∃ ds : List AK, (ds.map (·.1)).Nodup ∧ (∀ p ∈ ds, H p.1 = none ∧ ∃ od, H' p.1 = some (.frz od (.dK p.2))) ∧ Q v (freeAll H' ds)
theorem pe_unl {X : Cx} {e : Expr} {t : TE} (h : PE X e t) : PE X e (tUnl t) := by
  refine ⟨fun pins s σ H Q I hw => ?_⟩
  refine thn (h.run pins s σ _ _ I hw) fun v s1 ⟨x, H1, I2, r, ds, nd, hds, q⟩ => ?_
  refine ⟨x, _, inv_freeAll I2 nd fun p hp => ⟨fun o' u' e => ?_, (hds p hp).2⟩, r, q⟩
  have z := I.base.frzs p.1 o' u' e
  rw [(hds p hp).1] at z
  cases z
end My

namespace My
open PySem L2
def topS (i : Nat) : Stmt := PySem.Challenge.pw_steadhold_k20_faults_of_disks.main.body.getD i (.Pass ⟨0, 0, 0, 0⟩)
structure Txt (K : PySem.W.Frag) (mg : Str → Option Value) (C_Types C_NotValid : Addr) : Prop where
  b_abs : mg "abs" = none
  b_all : mg "all" = none
  b_bool : mg "bool" = none
  b_int : mg "int" = none
  b_isinstance : mg "isinstance" = none
  b_len : mg "len" = none
  b_list : mg "list" = none
  b_range : mg "range" = none
  b_set : mg "set" = none
  b_tuple : mg "tuple" = none
  c_DATA : ∃ t, mg "DATA" = some (.int 0 t)
  c_ENVIRONMENTS : ∃ t, mg "ENVIRONMENTS" = some (.int 4 t)
  c_MOST_TYPES : ∃ t, mg "MOST_TYPES" = some (.int 4 t)
  c_ROOT : ∃ t, mg "ROOT" = some (.int 1 t)
  c_ROOT_BLOCKS : ∃ t, mg "ROOT_BLOCKS" = some (.int 4 t)
  c_TOP : ∃ t, mg "TOP" = some (.int 4294967295 t)
  c_WORDS : ∃ t, mg "WORDS" = some (.int 8 t)
  c__FIRST_OF_PROGRAMS : ∃ t, mg "_FIRST_OF_PROGRAMS" = some (.int 2 t)
  c__MOST_CLAUSES : ∃ t, mg "_MOST_CLAUSES" = some (.int 8 t)
  c__MOST_GUARDS : ∃ t, mg "_MOST_GUARDS" = some (.int 4 t)
  x_NotValid : Exn K mg "NotValid" C_NotValid
  o_Types : Cls K C_Types
  n_Types__blocks : NoAttr K C_Types "_blocks"
  n_Types__programs : NoAttr K C_Types "_programs"
  n_Types__registered : NoAttr K C_Types "_registered"
end My

namespace My
open PySem L2
local macro_rules | `(tactic| walk_at "ne") => `(tactic| first | assumption | exact Ne.symm (by assumption) | exact ne_of_none (by assumption) (by assumption) | exact Ne.symm (ne_of_none (by assumption) (by assumption)))
local macro_rules | `(tactic| walk_at "hp") => `(tactic| first | assumption | with_reducible exact upd_same | (with_reducible refine Eq.trans (upd_ne ?_) ?_; rotate_left; walk_at "hp"; walk_at "ne"))
local macro_rules | `(tactic| walk_at "cnd") => `(tactic| first | omega | (show (0 : Int) < _; omega) | exact ⟨by omega, by omega⟩ | exact Or.inl ⟨by omega, by omega⟩ | exact Or.inr ⟨by omega, by omega⟩ | exact ⟨by omega, by omega, by decide⟩ | exact ⟨by omega, by omega, by omega⟩)
local macro_rules | `(tactic| walk_at "at") => `(tactic| first | exact atC 0 rfl rfl | exact atC 1 rfl rfl | exact atC 2 rfl rfl | exact atC 3 rfl rfl | exact atC 4 rfl rfl | exact atC 5 rfl rfl | exact atC 6 rfl rfl | exact atC 7 rfl rfl)
local macro_rules | `(tactic| walk_at "ix") => `(tactic| first | exact ixC 0 rfl (Nat.le_of_ble_eq_true rfl) | exact ixC 1 rfl (Nat.le_of_ble_eq_true rfl) | exact ixC 2 rfl (Nat.le_of_ble_eq_true rfl) | exact ixC 3 rfl (Nat.le_of_ble_eq_true rfl) | exact ixC 4 rfl (Nat.le_of_ble_eq_true rfl) | exact ixC 5 rfl (Nat.le_of_ble_eq_true rfl))
local macro_rules | `(tactic| walk_at "st") => `(tactic| first
  | refine ⟨_, rfl, ?_⟩
  | refine ⟨_, _, rfl, rfl, (by walk_at "cnd" : (_ : Prop)), ?_⟩
  | refine ⟨_, _, rfl, rfl, ?_⟩
  | refine ⟨rfl, ?_⟩
  | refine Or.inl ⟨_, rfl, ?_⟩
  | refine ⟨_, _, _, _, rfl, rfl, by exact SqL.of (by walk_at "hp"), by walk_at "at", ?_⟩
  | refine ⟨_, _, _, _, rfl, rfl, by exact SqT.of (by walk_at "hp"), by walk_at "at", ?_⟩
  | refine ⟨_, _, _, _, rfl, rfl, by walk_at "hp", by walk_at "ix", ?_⟩
  | refine ⟨_, _, rfl, Or.inl (by exact SqL.of (by walk_at "hp")), ?_⟩
  | refine ⟨_, _, rfl, Or.inr (by exact SqT.of (by walk_at "hp")), ?_⟩)
local macro_rules | `(tactic| walk_at "so") => `(tactic| first
  | refine ⟨_, _, _, _, _, rfl, by walk_at "hp", by assumption, by assumption, rfl, ?_⟩
  | refine ⟨_, _, _, _, rfl, by walk_at "hp", by assumption, by assumption, Nat.le_of_ble_eq_true rfl, ?_⟩
  | refine ⟨_, _, _, rfl, by walk_at "hp", rfl, ?_⟩
  | walk_at "st")
local macro_rules | `(tactic| walk_at "ro") => `(tactic| repeat walk_at "so")
local macro_rules | `(tactic| walk_at "run") => `(tactic| repeat walk_at "st")

/-! the tape -/
def Tape (H : Hp) (a s : Addr) : Prop := ∃ (ns : List Int) (i r z : Int), H a = some (.lst [.ref s, .int i, .int r, .int z]) ∧ H s = some (.lst (ns.map V.int)) ∧ 0 ≤ i ∧ 0 ≤ r ∧ 0 ≤ z ∧ z < 2147483647
def spNext : Sp := fun vs H Q _ => ∃ (a t : Addr) (many : Int), vs = [.ref a, .int many] ∧ 0 < many ∧ many < 1000000 ∧ Tape H a t ∧ ∀ v H', 0 ≤ v → v < many → Tape H' a t → Chg a H H' → Q (.int v) H'
theorem Tape.lst {H : Hp} {a t : Addr} (h : Tape H a t) : ∃ xs, H a = some (.lst xs) := by
  obtain ⟨ns, i, r, z, ha, _⟩ := h
  exact ⟨_, ha⟩
theorem Tape.at {H : Hp} {a t p : Addr} (h : Tape H a t) (hp : H p = none) : p ≠ a := by
  obtain ⟨ns, i, r, z, ha, _⟩ := h
  exact (ne_of_none ha hp).symm
theorem Tape.at2 {H : Hp} {a t p : Addr} (h : Tape H a t) (hp : H p = none) : p ≠ t := by
  obtain ⟨ns, i, r, z, ha, hs, _⟩ := h
  exact (ne_of_none hs hp).symm
theorem Tape.same {H H' : Hp} {a t : Addr} (h : Tape H a t) (s : Same H H') : Tape H' a t := by
  obtain ⟨ns, i, r, z, ha, hs, q⟩ := h
  exact ⟨ns, i, r, z, s _ _ ha, s _ _ hs, q⟩
theorem Tape.upd {H : Hp} {a t W : Addr} {o : HO} (h : Tape H a t) (n1 : W ≠ a) (n2 : W ≠ t) : Tape (L2.upd H W o) a t := by
  obtain ⟨ns, i, r, z, ha, hs, q⟩ := h
  exact ⟨ns, i, r, z, by rw [upd_ne n1.symm]; exact ha, by rw [upd_ne n2.symm]; exact hs, q⟩
theorem Tape.ts {H H' : Hp} {a t : Addr} (h : Tape H a t) (c : Chg a H H') : TS H H' := by
  obtain ⟨xs, e⟩ := h.lst
  exact c.ts e
section
variable {P : Program} {w : World} {K : PySem.W.Frag} {mg : Str → Option Value} {base : Heap} {C_Types C_NotValid : Addr}
abbrev s_law_next : Stmt := topS 39
abbrev ns_law_next : List Str := ["tape", "many", "rest", "cell"]
theorem sc_law_next : FnScope ns_law_next ["tape", "many"] (defScope s_law_next) := ⟨rfl, rfl, rfl, by decide +kernel, rfl, by decide +kernel, by decide +kernel⟩

theorem ok_law_next {f : Addr} {fd : FuncData} (F : Fun K "_law_next" "_law_next" s_law_next f fd) (T : Txt K mg C_Types C_NotValid) : FnOk P w K mg base CX0 1 f fd ["tape", "many"] spNext := by
  refine F.ok sc_law_next (fun vs H Q E h => ?_) (fun cdv A outer s H vs Q E hr h => ?_)
  · obtain ⟨a, s, many, rfl, _⟩ := h
    rfl
  · obtain ⟨a, s, many, rfl, m0, m1, ⟨ns, i, r, z, ha, hs, i0, r0, z0, z1⟩, k⟩ := h
    have nsa : s ≠ a := ne_of hs ha (by intro q; cases ns <;> cases q)
    refine ⟨_, (pss_cons (ps_set (i := 2) sc_law_next.nd rfl (Or.inl rfl) (pe_ix (kIxL K) (pv 0) pe_int (fun _ _ => rfl)))
  (C8.pss_cut (ps_if (pt_cmpR op_eq (pv 2) pe_int (nomark _)) (pss_cons (ps_set (i := 3) sc_law_next.nd rfl (Or.inl rfl) pe_int)
  (C8.pss_cut (ps_if (pt_cmpR op_lt (pe_ix (kIxL K) (pv 0) pe_int (fun _ _ => rfl)) (pe_callB (kLen K) (by rfl) T.b_len (by decide +kernel) (pa_cons (pe_ix (kIxL K) (pv 0) pe_int (fun _ _ => rfl)) pa_nil)) (nomark _)) (pss_cons (ps_set (i := 3) sc_law_next.nd rfl (Or.inl rfl) (pe_callB call_abs (by rfl) T.b_abs (by decide +kernel) (pa_cons (pe_callTy call_int1 (by rfl) T.b_int (by decide +kernel) (pa_cons (pe_ix (kIxL K) (pe_ix (kIxL K) (pv 0) pe_int (fun _ _ => rfl)) (pe_ix (kIxL K) (pv 0) pe_int (fun _ _ => rfl)) (fun _ _ => rfl)) pa_nil)) pa_nil)))
  (pss_one (ps_asg (pe_op op_add (pe_ix (kIxL K) (pv 0) pe_int (fun _ _ => rfl)) pe_int) (pg_sub (pv 0) pe_int set_list)))) pss_nil)
  (pss_cons (ps_set (i := 2) sc_law_next.nd rfl (Or.inl rfl) (pv 3))
  (pss_one (ps_if (pt_cmpR op_lt (pv 3) (pe_op op_pow pe_int pe_int) (nomark _)) (pss_cons (ps_asg (pe_op op_mod (pe_callTy call_int1 (by rfl) T.b_int (by decide +kernel) (pa_cons (pe_op op_add (pe_op op_add (pe_op op_mul (pe_ix (kIxL K) (pv 0) pe_int (fun _ _ => rfl)) pe_int) (pe_op op_mul (pv 3) pe_int)) pe_int) pa_nil)) pe_int) (pg_sub (pv 0) pe_int set_list))
  (pss_one (ps_ret (pe_op op_mod (pe_op op_mod (pe_callTy call_int1 (by rfl) T.b_int (by decide +kernel) (pa_cons (pe_op op_mul (pe_op op_fdiv (pe_ix (kIxL K) (pv 0) pe_int (fun _ _ => rfl)) pe_int) pe_int) pa_nil)) pe_int) (pv 1))))) pss_nil))))) pss_nil)
  (pss_cons (ps_asg (pe_op op_fdiv (pv 2) (pv 1)) (pg_sub (pv 0) pe_int set_list))
  (pss_one (ps_ret (pe_op op_mod (pe_callTy call_int1 (by rfl) T.b_int (by decide +kernel) (pa_cons (pv 2) pa_nil)) (pv 1))))))), ?_⟩
    -- rest = tape[2]; if rest == 0
    walk_at "run"
    refine ⟨fun σ H1 => ∃ i' r' v, σ = [some (.ref a), some (.int many), some (.int r'), v] ∧ 0 ≤ r' ∧ 0 ≤ i' ∧ H1 a = some (.lst [.ref s, .int i', .int r, .int z]) ∧ H1 s = some (.lst (ns.map V.int)) ∧ Chg a H H1, ?_, ?_⟩
    · walk_at "run"
      refine iteD (fun h1 => ?_) (fun h1 => ?_)
      · -- cell = 0; if tape[1] < len(tape[0])
        walk_at "run"
        refine ⟨fun σ H1 => ∃ cell i', σ = [some (.ref a), some (.int many), some (.int r), some (.int cell)] ∧ 0 ≤ cell ∧ 0 ≤ i' ∧ H1 a = some (.lst [.ref s, .int i', .int r, .int z]) ∧ H1 s = some (.lst (ns.map V.int)) ∧ Chg a H H1, ?_, ?_⟩
        · walk_at "run"
          refine iteD (fun h2 => ?_) (fun h2 => ?_)
          · have hi : i.toNat < ns.length := by simpa using (show i.toNat < (ns.map V.int).length by omega)
            walk_at "run"
            refine ⟨_, _, _, _, rfl, rfl, SqL.of hs, atC i.toNat (by omega) (by rw [List.getElem?_map, List.getElem?_eq_getElem hi]; rfl), ?_⟩
            walk_at "run"
            exact ⟨_, i + 1, rfl, by split <;> omega, by omega, upd_same, by rw [upd_ne nsa]; exact hs, Chg.upd⟩
          · exact ⟨0, i, rfl, by omega, i0, ha, hs, Chg.refl _ _⟩
        · rintro σ H1 ⟨cell, i', rfl, c0, i0', ha1, hs1, ch⟩
          walk_at "run"
          refine iteD (fun h3 => ?_) (fun h3 => ?_)
          · walk_at "run"
            exact k _ _ (Int.emod_nonneg _ (by omega)) (Int.emod_lt_of_pos _ m0) ⟨ns, i', r, _, upd_same, by rw [upd_ne nsa]; exact hs1, i0', r0, Int.emod_nonneg _ (by decide), Int.emod_lt_of_pos _ (by decide)⟩ (ch.trans Chg.upd)
          · exact ⟨i', cell, _, rfl, c0, i0', ha1, hs1, ch⟩
      · exact ⟨i, r, _, rfl, r0, i0, ha, hs, Chg.refl _ _⟩
    · rintro σ H1 ⟨i', r', v, rfl, c0, i0', ha1, hs1, ch⟩
      walk_at "run"
      exact k _ _ (Int.emod_nonneg _ (by omega)) (Int.emod_lt_of_pos _ m0) ⟨ns, i', r' / many, z, upd_same, by rw [upd_ne nsa]; exact hs1, i0', Int.ediv_nonneg c0 (by omega), z0, z1⟩ (ch.trans Chg.upd)
end

section
variable {P : Program} {w : World} {K : PySem.W.Frag} {mg : Str → Option Value} {base : Heap} {C_Types C_NotValid : Addr}
abbrev s_is_at_least : Stmt := topS 2
abbrev ns_is_at_least : List Str := ["value", "least"]
theorem sc_is_at_least : FnScope ns_is_at_least ["value", "least"] (defScope s_is_at_least) := ⟨rfl, rfl, rfl, by decide +kernel, rfl, by decide +kernel, by decide +kernel⟩

theorem ok_is_at_least {f : Addr} {fd : FuncData} (F : Fun K "is_at_least" "is_at_least" s_is_at_least f fd) (T : Txt K mg C_Types C_NotValid) : FnOk P w K mg base CX0 1 f fd ["value", "least"] spGe := by
  refine F.ok sc_is_at_least (fun vs H Q E h => ?_) (fun cdv A outer s H vs Q E hr h => ?_)
  · obtain ⟨v, d, lo, rfl, _⟩ := h
    rfl
  · obtain ⟨v, d, lo, rfl, hd, k⟩ := h
    refine ⟨_, (pss_one (ps_ret (pe_and (pe_callB (kIsi K) (by rfl) T.b_isinstance (by decide +kernel) (pa_cons (pv 0) (pa_cons (pe_bltn (v := .ty "int") (by rfl) T.b_int (by decide +kernel) rfl) pa_nil))) (pe_and (pe_not (pe_callB (kIsi K) (by rfl) T.b_isinstance (by decide +kernel) (pa_cons (pv 0) (pa_cons (pe_bltn (v := .ty "bool") (by rfl) T.b_bool (by decide +kernel) rfl) pa_nil)))) (pe_one (pe_cmpR op_ge (pv 0) (pv 1) (nomark _))))))), ?_⟩
    refine ⟨_, rfl, _, _, _, _, _, rfl, .ty _, hd.ty, kit_ty (kitInt d), _, rfl, ?_⟩
    cases hd with
    | int i =>
      refine iteT ⟨_, rfl, _, _, _, _, _, rfl, .ty _, (Dt.int i).ty, kit_ty (kitBool (.int i)), _, rfl, _, rfl, iteT ?_⟩
      walk_at "run"
      exact k
    | bl b => exact iteT ⟨_, rfl, _, _, _, _, _, rfl, .ty _, (Dt.bl b).ty, kit_ty (kitBool (.bool b)), _, rfl, _, rfl, iteF k⟩
    | non => exact iteF k
    | str x => exact iteF k
    | lst a b => exact iteF k
    | tup a b => exact iteF k
abbrev s_is_between : Stmt := topS 3
abbrev ns_is_between : List Str := ["value", "least", "most"]
theorem sc_is_between : FnScope ns_is_between ["value", "least", "most"] (defScope s_is_between) := ⟨rfl, rfl, rfl, by decide +kernel, rfl, by decide +kernel, by decide +kernel⟩

theorem ok_is_between {f : Addr} {fd : FuncData} (F : Fun K "is_between" "is_between" s_is_between f fd) (T : Txt K mg C_Types C_NotValid) (D_is_at_least : Dfn P w K mg base CX0 1 "is_at_least" ["value", "least"] spGe) : FnOk P w K mg base CX0 2 f fd ["value", "least", "most"] spBtw := by
  refine F.ok sc_is_between (fun vs H Q E h => ?_) (fun cdv A outer s H vs Q E hr h => ?_)
  · obtain ⟨v, d, lo, hi, rfl, _⟩ := h
    rfl
  · obtain ⟨v, d, lo, hi, rfl, hd, k⟩ := h
    refine ⟨_, (pss_one (ps_ret (pe_and (pe_dcall D_is_at_least (hr.mono (by decide)) (by rfl) pass0 (pa_cons (pv 0) (pa_cons (pv 1) pa_nil))) (pe_one (pe_cmpR op_le (pv 0) (pv 2) (nomark _)))))), ?_⟩
    refine ⟨_, rfl, _, rfl, _, d, _, rfl, hd, _, rfl, iteB (fun e => ?_) (fun e => ?_)⟩
    · cases hd with
      | int i =>
        walk_at "run"
        have e' : decide (lo ≤ i) = true := e
        have k' : Q (.bl (decide (lo ≤ i) && decide (i ≤ hi))) H := k
        rw [e', Bool.true_and] at k'
        exact k'
      | bl b => cases e
      | non => cases e
      | str x => cases e
      | lst a b => cases e
      | tup a b => cases e
    · have e2 : isI d lo hi = false := by
        cases d with
        | int i =>
          have e' : decide (lo ≤ i) = false := e
          show (decide (lo ≤ i) && decide (i ≤ hi)) = false
          rw [e', Bool.false_and]
        | _ => rfl
      rw [e2] at k
      exact k
abbrev s_is_index : Stmt := topS 4
abbrev ns_is_index : List Str := ["value", "many"]
theorem sc_is_index : FnScope ns_is_index ["value", "many"] (defScope s_is_index) := ⟨rfl, rfl, rfl, by decide +kernel, rfl, by decide +kernel, by decide +kernel⟩

theorem ok_is_index {f : Addr} {fd : FuncData} (F : Fun K "is_index" "is_index" s_is_index f fd) (T : Txt K mg C_Types C_NotValid) (D_is_between : Dfn P w K mg base CX0 2 "is_between" ["value", "least", "most"] spBtw) : FnOk P w K mg base CX0 3 f fd ["value", "many"] spIdx := by
  refine F.ok sc_is_index (fun vs H Q E h => ?_) (fun cdv A outer s H vs Q E hr h => ?_)
  · obtain ⟨v, d, n, rfl, _⟩ := h
    rfl
  · obtain ⟨v, d, n, rfl, hd, k⟩ := h
    refine ⟨_, (pss_one (ps_ret (pe_dcall D_is_between (hr.mono (by decide)) (by rfl) pass0 (pa_cons (pv 0) (pa_cons pe_int (pa_cons (pe_op op_sub (pv 1) pe_int) pa_nil)))))), ?_⟩
    walk_at "run"
    exact ⟨_, d, _, _, rfl, hd, k⟩
end

section
variable {P : Program} {w : World} {K : PySem.W.Frag} {mg : Str → Option Value} {base : Heap} {C_Types C_NotValid : Addr}
abbrev s_is_word : Stmt := topS 14
abbrev ns_is_word : List Str := ["value"]
theorem sc_is_word : FnScope ns_is_word ["value"] (defScope s_is_word) := ⟨rfl, rfl, rfl, by decide +kernel, rfl, by decide +kernel, by decide +kernel⟩

theorem ok_is_word {f : Addr} {fd : FuncData} (F : Fun K "is_word" "is_word" s_is_word f fd) (T : Txt K mg C_Types C_NotValid) (D_is_between : Dfn P w K mg base CX0 2 "is_between" ["value", "least", "most"] spBtw) : FnOk P w K mg base CX0 3 f fd ["value"] spWord := by
  refine F.ok sc_is_word (fun vs H Q E h => ?_) (fun cdv A outer s H vs Q E hr h => ?_)
  · obtain ⟨v, d, rfl, _⟩ := h
    rfl
  · obtain ⟨v, d, rfl, hd, k⟩ := h
    refine ⟨_, (pss_one (ps_ret (pe_dcall D_is_between (hr.mono (by decide)) (by rfl) pass0 (pa_cons (pv 0) (pa_cons pe_int (pa_cons (pe_gint (by rfl) T.c_TOP) pa_nil)))))), ?_⟩
    walk_at "run"
    exact ⟨_, d, _, _, rfl, hd, k⟩
end

end My

namespace My
open PySem L2
local macro_rules | `(tactic| walk_at "ne") => `(tactic| first | assumption | exact Ne.symm (by assumption) | exact ne_of_none (by assumption) (by assumption) | exact Ne.symm (ne_of_none (by assumption) (by assumption)))
local macro_rules | `(tactic| walk_at "hp") => `(tactic| first | assumption | with_reducible exact upd_same | (with_reducible refine Eq.trans (upd_ne ?_) ?_; rotate_left; walk_at "hp"; walk_at "ne"))
local macro_rules | `(tactic| walk_at "cnd") => `(tactic| first | omega | (show (0 : Int) < _; omega) | exact ⟨by omega, by omega⟩ | exact Or.inl ⟨by omega, by omega⟩ | exact Or.inr ⟨by omega, by omega⟩ | exact ⟨by omega, by omega, by decide⟩ | exact ⟨by omega, by omega, by omega⟩)
local macro_rules | `(tactic| walk_at "at") => `(tactic| first | exact atC 0 rfl rfl | exact atC 1 rfl rfl | exact atC 2 rfl rfl | exact atC 3 rfl rfl | exact atC 4 rfl rfl | exact atC 5 rfl rfl | exact atC 6 rfl rfl | exact atC 7 rfl rfl)
local macro_rules | `(tactic| walk_at "ix") => `(tactic| first | exact ixC 0 rfl (Nat.le_of_ble_eq_true rfl) | exact ixC 1 rfl (Nat.le_of_ble_eq_true rfl) | exact ixC 2 rfl (Nat.le_of_ble_eq_true rfl) | exact ixC 3 rfl (Nat.le_of_ble_eq_true rfl) | exact ixC 4 rfl (Nat.le_of_ble_eq_true rfl) | exact ixC 5 rfl (Nat.le_of_ble_eq_true rfl))
local macro_rules | `(tactic| walk_at "st") => `(tactic| first
  | refine ⟨_, rfl, ?_⟩
  | refine ⟨_, _, rfl, rfl, (by walk_at "cnd" : (_ : Prop)), ?_⟩
  | refine ⟨_, _, rfl, rfl, ?_⟩
  | refine ⟨rfl, ?_⟩
  | refine Or.inl ⟨_, rfl, ?_⟩
  | refine ⟨_, _, _, _, rfl, rfl, by exact SqL.of (by walk_at "hp"), by walk_at "at", ?_⟩
  | refine ⟨_, _, _, _, rfl, rfl, by exact SqT.of (by walk_at "hp"), by walk_at "at", ?_⟩
  | refine ⟨_, _, _, _, rfl, rfl, by walk_at "hp", by walk_at "ix", ?_⟩
  | refine ⟨_, _, rfl, Or.inl (by exact SqL.of (by walk_at "hp")), ?_⟩
  | refine ⟨_, _, rfl, Or.inr (by exact SqT.of (by walk_at "hp")), ?_⟩)
local macro_rules | `(tactic| walk_at "so") => `(tactic| first
  | refine ⟨_, _, _, _, _, rfl, by walk_at "hp", by assumption, by assumption, rfl, ?_⟩
  | refine ⟨_, _, _, _, rfl, by walk_at "hp", by assumption, by assumption, Nat.le_of_ble_eq_true rfl, ?_⟩
  | refine ⟨_, _, _, rfl, by walk_at "hp", rfl, ?_⟩
  | walk_at "st")
local macro_rules | `(tactic| walk_at "ro") => `(tactic| repeat walk_at "so")
local macro_rules | `(tactic| walk_at "run") => `(tactic| repeat walk_at "st")

/-! ### programs as data -/
def TOPW : Int := 4294967295
def isGd : PyData → Bool
  | .tuple [a, b, c] => isI a 0 7 && (isI b 0 4294967295 && isI c 0 4294967295)
  | _ => false
def spGd : Sp := fun vs H Q _ => ∃ v d, vs = [v] ∧ Dt H v d ∧ Q (.bl (isGd d)) H
def isMn (d : PyData) (s : Int) : Bool := match d with
  | .tuple [a, b] => PyData.eqv a (.str "word") && isI b 0 7
  | .tuple _ => false
  | d => isI d 1 (8 - s)
def spMn : Sp := fun vs H Q _ => ∃ v d s, vs = [v, .int s] ∧ Dt H v d ∧ (∀ a b, d = .tuple [a, b] → SeqAt.shaped a = true) ∧ Q (.bl (isMn d s)) H
def isKd (d : PyData) (n : Int) : Bool := PyData.eqv d (.str "own") || (isI d 0 (n - 1) && !PyData.eqv d (.int 1))
def spKd : Sp := fun vs H Q _ => ∃ v d n, vs = [v, .int n] ∧ Dt H v d ∧ SeqAt.shaped d = true ∧ Q (.bl (isKd d n)) H
def gdsOk : PyData → Bool
  | .tuple gs => decide (gs.length ≤ 4) && gs.all isGd
  | _ => false
def intD : PyData → Int
  | .int i => i
  | _ => 0
def isCl (n : Int) : PyData → Bool
  | .tuple [g, s, m, k] => gdsOk g && (isI s 0 7 && (isMn m (intD s) && isKd k n))
  | _ => false
def ClFit (d : PyData) : Prop := ∀ g s m k, d = .tuple [g, s, m, k] → SeqAt.shaped k = true ∧ ∀ a b, m = .tuple [a, b] → SeqAt.shaped a = true
def spCl : Sp := fun vs H Q _ => ∃ v d n, vs = [v, .int n] ∧ Dt H v d ∧ ClFit d ∧ ∀ H', Same H H' → Q (.bl (isCl n d)) H'
def isPg (n : Int) : PyData → Bool
  | .tuple cs => decide (cs.length ≤ 8) && cs.all (isCl n)
  | _ => false
def spPg : Sp := fun vs H Q _ => ∃ v d n, vs = [v, .int n] ∧ Dt H v d ∧ (∀ cs, d = .tuple cs → ∀ c ∈ cs, ClFit c) ∧ ∀ H', Same H H' → Q (.bl (isPg n d)) H'
theorem isI_int {d : PyData} {lo hi : Int} (h : isI d lo hi = true) : ∃ i, d = .int i ∧ lo ≤ i ∧ i ≤ hi := by
  cases d with
  | int i =>
    have h' : (decide (lo ≤ i) && decide (i ≤ hi)) = true := h
    rw [Bool.and_eq_true, decide_eq_true_eq, decide_eq_true_eq] at h'
    exact ⟨i, rfl, h'.1, h'.2⟩
  | _ => cases h
theorem sh_str (x : Str) (h : PyData.strOk x = true := by decide +kernel) : SeqAt.shaped (.str x) = true := by
  unfold SeqAt.shaped
  rw [PyData.canLay0, PyData.depth, h]; rfl
theorem sh_int (x : Int) : SeqAt.shaped (.int x) = true := (Sh.int 0 x).ok
section
variable {P : Program} {w : World} {K : PySem.W.Frag} {mg : Str → Option Value} {base : Heap}
abbrev s_is_guard : Stmt := topS 25
abbrev ns_is_guard : List Str := ["value"]
theorem sc_is_guard : FnScope ns_is_guard ["value"] (defScope s_is_guard) := ⟨rfl, rfl, rfl, by decide +kernel, rfl, by decide +kernel, by decide +kernel⟩

theorem ok_is_guard {f : Addr} {fd : FuncData} (F : Fun K "_is_guard" "_is_guard" s_is_guard f fd) (T : Txt K mg C_Types C_NotValid) (D_is_index : Dfn P w K mg base CX0 3 "is_index" ["value", "many"] spIdx) (D_is_word : Dfn P w K mg base CX0 3 "is_word" ["value"] spWord) : FnOk P w K mg base CX0 4 f fd ["value"] spGd := by
  refine F.ok sc_is_guard (fun vs H Q E h => ?_) (fun cdv A outer s H vs Q E hr h => ?_)
  · obtain ⟨v, d, rfl, _⟩ := h
    rfl
  · obtain ⟨v, d, rfl, hd, k⟩ := h
    refine ⟨_, (pss_cons (ps_if (PW.pt (pw_or (pt_not (pt_val (pe_callB (kIsi K) (by rfl) T.b_isinstance (by decide +kernel) (pa_cons (pv 0) (pa_cons (pe_bltn (v := .ty "tuple") (by rfl) T.b_tuple (by decide +kernel) rfl) pa_nil))))) (pw_or1 (pt_cmpR op_ne (pe_callB (kLen K) (by rfl) T.b_len (by decide +kernel) (pa_cons (pv 0) pa_nil)) pe_int (nomark _))))) (pss_one (ps_ret pe_bl)) pss_nil)
  (pss_one (ps_ret (pe_and (pe_dcall D_is_index (hr.mono (by decide)) (by rfl) pass0 (pa_cons (pe_ix (kIxT K) (pv 0) pe_int (fun _ _ => rfl)) (pa_cons (pe_gint (by rfl) T.c_WORDS) pa_nil))) (pe_and (pe_dcall D_is_word (hr.mono (by decide)) (by rfl) pass0 (pa_cons (pe_ix (kIxT K) (pv 0) pe_int (fun _ _ => rfl)) pa_nil)) (pe_one (pe_dcall D_is_word (hr.mono (by decide)) (by rfl) pass0 (pa_cons (pe_ix (kIxT K) (pv 0) pe_int (fun _ _ => rfl)) pa_nil)))))))), ?_⟩
    refine ⟨_, rfl, _, _, _, _, _, rfl, .ty _, hd.ty, kit_ty (kitTup d), _, rfl, ?_⟩
    cases hd with
    | @tup a xs ds ha hs =>
      have hlen := hs.len
      refine iteF ?_
      walk_at "run"
      refine iteDn (fun h1 => ?_) (fun h1 => ?_)
      · have e : isGd (.tuple ds) = false := by
          match ds, hlen with
          | [], _ => rfl
          | [_], _ => rfl
          | [_, _], _ => rfl
          | [x, y, z], hl => exact absurd (by rw [hl] <;> rfl) h1
          | _ :: _ :: _ :: _ :: _, _ => rfl
        rw [e] at k
        exact k
      · have h3 : ds.length = 3 := by
          have q : ((xs.length : Nat) : Int) = 3 := by injection h1
          omega
        match ds, h3, hs, k with
        | [d1, d2, d3], _, hs, k =>
          cases hs with
          | cons b1 hs => cases hs with
            | cons b2 hs => cases hs with
              | cons b3 hs =>
                cases hs
                walk_at "run"
                refine ⟨_, d1, _, rfl, b1, _, rfl, iteB (fun e => ?_) (fun e => ?_)⟩
                · walk_at "run"
                  refine ⟨_, d2, rfl, b2, _, rfl, iteB (fun e2 => ?_) (fun e2 => ?_)⟩
                  · walk_at "run"
                    refine ⟨_, d3, rfl, b3, ?_⟩
                    have e3 : isGd (.tuple [d1, d2, d3]) = isI d3 0 4294967295 := by
                      show (isI d1 0 7 && (isI d2 0 4294967295 && isI d3 0 4294967295)) = _
                      rw [show isI d1 0 7 = true from e, e2]; rfl
                    rw [e3] at k
                    exact k
                  · have e3 : isGd (.tuple [d1, d2, d3]) = false := by
                      show (isI d1 0 7 && (isI d2 0 4294967295 && isI d3 0 4294967295)) = _
                      rw [e2, Bool.false_and, Bool.and_false]
                    rw [e3] at k
                    exact k
                · have e3 : isGd (.tuple [d1, d2, d3]) = false := by
                    show (isI d1 0 7 && (isI d2 0 4294967295 && isI d3 0 4294967295)) = _
                    rw [show isI d1 0 7 = false from e, Bool.false_and]
                  rw [e3] at k
                  exact k
    | int i => exact iteT k
    | bl b => exact iteT k
    | non => exact iteT k
    | str x => exact iteT k
    | lst a b => exact iteT k
abbrev s_is_many : Stmt := topS 26
abbrev ns_is_many : List Str := ["value", "start"]
theorem sc_is_many : FnScope ns_is_many ["value", "start"] (defScope s_is_many) := ⟨rfl, rfl, rfl, by decide +kernel, rfl, by decide +kernel, by decide +kernel⟩

theorem ok_is_many {f : Addr} {fd : FuncData} (F : Fun K "_is_many" "_is_many" s_is_many f fd) (T : Txt K mg C_Types C_NotValid) (D_is_index : Dfn P w K mg base CX0 3 "is_index" ["value", "many"] spIdx) (D_is_between : Dfn P w K mg base CX0 2 "is_between" ["value", "least", "most"] spBtw) : FnOk P w K mg base CX0 4 f fd ["value", "start"] spMn := by
  refine F.ok sc_is_many (fun vs H Q E h => ?_) (fun cdv A outer s H vs Q E hr h => ?_)
  · obtain ⟨v, d, s, rfl, _⟩ := h
    rfl
  · obtain ⟨v, d, s0, rfl, hd, hsh, k⟩ := h
    refine ⟨_, (pss_cons (ps_if (pt_not (pt_val (pe_callB (kIsi K) (by rfl) T.b_isinstance (by decide +kernel) (pa_cons (pv 0) (pa_cons (pe_bltn (v := .ty "tuple") (by rfl) T.b_tuple (by decide +kernel) rfl) pa_nil))))) (pss_one (ps_ret (pe_dcall D_is_between (hr.mono (by decide)) (by rfl) pass0 (pa_cons (pv 0) (pa_cons pe_int (pa_cons (pe_op op_sub (pe_gint (by rfl) T.c_WORDS) (pv 1)) pa_nil)))))) pss_nil)
  (pss_one (ps_ret (pe_and (pe_cmpR op_eq (pe_callB (kLen K) (by rfl) T.b_len (by decide +kernel) (pa_cons (pv 0) pa_nil)) pe_int (nomark _)) (pe_and (pe_cmpR (kEqD K hr.units) (pe_ix (kIxT K) (pv 0) pe_int (fun _ _ => rfl)) pe_str (nomark _)) (pe_one (pe_dcall D_is_index (hr.mono (by decide)) (by rfl) pass0 (pa_cons (pe_ix (kIxT K) (pv 0) pe_int (fun _ _ => rfl)) (pa_cons (pe_gint (by rfl) T.c_WORDS) pa_nil))))))))), ?_⟩
    refine ⟨_, rfl, _, _, _, _, _, rfl, .ty _, hd.ty, kit_ty (kitTup d), _, rfl, ?_⟩
    cases hd with
    | @tup a xs ds ha hs =>
      have hlen := hs.len
      refine iteF ?_
      walk_at "run"
      refine iteB (fun e => ?_) (fun e => ?_)
      · have h2 : ds.length = 2 := by
          have q : V.int ((xs.length : Nat) : Int) = .int 2 := of_decide_eq_true e
          have q : ((xs.length : Nat) : Int) = 2 := by injection q
          omega
        match ds, h2, hs, k, hsh with
        | [d1, d2], _, hs, k, hsh =>
          cases hs with
          | cons b1 hs => cases hs with
            | cons b2 hs =>
              cases hs
              walk_at "run"
              refine ⟨d1, .str "word", b1.dp, (Dt.str _).dp, hsh _ _ rfl, sh_str _, ?_⟩
              refine ⟨_, rfl, iteB (fun e2 => ?_) (fun e2 => ?_)⟩
              · walk_at "run"
                refine ⟨_, d2, _, rfl, b2, ?_⟩
                have e3 : isMn (.tuple [d1, d2]) s0 = isI d2 0 7 := by
                  show (PyData.eqv d1 (.str "word") && isI d2 0 7) = _
                  rw [e2, Bool.true_and]
                rw [e3] at k
                exact k
              · have e3 : isMn (.tuple [d1, d2]) s0 = false := by
                  show (PyData.eqv d1 (.str "word") && isI d2 0 7) = _
                  rw [e2, Bool.false_and]
                rw [e3] at k
                exact k
      · have e3 : isMn (.tuple ds) s0 = false := by
          match ds, hlen with
          | [], _ => rfl
          | [_], _ => rfl
          | [_, _], hl => exact absurd (show V.int ((xs.length : Nat) : Int) = .int 2 by rw [hl] <;> rfl) (of_decide_eq_false e)
          | _ :: _ :: _ :: _, _ => rfl
        rw [e3] at k
        exact k
    | int i =>
      refine iteT ?_
      walk_at "run"
      exact ⟨_, _, _, _, rfl, .int i, k⟩
    | bl b =>
      refine iteT ?_
      walk_at "run"
      exact ⟨_, _, _, _, rfl, .bl b, k⟩
    | non =>
      refine iteT ?_
      walk_at "run"
      exact ⟨_, _, _, _, rfl, .non, k⟩
    | str x =>
      refine iteT ?_
      walk_at "run"
      exact ⟨_, _, _, _, rfl, .str x, k⟩
    | lst a b =>
      refine iteT ?_
      walk_at "run"
      exact ⟨_, _, _, _, rfl, .lst a b, k⟩
abbrev s_is_kind : Stmt := topS 27
abbrev ns_is_kind : List Str := ["value", "count"]
theorem sc_is_kind : FnScope ns_is_kind ["value", "count"] (defScope s_is_kind) := ⟨rfl, rfl, rfl, by decide +kernel, rfl, by decide +kernel, by decide +kernel⟩

theorem ok_is_kind {f : Addr} {fd : FuncData} (F : Fun K "_is_kind" "_is_kind" s_is_kind f fd) (T : Txt K mg C_Types C_NotValid) (D_is_index : Dfn P w K mg base CX0 3 "is_index" ["value", "many"] spIdx) : FnOk P w K mg base CX0 4 f fd ["value", "count"] spKd := by
  refine F.ok sc_is_kind (fun vs H Q E h => ?_) (fun cdv A outer s H vs Q E hr h => ?_)
  · obtain ⟨v, d, n, rfl, _⟩ := h
    rfl
  · obtain ⟨v, d, n, rfl, hd, hsh, k⟩ := h
    refine ⟨_, (pss_one (ps_ret (pe_or (pe_cmpR (kEqD K hr.units) (pv 0) pe_str (nomark _)) (pe_one (pe_and (pe_dcall D_is_index (hr.mono (by decide)) (by rfl) pass0 (pa_cons (pv 0) (pa_cons (pv 1) pa_nil))) (pe_one (pe_cmpR (kNeD K hr.units) (pv 0) (pe_gint (by rfl) T.c_ROOT) (nomark _)))))))), ?_⟩
    walk_at "run"
    refine ⟨d, .str "own", hd.dp, (Dt.str _).dp, hsh, sh_str _, ?_⟩
    refine ⟨_, rfl, iteB (fun e => ?_) (fun e => ?_)⟩
    · have e3 : isKd d n = true := by unfold isKd; rw [e]; rfl
      rw [e3] at k
      exact k
    · refine ⟨_, rfl, _, rfl, _, d, _, rfl, hd, _, rfl, iteB (fun e2 => ?_) (fun e2 => ?_)⟩
      · walk_at "run"
        refine ⟨d, .int 1, hd.dp, (Dt.int _).dp, hsh, sh_int _, ?_⟩
        have e3 : isKd d n = !PyData.eqv d (.int 1) := by
          unfold isKd
          rw [e, show isI d 0 (n - 1) = true from e2]; rfl
        rw [e3] at k
        exact k
      · have e3 : isKd d n = false := by
          unfold isKd
          rw [e, show isI d 0 (n - 1) = false from e2]; rfl
        rw [e3] at k
        exact k
end
end My

namespace My
open PySem L2
local macro_rules | `(tactic| walk_at "ne") => `(tactic| first | assumption | exact Ne.symm (by assumption) | exact ne_of_none (by assumption) (by assumption) | exact Ne.symm (ne_of_none (by assumption) (by assumption)))
local macro_rules | `(tactic| walk_at "hp") => `(tactic| first | assumption | with_reducible exact upd_same | (with_reducible refine Eq.trans (upd_ne ?_) ?_; rotate_left; walk_at "hp"; walk_at "ne"))
local macro_rules | `(tactic| walk_at "cnd") => `(tactic| first | omega | (show (0 : Int) < _; omega) | exact ⟨by omega, by omega⟩ | exact Or.inl ⟨by omega, by omega⟩ | exact Or.inr ⟨by omega, by omega⟩ | exact ⟨by omega, by omega, by decide⟩ | exact ⟨by omega, by omega, by omega⟩)
local macro_rules | `(tactic| walk_at "at") => `(tactic| first | exact atC 0 rfl rfl | exact atC 1 rfl rfl | exact atC 2 rfl rfl | exact atC 3 rfl rfl | exact atC 4 rfl rfl | exact atC 5 rfl rfl | exact atC 6 rfl rfl | exact atC 7 rfl rfl)
local macro_rules | `(tactic| walk_at "ix") => `(tactic| first | exact ixC 0 rfl (Nat.le_of_ble_eq_true rfl) | exact ixC 1 rfl (Nat.le_of_ble_eq_true rfl) | exact ixC 2 rfl (Nat.le_of_ble_eq_true rfl) | exact ixC 3 rfl (Nat.le_of_ble_eq_true rfl) | exact ixC 4 rfl (Nat.le_of_ble_eq_true rfl) | exact ixC 5 rfl (Nat.le_of_ble_eq_true rfl))
local macro_rules | `(tactic| walk_at "st") => `(tactic| first
  | refine ⟨_, rfl, ?_⟩
  | refine ⟨_, _, rfl, rfl, (by walk_at "cnd" : (_ : Prop)), ?_⟩
  | refine ⟨_, _, rfl, rfl, ?_⟩
  | refine ⟨rfl, ?_⟩
  | refine Or.inl ⟨_, rfl, ?_⟩
  | refine ⟨_, _, _, _, rfl, rfl, by exact SqL.of (by walk_at "hp"), by walk_at "at", ?_⟩
  | refine ⟨_, _, _, _, rfl, rfl, by exact SqT.of (by walk_at "hp"), by walk_at "at", ?_⟩
  | refine ⟨_, _, _, _, rfl, rfl, by walk_at "hp", by walk_at "ix", ?_⟩
  | refine ⟨_, _, rfl, Or.inl (by exact SqL.of (by walk_at "hp")), ?_⟩
  | refine ⟨_, _, rfl, Or.inr (by exact SqT.of (by walk_at "hp")), ?_⟩)
local macro_rules | `(tactic| walk_at "so") => `(tactic| first
  | refine ⟨_, _, _, _, _, rfl, by walk_at "hp", by assumption, by assumption, rfl, ?_⟩
  | refine ⟨_, _, _, _, rfl, by walk_at "hp", by assumption, by assumption, Nat.le_of_ble_eq_true rfl, ?_⟩
  | refine ⟨_, _, _, rfl, by walk_at "hp", rfl, ?_⟩
  | walk_at "st")
local macro_rules | `(tactic| walk_at "ro") => `(tactic| repeat walk_at "so")
local macro_rules | `(tactic| walk_at "run") => `(tactic| repeat walk_at "st")

section
variable {P : Program} {w : World} {K : PySem.W.Frag} {mg : Str → Option Value} {base : Heap}
abbrev s_is_clause : Stmt := topS 24
abbrev ns_is_clause : List Str := ["value", "count", "guards", "start", "many", "kind", "row"]
theorem sc_is_clause : FnScope ns_is_clause ["value", "count"] (defScope s_is_clause) := ⟨rfl, rfl, rfl, by decide +kernel, rfl, by decide +kernel, by decide +kernel⟩

theorem ok_is_clause {f : Addr} {fd : FuncData} (F : Fun K "_is_clause" "_is_clause" s_is_clause f fd) (T : Txt K mg C_Types C_NotValid) (D_is_guard : Dfn P w K mg base CX0 4 "_is_guard" ["value"] spGd) (D_is_index : Dfn P w K mg base CX0 3 "is_index" ["value", "many"] spIdx) (D_is_many : Dfn P w K mg base CX0 4 "_is_many" ["value", "start"] spMn) (D_is_kind : Dfn P w K mg base CX0 4 "_is_kind" ["value", "count"] spKd) : FnOk P w K mg base CX0 5 f fd ["value", "count"] spCl := by
  refine F.ok sc_is_clause (fun vs H Q E h => ?_) (fun cdv A outer s H vs Q E hr h => ?_)
  · obtain ⟨v, d, n, rfl, _⟩ := h
    rfl
  · obtain ⟨v, d, n, rfl, hd, hfit, k⟩ := h
    refine ⟨_, (pss_cons (ps_if (PW.pt (pw_or (pt_not (pt_val (pe_callB (kIsi K) (by rfl) T.b_isinstance (by decide +kernel) (pa_cons (pv 0) (pa_cons (pe_bltn (v := .ty "tuple") (by rfl) T.b_tuple (by decide +kernel) rfl) pa_nil))))) (pw_or1 (pt_cmpR op_ne (pe_callB (kLen K) (by rfl) T.b_len (by decide +kernel) (pa_cons (pv 0) pa_nil)) pe_int (nomark _))))) (pss_one (ps_ret pe_bl)) pss_nil)
  (pss_cons (ps_asg (pv 0) (kpgT K (n := 4) (by rfl) (pgs_cons (pg_name (i := 2) sc_is_clause.nd rfl (Or.inl rfl)) (pgs_cons (pg_name (i := 3) sc_is_clause.nd rfl (Or.inl rfl)) (pgs_cons (pg_name (i := 4) sc_is_clause.nd rfl (Or.inl rfl)) (pgs_cons (pg_name (i := 5) sc_is_clause.nd rfl (Or.inl rfl)) pgs_nil))))))
  (pss_cons (ps_if (PW.pt (pw_or (pt_not (pt_val (pe_callB (kIsi K) (by rfl) T.b_isinstance (by decide +kernel) (pa_cons (pv 2) (pa_cons (pe_bltn (v := .ty "tuple") (by rfl) T.b_tuple (by decide +kernel) rfl) pa_nil))))) (pw_or (pt_cmpR op_gt (pe_callB (kLen K) (by rfl) T.b_len (by decide +kernel) (pa_cons (pv 2) pa_nil)) (pe_gint (by rfl) T.c__MOST_GUARDS) (nomark _)) (pw_or1 (pt_not (pt_val (pe_callB (kAll K rfl) (by rfl) T.b_all (by decide +kernel) (pa_cons (pe_lc (own := [("row", 6)]) (by rfl) sc_is_clause.nd (kpiT K (pv 2)) (blkOk_by (N := ns_is_clause) (sc := defScope s_is_clause) (by decide +kernel)) (fun _ _ _ _ _ => (pg_name (i := 6) sc_is_clause.nd rfl (Or.inl rfl))) (fun _ _ _ _ _ => pts_nil) (fun _ _ _ _ _ => (pe_dcall D_is_guard (hr.mono (by decide)) (by rfl) pass0 (pa_cons (pv 6) pa_nil)))) pa_nil)))))))) (pss_one (ps_ret pe_bl)) pss_nil)
  (pss_one (ps_ret (pe_and (pe_dcall D_is_index (hr.mono (by decide)) (by rfl) pass0 (pa_cons (pv 3) (pa_cons (pe_gint (by rfl) T.c_WORDS) pa_nil))) (pe_and (pe_dcall D_is_many (hr.mono (by decide)) (by rfl) pass0 (pa_cons (pv 4) (pa_cons (pv 3) pa_nil))) (pe_one (pe_dcall D_is_kind (hr.mono (by decide)) (by rfl) pass0 (pa_cons (pv 5) (pa_cons (pv 1) pa_nil))))))))))), ?_⟩
    refine ⟨_, rfl, _, _, _, _, _, rfl, .ty _, hd.ty, kit_ty (kitTup d), _, rfl, ?_⟩
    cases hd with
    | @tup a xs ds ha hs =>
      have hlen := hs.len
      refine iteF ?_
      walk_at "run"
      refine iteDn (fun h1 => ?_) (fun h1 => ?_)
      · have e : isCl n (.tuple ds) = false := by
          match ds, hlen with
          | [], _ => rfl
          | [_], _ => rfl
          | [_, _], _ => rfl
          | [_, _, _], _ => rfl
          | [x, y, z, u], hl => exact absurd (by rw [hl] <;> rfl) h1
          | _ :: _ :: _ :: _ :: _ :: _, _ => rfl
        rw [e] at k
        exact k H (Same.refl H)
      · have h3 : ds.length = 4 := by
          have q : ((xs.length : Nat) : Int) = 4 := by injection h1
          omega
        match ds, h3, hs, k, hfit with
        | [d1, d2, d3, d4], _, hs, k, hfit =>
          obtain ⟨f1, f2⟩ := hfit _ _ _ _ rfl
          cases hs with
          | cons b1 hs => cases hs with
            | cons b2 hs => cases hs with
              | cons b3 hs => cases hs with
                | cons b4 hs =>
                  cases hs
                  walk_at "run"
                  refine ⟨_, _, rfl, SqT.of ha, rfl, _, _, rfl, _, _, rfl, _, _, rfl, _, _, rfl, rfl, ?_⟩
                  have bad : gdsOk d1 = false → isCl n (.tuple [d1, d2, d3, d4]) = false := fun e => by
                    show (gdsOk d1 && _) = false
                    rw [e, Bool.false_and]
                  refine ⟨_, rfl, _, _, _, _, _, rfl, .ty _, b1.ty, kit_ty (kitTup d1), _, rfl, ?_⟩
                  cases b1 with
                  | @tup ga gxs gs hga hgs =>
                    have glen := hgs.len
                    refine iteF ?_
                    walk_at "run"
                    refine iteD (fun h1 => ?_) (fun h1 => ?_)
                    · rw [bad (by show (decide (gs.length ≤ 4) && _) = false; rw [decide_eq_false (by omega), Bool.false_and])] at k
                      exact k H (Same.refl H)
                    · have g4 : gs.length ≤ 4 := by omega
                      walk_at "run"
                      refine ⟨⟨_, SqT.of hga⟩, fun D hD => ?_⟩
                      refine lcT (xs := gxs) ((gs.map isGd).map V.bl) (by simp [glen]) (by omega) hga hD ?_ ?_
                      · intro j x y H1 Q' hx hy s1 q
                        obtain ⟨d, hd1, hd2⟩ := hgs.getV hx
                        have ey : y = .bl (isGd d) := by
                          rw [List.getElem?_map, List.getElem?_map, hd1] at hy
                          exact (Option.some.inj hy).symm
                        subst ey
                        refine ⟨rfl, ?_⟩
                        walk_at "run"
                        exact ⟨_, d, rfl, hd2.same s1, q H1 (Same.refl _)⟩
                      · intro H1 s1 dd
                        refine ⟨_, _, rfl, SqL.of dd, _, rfl, ?_⟩
                        have eg : gdsOk (.tuple gs) = (gs.map isGd).all id := by
                          show (decide (gs.length ≤ 4) && gs.all isGd) = _
                          rw [decide_eq_true g4, Bool.true_and, List.all_map]; rfl
                        have ec : isCl n (.tuple [.tuple gs, d2, d3, d4]) = ((gs.map isGd).all id && (isI d2 0 7 && (isMn d3 (intD d2) && isKd d4 n))) := by
                          show (gdsOk (.tuple gs) && (isI d2 0 7 && (isMn d3 (intD d2) && isKd d4 n))) = _
                          rw [eg]
                        rw [ec] at k
                        cases e1 : (gs.map isGd).all id with
                        | false =>
                          rw [e1, Bool.false_and] at k
                          exact iteT (k H1 s1)
                        | true =>
                          rw [e1, Bool.true_and] at k
                          refine iteF ?_
                          walk_at "run"
                          refine ⟨_, d2, _, rfl, b2.same s1, _, rfl, iteB (fun e => ?_) (fun e => ?_)⟩
                          · have e' : isI d2 0 7 = true := e
                            obtain ⟨i, rfl, i0, i7⟩ := isI_int e'
                            rw [e', Bool.true_and] at k
                            have k : ∀ H', Same H H' → Q (.bl (isMn d3 i && isKd d4 n)) H' := k
                            cases b2
                            walk_at "run"
                            refine ⟨_, d3, _, rfl, b3.same s1, f2, _, rfl, iteB (fun e2 => ?_) (fun e2 => ?_)⟩
                            · walk_at "run"
                              rw [e2, Bool.true_and] at k
                              exact ⟨_, d4, _, rfl, b4.same s1, f1, k H1 s1⟩
                            · rw [e2, Bool.false_and] at k
                              exact k H1 s1
                          · have e' : isI d2 0 7 = false := e
                            rw [e', Bool.false_and] at k
                            exact k H1 s1
                  | int i => rw [bad rfl] at k; exact iteT (k H (Same.refl H))
                  | bl b => rw [bad rfl] at k; exact iteT (k H (Same.refl H))
                  | non => rw [bad rfl] at k; exact iteT (k H (Same.refl H))
                  | str x => rw [bad rfl] at k; exact iteT (k H (Same.refl H))
                  | lst a b => rw [bad rfl] at k; exact iteT (k H (Same.refl H))
    | int i => exact iteT (k H (Same.refl H))
    | bl b => exact iteT (k H (Same.refl H))
    | non => exact iteT (k H (Same.refl H))
    | str x => exact iteT (k H (Same.refl H))
    | lst a b => exact iteT (k H (Same.refl H))
abbrev s_is_program : Stmt := topS 23
abbrev ns_is_program : List Str := ["value", "count", "clause"]
theorem sc_is_program : FnScope ns_is_program ["value", "count"] (defScope s_is_program) := ⟨rfl, rfl, rfl, by decide +kernel, rfl, by decide +kernel, by decide +kernel⟩

theorem ok_is_program {f : Addr} {fd : FuncData} (F : Fun K "is_program" "is_program" s_is_program f fd) (T : Txt K mg C_Types C_NotValid) (D_is_clause : Dfn P w K mg base CX0 5 "_is_clause" ["value", "count"] spCl) : FnOk P w K mg base CX0 6 f fd ["value", "count"] spPg := by
  refine F.ok sc_is_program (fun vs H Q E h => ?_) (fun cdv A outer s H vs Q E hr h => ?_)
  · obtain ⟨v, d, n, rfl, _⟩ := h
    rfl
  · obtain ⟨v, d, n, rfl, hd, hfit, k⟩ := h
    refine ⟨_, (pss_cons (ps_if (PW.pt (pw_or (pt_not (pt_val (pe_callB (kIsi K) (by rfl) T.b_isinstance (by decide +kernel) (pa_cons (pv 0) (pa_cons (pe_bltn (v := .ty "tuple") (by rfl) T.b_tuple (by decide +kernel) rfl) pa_nil))))) (pw_or1 (pt_cmpR op_gt (pe_callB (kLen K) (by rfl) T.b_len (by decide +kernel) (pa_cons (pv 0) pa_nil)) (pe_gint (by rfl) T.c__MOST_CLAUSES) (nomark _))))) (pss_one (ps_ret pe_bl)) pss_nil)
  (pss_one (ps_ret (pe_callB (kAll K rfl) (by rfl) T.b_all (by decide +kernel) (pa_cons (pe_lc (own := [("clause", 2)]) (by rfl) sc_is_program.nd (kpiT K (pv 0)) (blkOk_by (N := ns_is_program) (sc := defScope s_is_program) (by decide +kernel)) (fun _ _ _ _ _ => (pg_name (i := 2) sc_is_program.nd rfl (Or.inl rfl))) (fun _ _ _ _ _ => pts_nil) (fun _ _ _ _ _ => (pe_dcall D_is_clause (hr.mono (by decide)) (by rfl) pass0 (pa_cons (pv 2) (pa_cons (pv 1) pa_nil))))) pa_nil))))), ?_⟩
    refine ⟨_, rfl, _, _, _, _, _, rfl, .ty _, hd.ty, kit_ty (kitTup d), _, rfl, ?_⟩
    cases hd with
    | @tup a xs ds ha hs =>
      have hlen := hs.len
      refine iteF ?_
      walk_at "run"
      refine iteD (fun h1 => ?_) (fun h1 => ?_)
      · have e : isPg n (.tuple ds) = false := by
          show (decide (ds.length ≤ 8) && _) = false
          rw [decide_eq_false (by omega), Bool.false_and]
        rw [e] at k
        exact k H (Same.refl H)
      · have h8 : ds.length ≤ 8 := by omega
        walk_at "run"
        refine ⟨⟨_, SqT.of ha⟩, fun D hD => ?_⟩
        refine lcT (xs := xs) ((ds.map (isCl n)).map V.bl) (by simp [hlen]) (by omega) ha hD ?_ ?_
        · intro j x y H1 Q' hx hy s1 q
          obtain ⟨d, hd1, hd2⟩ := hs.getV hx
          have ey : y = .bl (isCl n d) := by
            rw [List.getElem?_map, List.getElem?_map, hd1] at hy
            exact (Option.some.inj hy).symm
          subst ey
          refine ⟨rfl, ?_⟩
          walk_at "run"
          exact ⟨_, d, n, rfl, hd2.same s1, hfit _ rfl d (List.mem_of_getElem? hd1), fun H2 s2 => q H2 s2⟩
        · intro H1 s1 dd
          refine ⟨_, _, rfl, SqL.of dd, ?_⟩
          have e : isPg n (.tuple ds) = (ds.map (isCl n)).all id := by
            show (decide (ds.length ≤ 8) && ds.all (isCl n)) = _
            rw [decide_eq_true h8, Bool.true_and, List.all_map]; rfl
          rw [e] at k
          exact k H1 s1
    | int i => exact iteT (k H (Same.refl H))
    | bl b => exact iteT (k H (Same.refl H))
    | non => exact iteT (k H (Same.refl H))
    | str x => exact iteT (k H (Same.refl H))
    | lst a b => exact iteT (k H (Same.refl H))
end
end My

namespace My
open PySem L2
local macro_rules | `(tactic| walk_at "ne") => `(tactic| first | assumption | exact Ne.symm (by assumption) | exact ne_of_none (by assumption) (by assumption) | exact Ne.symm (ne_of_none (by assumption) (by assumption)))
local macro_rules | `(tactic| walk_at "hp") => `(tactic| first | assumption | with_reducible exact upd_same | (with_reducible refine Eq.trans (upd_ne ?_) ?_; rotate_left; walk_at "hp"; walk_at "ne"))
local macro_rules | `(tactic| walk_at "cnd") => `(tactic| first | omega | (show (0 : Int) < _; omega) | exact ⟨by omega, by omega⟩ | exact Or.inl ⟨by omega, by omega⟩ | exact Or.inr ⟨by omega, by omega⟩ | exact ⟨by omega, by omega, by decide⟩ | exact ⟨by omega, by omega, by omega⟩)
local macro_rules | `(tactic| walk_at "at") => `(tactic| first | exact atC 0 rfl rfl | exact atC 1 rfl rfl | exact atC 2 rfl rfl | exact atC 3 rfl rfl | exact atC 4 rfl rfl | exact atC 5 rfl rfl | exact atC 6 rfl rfl | exact atC 7 rfl rfl)
local macro_rules | `(tactic| walk_at "ix") => `(tactic| first | exact ixC 0 rfl (Nat.le_of_ble_eq_true rfl) | exact ixC 1 rfl (Nat.le_of_ble_eq_true rfl) | exact ixC 2 rfl (Nat.le_of_ble_eq_true rfl) | exact ixC 3 rfl (Nat.le_of_ble_eq_true rfl) | exact ixC 4 rfl (Nat.le_of_ble_eq_true rfl) | exact ixC 5 rfl (Nat.le_of_ble_eq_true rfl))
local macro_rules | `(tactic| walk_at "st") => `(tactic| first
  | refine ⟨_, rfl, ?_⟩
  | refine ⟨_, _, rfl, rfl, (by walk_at "cnd" : (_ : Prop)), ?_⟩
  | refine ⟨_, _, rfl, rfl, ?_⟩
  | refine ⟨rfl, ?_⟩
  | refine Or.inl ⟨_, rfl, ?_⟩
  | refine ⟨_, _, _, _, rfl, rfl, by exact SqL.of (by walk_at "hp"), by walk_at "at", ?_⟩
  | refine ⟨_, _, _, _, rfl, rfl, by exact SqT.of (by walk_at "hp"), by walk_at "at", ?_⟩
  | refine ⟨_, _, _, _, rfl, rfl, by walk_at "hp", by walk_at "ix", ?_⟩
  | refine ⟨_, _, rfl, Or.inl (by exact SqL.of (by walk_at "hp")), ?_⟩
  | refine ⟨_, _, rfl, Or.inr (by exact SqT.of (by walk_at "hp")), ?_⟩)
local macro_rules | `(tactic| walk_at "so") => `(tactic| first
  | refine ⟨_, _, _, _, _, rfl, by walk_at "hp", by assumption, by assumption, rfl, ?_⟩
  | refine ⟨_, _, _, _, rfl, by walk_at "hp", by assumption, by assumption, Nat.le_of_ble_eq_true rfl, ?_⟩
  | refine ⟨_, _, _, rfl, by walk_at "hp", rfl, ?_⟩
  | walk_at "st")
local macro_rules | `(tactic| walk_at "ro") => `(tactic| repeat walk_at "so")
local macro_rules | `(tactic| walk_at "run") => `(tactic| repeat walk_at "st")

/-! ### len(set(numbers)) -/
def dist (ns : List Int) : Nat := (PyProof.Rows.firstMet (fun i => ns.getD i 0) ns.length).length
theorem dist_step (ns : List Int) : ∀ i, i ≤ ns.length → ((ns.take i).Nodup ∧ PyProof.Rows.firstMet (fun i => ns.getD i 0) i = ns.take i) ∨ (¬ (ns.take i).Nodup ∧ (PyProof.Rows.firstMet (fun i => ns.getD i 0) i).length < i)
  | 0, _ => .inl ⟨by simp, by rw [PyProof.Rows.firstMet_zero]; simp⟩
  | i + 1, h => by
    have hlt : i < ns.length := h
    have e1 : ns.getD i 0 = ns[i] := by rw [List.getD_eq_getElem?_getD, List.getElem?_eq_getElem hlt] <;> rfl
    have e2 : ns.take (i + 1) = ns.take i ++ [ns[i]] := by rw [List.take_add_one, List.getElem?_eq_getElem hlt] <;> rfl
    rw [PyProof.Rows.firstMet_succ, e2]
    show (_ ∧ (if (PyProof.Rows.firstMet (fun i => ns.getD i 0) i).any (· == ns.getD i 0) then _ else _ ++ [ns.getD i 0]) = _) ∨ (_ ∧ (if (PyProof.Rows.firstMet (fun i => ns.getD i 0) i).any (· == ns.getD i 0) then PyProof.Rows.firstMet (fun i => ns.getD i 0) i else PyProof.Rows.firstMet (fun i => ns.getD i 0) i ++ [ns.getD i 0]).length < _)
    rw [e1]
    rcases dist_step ns i (Nat.le_of_lt hlt) with ⟨h1, h2⟩ | ⟨h1, h2⟩
    · rw [h2]
      by_cases hm : ns[i] ∈ ns.take i
      · refine .inr ⟨fun q => ?_, ?_⟩
        · exact (List.nodup_append.mp q).2.2 _ hm _ (List.mem_singleton.mpr rfl) rfl
        · have an : ((ns.take i).any fun x => x == ns[i]) = true := List.any_eq_true.mpr ⟨_, hm, beq_self_eq_true _⟩
          rw [if_pos an, List.length_take]; omega
      · refine .inl ⟨List.nodup_append.mpr ⟨h1, by simp, fun x hx y hy e => ?_⟩, ?_⟩
        · rw [List.mem_singleton.mp hy] at e
          exact hm (e ▸ hx)
        · rw [if_neg]
          intro q
          obtain ⟨y, hy, ey⟩ := List.any_eq_true.mp q
          exact hm ((eq_of_beq ey) ▸ hy)
    · refine .inr ⟨fun q => h1 (List.nodup_append.mp q).1, ?_⟩
      split
      · omega
      · rw [List.length_append]; show _ + 1 < _; omega
theorem dist_iff (ns : List Int) : decide ((dist ns : Int) < (ns.length : Int)) = !decide ns.Nodup := by
  have h := dist_step ns ns.length (Nat.le_refl _)
  rw [List.take_length] at h
  rcases h with ⟨h1, h2⟩ | ⟨h1, h2⟩
  · rw [decide_eq_true h1, decide_eq_false (by unfold dist; rw [h2]; omega)]; rfl
  · rw [decide_eq_false h1, decide_eq_true (by unfold dist; omega)]; rfl
def tLenSetG (K : PySem.W.Frag) (ta : TE) : TE := fun σ H Q => ta σ H fun x H1 => ∃ (l : Addr) (ns : List Int), x = .ref l ∧ SqL K H1 l (ns.map V.int) ∧ ns.length ≤ 4000 ∧ Q (.int (dist ns : Nat)) H1
open PyProof.Rows in
theorem pe_lenSetG {X : Cx} {a : Expr} {ta : TE} {p p2 q pos : Pos} (hg : Gl X "len") (hm : X.mg "len" = none) (hg2 : Gl X "set") (hm2 : X.mg "set" = none) (ha : PE X a ta) (hc : X.calm = true := by rfl)
    (na : starEach [a] X.env = (false, eval a X.env) :: starEach [] X.env := by rfl) : PE X (.Call (.Name "len" p) [.Call (.Name "set" p2) [a] [] q] [] pos) (tLenSetG X.K ta) := by
  refine ⟨fun pins s σ H Q I h => ?_⟩
  refine Call_ (ld_blt I hg hm boot_len ?_)
  refine PyProof.Rows.callWith_builtin1 (PyProof.Rows.args_cons ?_ rfl) rfl rfl
  refine Call_ (ld_blt I hg2 hm2 boot_set ?_)
  refine PyProof.Rows.callWith_type1 (PyProof.Rows.args_cons (thn (ha.run pins s σ H _ I h) fun v s1 ⟨x, H1, I1, r1, q1⟩ => PyProof.Rows.args_nil ?_) na) na rfl
  obtain ⟨l, ns, rfl, hq, hl, q1⟩ := q1
  cases r1
  obtain ⟨its, r, pl, hz⟩ := I1.list hq
  have hlen : its.toArray.size = ns.length := by rw [List.size_toArray, ← r.length, List.length_map]
  refine call_set_list (I1.ok.hd hc) pl.isList (by simpa using RZ.intsAre_vals r) (by rw [hlen]; unfold scanBound; omega) fun h' tk hS hk => ?_
  refine PyProof.Rows.args_nil ?_
  rw [hlen] at hS
  have hb := PyProof.Rows.firstMet_length_le (fun i => ns.getD i 0) ns.length
  obtain ⟨o, es, ep, t, ho, hex, hd, _, _, _, hf, hn⟩ := hS
  have I2 : Inv X pins σ H1 { s1 with heap := h', toks := tk } := I1.kept fun b o e => hk b o (Heap.lt_size e) e
  exact call_len_set ho hex hd hf (by rw [hn] <;> omega) ⟨.int (dist ns : Nat), H1, I2.tok _, ⟨_, by rw [hn] <;> rfl⟩, q1⟩
end My

namespace My
open PySem L2
local macro_rules | `(tactic| walk_at "ne") => `(tactic| first | assumption | exact Ne.symm (by assumption) | exact ne_of_none (by assumption) (by assumption) | exact Ne.symm (ne_of_none (by assumption) (by assumption)))
local macro_rules | `(tactic| walk_at "hp") => `(tactic| first | assumption | with_reducible exact upd_same | (with_reducible refine Eq.trans (upd_ne ?_) ?_; rotate_left; walk_at "hp"; walk_at "ne"))
local macro_rules | `(tactic| walk_at "cnd") => `(tactic| first | omega | (show (0 : Int) < _; omega) | exact ⟨by omega, by omega⟩ | exact Or.inl ⟨by omega, by omega⟩ | exact Or.inr ⟨by omega, by omega⟩ | exact ⟨by omega, by omega, by decide⟩ | exact ⟨by omega, by omega, by omega⟩)
local macro_rules | `(tactic| walk_at "at") => `(tactic| first | exact atC 0 rfl rfl | exact atC 1 rfl rfl | exact atC 2 rfl rfl | exact atC 3 rfl rfl | exact atC 4 rfl rfl | exact atC 5 rfl rfl | exact atC 6 rfl rfl | exact atC 7 rfl rfl)
local macro_rules | `(tactic| walk_at "ix") => `(tactic| first | exact ixC 0 rfl (Nat.le_of_ble_eq_true rfl) | exact ixC 1 rfl (Nat.le_of_ble_eq_true rfl) | exact ixC 2 rfl (Nat.le_of_ble_eq_true rfl) | exact ixC 3 rfl (Nat.le_of_ble_eq_true rfl) | exact ixC 4 rfl (Nat.le_of_ble_eq_true rfl) | exact ixC 5 rfl (Nat.le_of_ble_eq_true rfl))
local macro_rules | `(tactic| walk_at "st") => `(tactic| first
  | refine ⟨_, rfl, ?_⟩
  | refine ⟨_, _, rfl, rfl, (by walk_at "cnd" : (_ : Prop)), ?_⟩
  | refine ⟨_, _, rfl, rfl, ?_⟩
  | refine ⟨rfl, ?_⟩
  | refine Or.inl ⟨_, rfl, ?_⟩
  | refine ⟨_, _, _, _, rfl, rfl, by exact SqL.of (by walk_at "hp"), by walk_at "at", ?_⟩
  | refine ⟨_, _, _, _, rfl, rfl, by exact SqT.of (by walk_at "hp"), by walk_at "at", ?_⟩
  | refine ⟨_, _, _, _, rfl, rfl, by walk_at "hp", by walk_at "ix", ?_⟩
  | refine ⟨_, _, rfl, Or.inl (by exact SqL.of (by walk_at "hp")), ?_⟩
  | refine ⟨_, _, rfl, Or.inr (by exact SqT.of (by walk_at "hp")), ?_⟩)
local macro_rules | `(tactic| walk_at "so") => `(tactic| first
  | refine ⟨_, _, _, _, _, rfl, by walk_at "hp", by assumption, by assumption, rfl, ?_⟩
  | refine ⟨_, _, _, _, rfl, by walk_at "hp", by assumption, by assumption, Nat.le_of_ble_eq_true rfl, ?_⟩
  | refine ⟨_, _, _, rfl, by walk_at "hp", rfl, ?_⟩
  | walk_at "st")
local macro_rules | `(tactic| walk_at "ro") => `(tactic| repeat walk_at "so")
local macro_rules | `(tactic| walk_at "run") => `(tactic| repeat walk_at "st")

/-! ### drawn programs, rows of words -/
abbrev Row3 := Nat × Nat × Nat
def vN (n : Nat) : V := .int (n : Int)
def rowV (r : Row3) : List V := [.int r.1, .int r.2.1, .int r.2.2]
def rowD (r : Row3) : PyData := .tuple [.int r.1, .int r.2.1, .int r.2.2]
def fD (rows : List Row3) : PyData := .tuple (rows.map rowD)
def pD (ws : List Nat) : PyData := .tuple (ws.map fun n : Nat => PyData.int (n : Int))
theorem fD_open {H : Hp} {v : V} {rows : List Row3} (h : Dt H v (fD rows)) : ∃ (a : Addr) (xs : List V), v = .ref a ∧ H a = some (.tup xs) ∧ xs.length = rows.length ∧
    ∀ (i : Nat) (x : V), xs[i]? = some x → ∃ (r : Row3) (t : Addr), rows[i]? = some r ∧ x = .ref t ∧ H t = some (.tup (rowV r)) := by
  unfold fD at h
  cases h with
  | @tup a xs ds ha hs =>
    refine ⟨a, xs, rfl, ha, by rw [hs.len, List.length_map], fun i x hx => ?_⟩
    obtain ⟨d, hd, hD⟩ := hs.getV hx
    rw [List.getElem?_map] at hd
    cases e : rows[i]? with
    | none => rw [e] at hd; cases hd
    | some r =>
      rw [e] at hd
      have e2 : rowD r = d := Option.some.inj hd
      subst e2
      unfold rowD at hD
      cases hD with
      | tup ht hts =>
        cases hts with
        | cons c1 hts => cases hts with
          | cons c2 hts => cases hts with
            | cons c3 hts =>
              cases hts; cases c1; cases c2; cases c3
              exact ⟨r, _, rfl, rfl, ht⟩
theorem ints_open {H : Hp} : ∀ {ws : List Nat} {xs : List V}, DtAll H xs (ws.map fun n : Nat => PyData.int (n : Int)) → xs = ws.map vN
  | [], _, h => by cases h; rfl
  | w :: ws, _, h => by
    cases h with
    | cons h1 h2 =>
      cases h1
      rw [ints_open h2]; rfl
theorem pD_open {H : Hp} {v : V} {ws : List Nat} (h : Dt H v (pD ws)) : ∃ (a : Addr), v = .ref a ∧ H a = some (.tup (ws.map vN)) := by
  unfold pD at h
  cases h with
  | tup ha hs => exact ⟨_, rfl, by rw [ha, ints_open hs]⟩
theorem ints_mk {H : Hp} : ∀ {ws : List Nat}, DtAll H (ws.map vN) (ws.map fun n : Nat => PyData.int (n : Int))
  | [] => .nil
  | w :: ws => .cons (.int _) ints_mk
theorem pD_mk {H : Hp} {a : Addr} {ws : List Nat} (h : H a = some (.tup (ws.map vN))) : Dt H (.ref a) (pD ws) := .tup h ints_mk
theorem rows_tonly : ∀ (rows : List Row3), tonlyAll (rows.map rowD) = true
  | [] => rfl
  | r :: rs => by
    show (tonly (rowD r) && tonlyAll (rs.map rowD)) = true
    rw [rows_tonly rs]; rfl
theorem fD_tonly (rows : List Row3) : tonly (fD rows) = true := by
  show tonlyAll (rows.map rowD) = true
  exact rows_tonly rows
theorem ints_tonly : ∀ (ws : List Nat), tonlyAll (ws.map fun n : Nat => PyData.int (n : Int)) = true
  | [] => rfl
  | w :: ws => by
    show (true && tonlyAll (ws.map fun n : Nat => PyData.int (n : Int))) = true
    rw [ints_tonly ws]; rfl
theorem pD_tonly (ws : List Nat) : tonly (pD ws) = true := by
  show tonlyAll _ = true
  exact ints_tonly ws
theorem bitAnd_nat (a b : Nat) : Builtin.bitAnd (a : Int) (b : Int) = ((a &&& b : Nat) : Int) := by
  rw [PyProof.Rows.bitAnd_pp (Int.natCast_nonneg a) (Int.natCast_nonneg b), Int.toNat_natCast, Int.toNat_natCast]
theorem dec_int (a b : Int) : decide (V.int a = V.int b) = decide (a = b) := by simp
theorem dec_nat (a b : Nat) : decide (V.int (a : Int) = V.int (b : Int)) = decide (a = b) := by
  rw [dec_int]
  by_cases h : a = b
  · subst h; simp
  · rw [decide_eq_false h, decide_eq_false (by omega)]
theorem getVN {ws : List Nat} {i : Nat} (h : i < ws.length) : (ws.map vN)[i]? = some (.int (ws.getD i 0 : Nat)) := by
  rw [List.getElem?_map, List.getElem?_eq_getElem h, List.getD_eq_getElem?_getD, List.getElem?_eq_getElem h]; rfl
abbrev Cl := List Row3 × Nat × (Nat ⊕ Nat) × Option Nat
def mnD : Nat ⊕ Nat → PyData
  | .inl n => .int (n : Int)
  | .inr i => .tuple [.str "word", .int (i : Int)]
def kdD : Option Nat → PyData
  | none => .str "own"
  | some n => .int (n : Int)
def clD (c : Cl) : PyData := .tuple [.tuple (c.1.map rowD), .int (c.2.1 : Int), mnD c.2.2.1, kdD c.2.2.2]
structure ClOk (c : Cl) : Prop where
  g4 : c.1.length ≤ 4
  gr : ∀ r ∈ c.1, r.1 < 8 ∧ r.2.1 ≤ 4294967295 ∧ r.2.2 ≤ 4294967295
  st : c.2.1 < 8
  m1 : ∀ n, c.2.2.1 = .inl n → 1 ≤ n ∧ n + c.2.1 ≤ 8
  m2 : ∀ i, c.2.2.1 = .inr i → i < 8
  kd : c.2.2.2 = none ∨ c.2.2.2 = some 0 ∨ c.2.2.2 = some 2
def passB (rows : List Row3) (ws : List Nat) : Bool := rows.all fun r => decide (ws.getD r.1 0 &&& r.2.1 = r.2.2)
def manyN (ws : List Nat) : Nat ⊕ Nat → Nat
  | .inl n => n
  | .inr i => ws.getD i 0
def told (ws : List Nat) (s m : Nat) : List Nat := (ws.drop s).take m
def ownN (own : Nat) : Option Nat → Nat
  | none => own
  | some n => n
def nz (ws : List Nat) : List Nat := ws.filter fun x => !decide (x = 0)
def owned (ws : List Nat) (own : Nat) (c : Cl) : List (Nat × Nat) := if passB c.1 ws = true then (nz (told ws c.2.1 (manyN ws c.2.2.1))).map fun x => (x, ownN own c.2.2.2) else []
def ownedAll (ws : List Nat) (own : Nat) (cs : List Cl) : List (Nat × Nat) := cs.flatMap (owned ws own)
def oD (o : Nat × Nat) : PyData := .tuple [.int (o.1 : Int), .int (o.2 : Int)]
def fits (B : Nat) (os : List (Nat × Nat)) : Bool := (os.all fun o => decide (4 ≤ o.1) && decide (o.1 < B)) && decide (os.map (·.1)).Nodup
def runD (cs : List Cl) (ws : List Nat) (B own : Nat) : PyData := if fits B (ownedAll ws own cs) = true then .tuple ((ownedAll ws own cs).map oD) else .none
def spRun : Sp := fun vs H Q _ => ∃ vp vw cs ws, ∃ B own : Nat, vs = [vp, vw, .int B, .int own] ∧ Dt H vp (.tuple (cs.map clD)) ∧ Dt H vw (pD ws) ∧ ws.length = 8 ∧ cs.length ≤ 8 ∧ (∀ c ∈ cs, ClOk c) ∧ ∀ v H', Same H H' → Dt H' v (runD cs ws B own) → Q v H'
theorem owned_len {ws : List Nat} {own : Nat} {c : Cl} (h : ws.length = 8) : (owned ws own c).length ≤ 8 := by
  unfold owned
  split
  · rw [List.length_map]
    refine Nat.le_trans (List.length_filter_le _ _) ?_
    unfold told
    rw [List.length_take, List.length_drop]; omega
  · exact Nat.zero_le _
theorem ownedAll_len {ws : List Nat} {own : Nat} (h : ws.length = 8) : ∀ cs : List Cl, (ownedAll ws own cs).length ≤ 8 * cs.length
  | [] => Nat.zero_le _
  | c :: cs => by
    have := ownedAll_len (own := own) h cs
    have := owned_len (own := own) (c := c) h
    show (owned ws own c ++ ownedAll ws own cs).length ≤ _
    rw [List.length_append, List.length_cons]; omega
theorem os_tonly : ∀ os : List (Nat × Nat), tonlyAll (os.map oD) = true
  | [] => rfl
  | o :: os => by
    show (tonly (oD o) && tonlyAll (os.map oD)) = true
    rw [os_tonly os]; rfl
theorem cl_open {H : Hp} {v : V} {c : Cl} (h : Dt H v (clD c)) : ∃ t g m k, v = .ref t ∧ H t = some (.tup [.ref g, .int (c.2.1 : Int), m, k]) ∧ Dt H (.ref g) (fD c.1) ∧ Dt H m (mnD c.2.2.1) ∧ Dt H k (kdD c.2.2.2) := by
  unfold clD at h
  cases h with
  | tup ht hts =>
    cases hts with
    | cons c1 hts => cases hts with
      | cons c2 hts => cases hts with
        | cons c3 hts => cases hts with
          | cons c4 hts =>
            cases hts; cases c2
            cases c1 with
            | tup q1 q2 => exact ⟨_, _, _, _, rfl, ht, .tup q1 q2, c3, c4⟩
theorem get_cl {H : Hp} {xs : List V} {cs : List Cl} (h : DtAll H xs (cs.map clD)) {i : Nat} {x : V} (hx : xs[i]? = some x) : ∃ c, cs[i]? = some c ∧ Dt H x (clD c) := by
  obtain ⟨d, hd, hD⟩ := h.getV hx
  rw [List.getElem?_map] at hd
  cases e : cs[i]? with
  | none => rw [e] at hd; cases hd
  | some c =>
    rw [e] at hd
    have e2 : clD c = d := Option.some.inj hd
    subst e2
    exact ⟨c, rfl, hD⟩
theorem cut_told {ws : List Nat} {s m : Nat} (h : s ≤ ws.length) : cutV (ws.map vN) (some (s : Int)) (some ((s : Int) + (m : Int))) = (told ws s m).map vN := by
  unfold cutV told
  rw [show ((s : Int) + (m : Int)) = ((s + m : Nat) : Int) by omega, HT.sIx_nat, HT.sIx_nat, List.length_map, Nat.min_eq_left h, ← List.map_drop, ← List.map_take]
  congr 1
  by_cases hm : m ≤ ws.length - s
  · rw [show min (s + m) ws.length - s = m by omega]
  · rw [List.take_of_length_le (by rw [List.length_drop]; omega), List.take_of_length_le (by rw [List.length_drop]; omega)]
def spPass : Sp := fun vs H Q _ => ∃ t p rows ws, vs = [t, p] ∧ Dt H t (fD rows) ∧ Dt H p (pD ws) ∧ ws.length = 8 ∧ (∀ r ∈ rows, r.1 < 8) ∧ rows.length ≤ 1000 ∧ ∀ H', Same H H' → Q (.bl (passB rows ws)) H'
def spTold : Sp := fun vs H Q _ => ∃ vw vm ws, ∃ s : Nat, ∃ m, vs = [vw, .int s, vm] ∧ Dt H vw (pD ws) ∧ ws.length = 8 ∧ s < 8 ∧ Dt H vm (mnD m) ∧ (∀ i, m = .inr i → i < 8) ∧ ∀ v H', Same H H' → Dt H' v (pD (told ws s (manyN ws m))) → Q v H'
def spCan : Sp := fun vs H Q _ => ∃ b B : Nat, vs = [.int b, .int B] ∧ Q (.bl (decide (4 ≤ b) && decide (b < B))) H
section
variable {P : Program} {w : World} {K : PySem.W.Frag} {mg : Str → Option Value} {base : Heap}
abbrev s_let_pass : Stmt := topS 29
abbrev ns_let_pass : List Str := ["guards", "words", "index", "mask", "value"]
theorem sc_let_pass : FnScope ns_let_pass ["guards", "words"] (defScope s_let_pass) := ⟨rfl, rfl, rfl, by decide +kernel, rfl, by decide +kernel, by decide +kernel⟩

theorem ok_let_pass {f : Addr} {fd : FuncData} (F : Fun K "_let_pass" "_let_pass" s_let_pass f fd) (T : Txt K mg C_Types C_NotValid) : FnOk P w K mg base CX0 1 f fd ["guards", "words"] spPass := by
  refine F.ok sc_let_pass (fun vs H Q E h => ?_) (fun cdv A outer s H vs Q E hr h => ?_)
  · obtain ⟨t, p, rows, ws, rfl, _⟩ := h
    rfl
  · obtain ⟨t, p, rows, ws, rfl, ht, hp, h6, hi, hz, k⟩ := h
    obtain ⟨a, xs, rfl, ha, hl, hx⟩ := fD_open ht
    obtain ⟨b, rfl, hb⟩ := pD_open hp
    refine ⟨_, (pss_one (ps_ret (pe_callB (kAll K rfl) (by rfl) T.b_all (by decide +kernel) (pa_cons (pe_lc (own := [("index", 2), ("mask", 3), ("value", 4)]) (by rfl) sc_let_pass.nd (kpiT K (pv 0)) (blkOk_by (N := ns_let_pass) (sc := defScope s_let_pass) (by decide +kernel)) (fun _ _ _ _ _ => (kpgT K (n := 3) (by rfl) (pgs_cons (pg_name (i := 2) sc_let_pass.nd rfl (Or.inl rfl)) (pgs_cons (pg_name (i := 3) sc_let_pass.nd rfl (Or.inl rfl)) (pgs_cons (pg_name (i := 4) sc_let_pass.nd rfl (Or.inl rfl)) pgs_nil))))) (fun _ _ _ _ _ => pts_nil) (fun _ _ _ _ _ => (pe_cmpR op_eq (pe_op op_and (pe_ix (kIxT K) (pv 1) (pv 2) (fun _ _ => rfl)) (pv 3)) (pv 4) (nomark _)))) pa_nil)))), ?_⟩
    walk_at "run"
    refine ⟨⟨_, SqT.of ha⟩, fun D hD => ?_⟩
    refine lcT (xs := xs) ((rows.map fun r => decide (ws.getD r.1 0 &&& r.2.1 = r.2.2)).map V.bl) (by simp [hl]) (by omega) ha hD ?_ ?_
    · intro j x y H1 Q' hj hy s1 q
      obtain ⟨r, t, hr1, rfl, hrt⟩ := hx j x hj
      have ey : y = .bl (decide (ws.getD r.1 0 &&& r.2.1 = r.2.2)) := by
        rw [List.getElem?_map, List.getElem?_map, hr1] at hy
        exact (Option.some.inj hy).symm
      subst ey
      have hir := hi r (List.mem_of_getElem? hr1)
      refine ⟨t, _, rfl, SqT.of (s1 _ _ hrt), rfl, _, _, rfl, _, _, rfl, _, _, rfl, rfl, rfl, ?_⟩
      refine ⟨_, rfl, _, rfl, _, _, _, _, rfl, rfl, SqT.of (s1 _ _ hb), atC r.1 rfl (getVN (by omega)), ?_⟩
      walk_at "run"
      show Q' (V.bl (decide (V.int (Builtin.bitAnd (ws.getD r.1 0 : Nat) (r.2.1 : Nat)) = V.int (r.2.2 : Nat)))) H1
      rw [bitAnd_nat, dec_nat]
      exact q H1 (Same.refl _)
    · intro H1 s1 d1
      refine ⟨_, _, rfl, SqL.of d1, ?_⟩
      have e : passB rows ws = (rows.map fun r => decide (ws.getD r.1 0 &&& r.2.1 = r.2.2)).all id := by
        show rows.all _ = _
        simp
      rw [e] at k
      exact k H1 s1
abbrev s_told : Stmt := topS 30
abbrev ns_told : List Str := ["words", "start", "many"]
theorem sc_told : FnScope ns_told ["words", "start", "many"] (defScope s_told) := ⟨rfl, rfl, rfl, by decide +kernel, rfl, by decide +kernel, by decide +kernel⟩

theorem ok_told {f : Addr} {fd : FuncData} (F : Fun K "_told" "_told" s_told f fd) (T : Txt K mg C_Types C_NotValid) : FnOk P w K mg base CX0 1 f fd ["words", "start", "many"] spTold := by
  refine F.ok sc_told (fun vs H Q E h => ?_) (fun cdv A outer s H vs Q E hr h => ?_)
  · obtain ⟨vw, vm, ws, s, m, rfl, _⟩ := h
    rfl
  · obtain ⟨vw, vm, ws, s, m, rfl, hw, h8, hs, hm, hi, k⟩ := h
    obtain ⟨b, rfl, hb⟩ := pD_open hw
    refine ⟨_, (pss_cons (ps_if (pt_val (pe_callB (kIsi K) (by rfl) T.b_isinstance (by decide +kernel) (pa_cons (pv 2) (pa_cons (pe_bltn (v := .ty "tuple") (by rfl) T.b_tuple (by decide +kernel) rfl) pa_nil)))) (pss_one (ps_ret (pe_slice (kSlT K) (pv 0) (po_some (pv 1)) (po_some (pe_op op_add (pv 1) (pe_ix (kIxT K) (pv 0) (pe_ix (kIxT K) (pv 2) pe_int (fun _ _ => rfl)) (fun _ _ => rfl))))))) pss_nil)
  (pss_one (ps_ret (pe_slice (kSlT K) (pv 0) (po_some (pv 1)) (po_some (pe_op op_add (pv 1) (pv 2))))))), ?_⟩
    refine ⟨_, rfl, _, _, _, _, _, rfl, .ty _, hm.ty, kit_ty (kitTup (mnD m)), _, rfl, ?_⟩
    have cut : ∀ (n : Nat), (∀ v H', Same H H' → Dt H' v (pD (told ws s n)) → Q v H') → ∃ a xs, V.ref b = .ref a ∧ SqT K H a xs ∧
        (HT.sIx xs.length 0 (some (s : Int)) = 0 ∧ HT.sIx xs.length xs.length (some ((s : Int) + (n : Int))) = xs.length → Q (.ref a) H) ∧ (¬ (HT.sIx xs.length 0 (some (s : Int)) = 0 ∧ HT.sIx xs.length xs.length (some ((s : Int) + (n : Int))) = xs.length) → ∀ p, H p = none → Q (.ref p) (upd H p (.tup (cutV xs (some (s : Int)) (some ((s : Int) + (n : Int))))))) := by
      intro n k
      refine ⟨b, _, rfl, SqT.of hb, fun e => ?_, fun _ p hp => ?_⟩
      · refine k _ H (Same.refl H) ?_
        have e1 := e.1
        have e2 := e.2
        rw [HT.sIx_nat] at e1
        rw [show ((s : Int) + (n : Int)) = ((s + n : Nat) : Int) by omega, HT.sIx_nat] at e2
        rw [List.length_map] at e1 e2
        have q : told ws s n = ws := by
          unfold told
          rw [show s = 0 by omega, List.drop_zero, List.take_of_length_le (by omega)]
        rw [q]
        exact pD_mk hb
      · refine k _ _ (Same.new hp) (pD_mk ?_)
        rw [cut_told (by omega)]
        exact upd_same
    cases m with
    | inl n =>
      cases hm
      refine iteF ?_
      walk_at "run"
      exact cut n k
    | inr i =>
      have hi' := hi i rfl
      cases hm with
      | tup ht hts =>
        cases hts with
        | cons c1 hts => cases hts with
          | cons c2 hts =>
            cases hts; cases c1; cases c2
            refine iteT ?_
            walk_at "run"
            refine ⟨_, _, _, _, rfl, rfl, SqT.of hb, atC i rfl (getVN (by omega)), ?_⟩
            walk_at "run"
            exact cut (ws.getD i 0) k
abbrev s_can_be_owned : Stmt := topS 31
abbrev ns_can_be_owned : List Str := ["block", "blocks"]
theorem sc_can_be_owned : FnScope ns_can_be_owned ["block", "blocks"] (defScope s_can_be_owned) := ⟨rfl, rfl, rfl, by decide +kernel, rfl, by decide +kernel, by decide +kernel⟩

theorem ok_can_be_owned {f : Addr} {fd : FuncData} (F : Fun K "_can_be_owned" "_can_be_owned" s_can_be_owned f fd) (T : Txt K mg C_Types C_NotValid) : FnOk P w K mg base CX0 1 f fd ["block", "blocks"] spCan := by
  refine F.ok sc_can_be_owned (fun vs H Q E h => ?_) (fun cdv A outer s H vs Q E hr h => ?_)
  · obtain ⟨b, B, rfl, _⟩ := h
    rfl
  · obtain ⟨b, B, rfl, k⟩ := h
    refine ⟨_, (pss_one (ps_ret (pe_chain op_le op_lt (pe_gint (by rfl) T.c_ROOT_BLOCKS) (pv 0) (pv 1)))), ?_⟩
    walk_at "run"
    refine iteD (fun h1 => ?_) (fun h1 => ?_)
    · walk_at "run"
      have e : (decide (4 ≤ b) && decide (b < B)) = decide ((b : Int) < (B : Int)) := by
        rw [decide_eq_true (by omega : 4 ≤ b), Bool.true_and]
        by_cases q : b < B
        · rw [decide_eq_true q, decide_eq_true (by omega)]
        · rw [decide_eq_false q, decide_eq_false (by omega)]
      rw [e] at k
      exact k
    · rw [decide_eq_false (by omega : ¬ 4 ≤ b), Bool.false_and] at k
      exact k
end
end My

namespace My
open PySem L2
local macro_rules | `(tactic| walk_at "ne") => `(tactic| first | assumption | exact Ne.symm (by assumption) | exact ne_of_none (by assumption) (by assumption) | exact Ne.symm (ne_of_none (by assumption) (by assumption)))
local macro_rules | `(tactic| walk_at "hp") => `(tactic| first | assumption | with_reducible exact upd_same | (with_reducible refine Eq.trans (upd_ne ?_) ?_; rotate_left; walk_at "hp"; walk_at "ne"))
local macro_rules | `(tactic| walk_at "cnd") => `(tactic| first | omega | (show (0 : Int) < _; omega) | exact ⟨by omega, by omega⟩ | exact Or.inl ⟨by omega, by omega⟩ | exact Or.inr ⟨by omega, by omega⟩ | exact ⟨by omega, by omega, by decide⟩ | exact ⟨by omega, by omega, by omega⟩)
local macro_rules | `(tactic| walk_at "at") => `(tactic| first | exact atC 0 rfl rfl | exact atC 1 rfl rfl | exact atC 2 rfl rfl | exact atC 3 rfl rfl | exact atC 4 rfl rfl | exact atC 5 rfl rfl | exact atC 6 rfl rfl | exact atC 7 rfl rfl)
local macro_rules | `(tactic| walk_at "ix") => `(tactic| first | exact ixC 0 rfl (Nat.le_of_ble_eq_true rfl) | exact ixC 1 rfl (Nat.le_of_ble_eq_true rfl) | exact ixC 2 rfl (Nat.le_of_ble_eq_true rfl) | exact ixC 3 rfl (Nat.le_of_ble_eq_true rfl) | exact ixC 4 rfl (Nat.le_of_ble_eq_true rfl) | exact ixC 5 rfl (Nat.le_of_ble_eq_true rfl))
local macro_rules | `(tactic| walk_at "st") => `(tactic| first
  | refine ⟨_, rfl, ?_⟩
  | refine ⟨_, _, rfl, rfl, (by walk_at "cnd" : (_ : Prop)), ?_⟩
  | refine ⟨_, _, rfl, rfl, ?_⟩
  | refine ⟨rfl, ?_⟩
  | refine Or.inl ⟨_, rfl, ?_⟩
  | refine ⟨_, _, _, _, rfl, rfl, by exact SqL.of (by walk_at "hp"), by walk_at "at", ?_⟩
  | refine ⟨_, _, _, _, rfl, rfl, by exact SqT.of (by walk_at "hp"), by walk_at "at", ?_⟩
  | refine ⟨_, _, _, _, rfl, rfl, by walk_at "hp", by walk_at "ix", ?_⟩
  | refine ⟨_, _, rfl, Or.inl (by exact SqL.of (by walk_at "hp")), ?_⟩
  | refine ⟨_, _, rfl, Or.inr (by exact SqT.of (by walk_at "hp")), ?_⟩)
local macro_rules | `(tactic| walk_at "so") => `(tactic| first
  | refine ⟨_, _, _, _, _, rfl, by walk_at "hp", by assumption, by assumption, rfl, ?_⟩
  | refine ⟨_, _, _, _, rfl, by walk_at "hp", by assumption, by assumption, Nat.le_of_ble_eq_true rfl, ?_⟩
  | refine ⟨_, _, _, rfl, by walk_at "hp", rfl, ?_⟩
  | walk_at "st")
local macro_rules | `(tactic| walk_at "ro") => `(tactic| repeat walk_at "so")
local macro_rules | `(tactic| walk_at "run") => `(tactic| repeat walk_at "st")

theorem snoc_o {H : Hp} {D q : Addr} {acc : List V} {ds : List PyData} {a b : Int} (hd : DtAll H acc ds) (t : tonlyAll ds = true) (hD : H D = some (.lst acc)) (hq : H q = none) :
    DtAll (upd (upd H q (.tup [.int a, .int b])) D (.lst (acc ++ [.ref q]))) (acc ++ [.ref q]) (ds ++ [.tuple [.int a, .int b]]) := by
  have hDq : q ≠ D := (ne_of_none hD hq).symm
  have e1 : upd H q (.tup [.int a, .int b]) D = some (.lst acc) := by rw [upd_ne hDq.symm]; exact hD
  have s2 : TS (upd H q (.tup [.int a, .int b])) (upd (upd H q (.tup [.int a, .int b])) D (.lst (acc ++ [.ref q]))) := Chg.upd.ts e1
  refine .append ((hd.same (Same.new hq)).ts s2 t) (.cons (.tup (by rw [upd_ne hDq]; exact upd_same) (.cons (.int a) (.cons (.int b) .nil))) .nil)
theorem nz_snoc {xs : List Nat} {i n : Nat} (h : xs[i]? = some n) : nz (xs.take (i + 1)) = nz (xs.take i) ++ (if n = 0 then [] else [n]) := by
  unfold nz
  rw [← take_snoc h, List.filter_append]
  congr 1
  by_cases q : n = 0
  · rw [if_pos q]; simp [q]
  · rw [if_neg q]; simp [q]
theorem flat_snoc {ws : List Nat} {own : Nat} {cs : List Cl} {i : Nat} {c : Cl} (h : cs[i]? = some c) : ownedAll ws own (cs.take (i + 1)) = ownedAll ws own (cs.take i) ++ owned ws own c := by
  unfold ownedAll
  rw [← take_snoc h, List.flatMap_append]
  simp
section
variable {P : Program} {w : World} {K : PySem.W.Frag} {mg : Str → Option Value} {base : Heap}
abbrev s_run_program : Stmt := topS 28
abbrev ns_run_program : List Str := ["program", "words", "blocks", "own", "owned", "guards", "start", "many", "kind", "number", "word", "numbers", "row"]
theorem sc_run_program : FnScope ns_run_program ["program", "words", "blocks", "own"] (defScope s_run_program) := ⟨rfl, rfl, rfl, by decide +kernel, rfl, by decide +kernel, by decide +kernel⟩

theorem ok_run_program {f : Addr} {fd : FuncData} (F : Fun K "run_program" "run_program" s_run_program f fd) (T : Txt K mg C_Types C_NotValid) (D_let_pass : Dfn P w K mg base CX0 1 "_let_pass" ["guards", "words"] spPass) (D_told : Dfn P w K mg base CX0 1 "_told" ["words", "start", "many"] spTold) (D_can_be_owned : Dfn P w K mg base CX0 1 "_can_be_owned" ["block", "blocks"] spCan) : FnOk P w K mg base CX0 2 f fd ["program", "words", "blocks", "own"] spRun := by
  refine F.ok sc_run_program (fun vs H Q E h => ?_) (fun cdv A outer s H vs Q E hr h => ?_)
  · obtain ⟨vp, vw, cs, ws, B, own, rfl, _⟩ := h
    rfl
  · obtain ⟨vp, vw, cs, ws, B, own, rfl, hp, hw, h8, hc8, hok, k⟩ := h
    obtain ⟨b, rfl, hb⟩ := pD_open hw
    cases hp with
    | @tup a xs ds ha hs =>
      have hlen := hs.len
      rw [List.length_map] at hlen
      refine ⟨_, (pss_cons (ps_set (i := 4) sc_run_program.nd rfl (Or.inl rfl) (pe_lst pa_nil))
  (pss_cons (ps_for PassesOwn.never (by rfl) (kpiT K (pv 0)) (kpgT K (n := 4) (by rfl) (pgs_cons (pg_name (i := 5) sc_run_program.nd rfl (Or.inl rfl)) (pgs_cons (pg_name (i := 6) sc_run_program.nd rfl (Or.inl rfl)) (pgs_cons (pg_name (i := 7) sc_run_program.nd rfl (Or.inl rfl)) (pgs_cons (pg_name (i := 8) sc_run_program.nd rfl (Or.inl rfl)) pgs_nil))))) (pss_one (ps_if (pt_val (pe_dcall D_let_pass (hr.mono (by decide)) (by rfl) pass0 (pa_cons (pv 5) (pa_cons (pv 1) pa_nil)))) (C8.pss_cut (ps_set (i := 9) sc_run_program.nd rfl (Or.inr rfl) (pe_ifExp (pt_cmpR op_eq (pv 8) pe_str (nomark _)) (pv 3) (pv 8)))
  (pss_one (ps_expr (kBM K PySem.F.plainAttrs_list PySem.F.slot_list_extend PySem.F.type_list_extend mt_extend (pv 4) (pa_cons (pe_lc (own := [("word", 10)]) (by rfl) sc_run_program.nd (kpiT K (pe_dcall D_told (hr.mono (by decide)) (by rfl) pass0 (pa_cons (pv 1) (pa_cons (pv 6) (pa_cons (pv 7) pa_nil))))) (blkOk_by (N := ns_run_program) (sc := defScope s_run_program) (by decide +kernel)) (fun _ _ _ _ _ => (pg_name (i := 10) sc_run_program.nd rfl (Or.inl rfl))) (fun _ _ _ _ _ => (pts_one (pt_cmpR op_ne (pv 10) pe_int (nomark _)))) (fun _ _ _ _ _ => (pe_tup (pa_cons (pv 10) (pa_cons (pv 9) pa_nil))))) pa_nil))))) pss_nil)))
  (pss_cons (ps_setLc (i := 11) (own := [("row", 12)]) (by rfl) sc_run_program.nd rfl rfl (sw_true rfl rfl rfl (by decide +kernel)) (kpiL K (pv 4)) (blkOk_by (N := ns_run_program) (sc := defScope s_run_program) (by decide +kernel)) (fun _ _ _ _ _ => (pg_name (i := 12) sc_run_program.nd rfl (Or.inl rfl))) (fun _ _ _ _ _ => pts_nil) (fun _ _ _ _ _ => (pe_ix (kIxT K) (pv 12) pe_int (fun _ _ => rfl))))
  (pss_cons (ps_if (PW.pt (pw_or (pt_not (pt_val (pe_callB (kAll K rfl) (by rfl) T.b_all (by decide +kernel) (pa_cons (pe_lc (own := [("number", 9)]) (by rfl) sc_run_program.nd (kpiL K (pv 11)) (blkOk_by (N := ns_run_program) (sc := defScope s_run_program) (by decide +kernel)) (fun _ _ _ _ _ => (pg_name (i := 9) sc_run_program.nd rfl (Or.inl rfl))) (fun _ _ _ _ _ => pts_nil) (fun _ _ _ _ _ => (pe_dcall D_can_be_owned (hr.mono (by decide)) (by rfl) pass0 (pa_cons (pv 9) (pa_cons (pv 2) pa_nil))))) pa_nil)))) (pw_or1 (pt_cmpR op_lt (pe_lenSetG (by rfl) T.b_len (by rfl) T.b_set (pv 11)) (pe_callB (kLen K) (by rfl) T.b_len (by decide +kernel) (pa_cons (pv 11) pa_nil)) (nomark _))))) (pss_one (ps_ret pe_non)) pss_nil)
  (pss_one (ps_ret (pe_callTy (kTupOf K) (by rfl) T.b_tuple (by decide +kernel) (pa_cons (pv 4) pa_nil)))))))), ?_⟩
      refine ⟨szl rfl, fun L hL => ?_⟩
      have s0 : Same H (upd H L (.lst [])) := Same.new hL
      refine ⟨_, rfl, _, rfl, ⟨_, SqT.of (s0 _ _ ha)⟩, for_tup (xs := xs) (fun i σ H1 => ∃ (o5 o6 o7 o8 o9 : Option V) (acc : List V), σ = [some (.ref a), some (.ref b), some (.int B), some (.int own), some (.ref L), o5, o6, o7, o8, o9, none, none, none] ∧ H1 L = some (.lst acc) ∧ DtAll H1 acc ((ownedAll ws own (cs.take i)).map oD) ∧ Same H H1) ?_ ?_ ?_ ?_⟩
      · exact ⟨_, _, _, _, _, _, rfl, upd_same, .nil, s0⟩
      · rintro i σ H1 _ ⟨_, _, _, _, _, _, _, _, _, s1⟩
        exact SqT.of (s1 _ _ ha)
      · rintro i x σ H1 hx ⟨o5, o6, o7, o8, o9, acc, rfl, hacc, hda, s1⟩
        obtain ⟨c, hc, hcD⟩ := get_cl hs hx
        obtain ⟨t, g, vm, vk, rfl, ht, hg, hm, hk⟩ := cl_open (hcD.same s1)
        have cok := hok c (List.mem_of_getElem? hc)
        refine ⟨t, _, rfl, SqT.of ht, rfl, _, _, rfl, _, _, rfl, _, _, rfl, _, _, rfl, rfl, ?_⟩
        walk_at "run"
        refine ⟨_, _, c.1, ws, rfl, hg, hw.same s1, h8, fun r hr => (cok.gr r hr).1, by have := cok.g4; omega, fun H2 s2 => ⟨_, rfl, ?_⟩⟩
        have s02 := s1.trans s2
        refine iteB (fun ep => ?_) (fun ep => ?_)
        · -- number = own if kind == "own" else kind
          have e0 : owned ws own c = (nz (told ws c.2.1 (manyN ws c.2.2.1))).map fun x => (x, ownN own c.2.2.2) := by unfold owned; rw [if_pos ep]
          refine ⟨fun σ H' => σ = [some (.ref a), some (.ref b), some (.int B), some (.int own), some (.ref L), some (.ref g), some (.int (c.2.1 : Int)), some vm, some vk, some (.int (ownN own c.2.2.2 : Nat)), none, none, none] ∧ H' = H2, ?_, ?_⟩
          · cases e : c.2.2.2 with
            | none =>
              rw [e] at hk
              cases hk
              walk_at "run"
              first | exact iteT ⟨_, rfl, rfl, rfl⟩ | exact ⟨rfl, rfl⟩ | exact rfl
            | some n =>
              rw [e] at hk
              cases hk
              walk_at "run"
              first | exact ⟨rfl, rfl⟩ | exact rfl
          · rintro σ H' ⟨rfl, rfl⟩
            generalize ownN own c.2.2.2 = num at e0
            walk_at "run"
            refine ⟨.inl ⟨rfl, _, SqL.of (s2 _ _ hacc)⟩, ?_⟩
            walk_at "run"
            refine ⟨_, vm, ws, c.2.1, c.2.2.1, rfl, hw.same s02, h8, cok.st, hm.same s2, cok.m2, fun v H3 s3 hv => ?_⟩
            obtain ⟨tb, rfl, htb⟩ := pD_open hv
            have htl : (told ws c.2.1 (manyN ws c.2.2.1)).length ≤ 8 := by unfold told; rw [List.length_take, List.length_drop]; omega
            generalize told ws c.2.1 (manyN ws c.2.2.1) = tl at htb e0 hv htl
            refine ⟨tb, rfl, ⟨_, SqT.of htb⟩, fun D hD => ?_⟩
            refine lc_tup (K := K) (xs := tl.map vN) (fun j H4 => ∃ ac, H4 D = some (.lst ac) ∧ DtAll H4 ac (((nz (tl.take j)).map fun x => (x, num)).map oD) ∧ ac.length ≤ j ∧ Same H3 H4) ⟨_, upd_same, .nil, Nat.le_refl _, Same.new hD⟩ (fun j H4 _ h => by obtain ⟨_, _, _, _, h⟩ := h; exact SqT.of (h _ _ htb)) ?_ ?_
            · rintro j x H4 hx ⟨ac, hac, hda4, hl4, s4⟩
              obtain ⟨n, hn, rfl⟩ : ∃ n, tl[j]? = some n ∧ x = vN n := by
                rw [List.getElem?_map] at hx
                cases e : tl[j]? with
                | none => rw [e] at hx; cases hx
                | some n => rw [e] at hx; exact ⟨n, rfl, (Option.some.inj hx).symm⟩
              have hj : j < tl.length := (List.getElem?_eq_some_iff.mp hn).1
              refine ⟨rfl, ?_⟩
              walk_at "run"
              refine iteDn (fun hne => ?_) (fun heq => ?_)
              · have n0 : ¬ n = 0 := fun q => hne (by rw [q]; rfl)
                walk_at "run"
                refine ⟨szl rfl, fun q hq => ?_⟩
                have nDq : D ≠ q := ne_of_none hac hq
                refine ⟨_, Eq.trans (upd_ne nDq) hac, szt (by omega), ac ++ [.ref q], upd_same, ?_, by rw [List.length_append]; show _ + 1 ≤ _; omega, Same.mut (s4.trans (Same.new hq)) hD⟩
                rw [nz_snoc hn, if_neg n0, List.map_append, List.map_append]
                exact snoc_o hda4 (os_tonly _) hac hq
              · have n0 : n = 0 := by
                  have q : ((n : Nat) : Int) = 0 := by injection heq
                  omega
                refine ⟨ac, hac, ?_, by omega, s4⟩
                rw [nz_snoc hn, if_pos n0, List.append_nil]
                exact hda4
            · rintro H4 ⟨ac, hac, hda4, hl4, s4⟩
              rw [List.length_map] at hl4 hda4
              rw [List.take_length] at hda4
              have hacc4 := s4 _ _ (s3 _ _ (s2 _ _ hacc))
              have hal : acc.length ≤ 64 := by
                rw [hda.len, List.length_map]
                have q1 := ownedAll_len (own := own) h8 (cs.take i)
                have q2 : (cs.take i).length ≤ 8 := by rw [List.length_take]; omega
                omega
              refine ⟨_, _, _, _, rfl, rfl, hacc4, hac, szn (by omega), ?_⟩
              refine ⟨_, _, _, _, _, acc ++ ac, rfl, upd_same, ?_, Same.mut ((s02.trans s3).trans s4) hL⟩
              rw [flat_snoc hc, e0, List.map_append]
              refine ((((hda.same s2).same s3).same s4).append hda4).ts (Chg.upd.ts hacc4) ?_
              rw [← List.map_append]
              exact os_tonly _
        · have e0 : owned ws own c = [] := by unfold owned; rw [ep]; rfl
          refine ⟨_, _, _, _, _, acc, rfl, s2 _ _ hacc, ?_, s02⟩
          rw [flat_snoc hc, e0, List.append_nil]
          exact hda.same s2
      · rintro σ H1 ⟨o5, o6, o7, o8, o9, acc, rfl, hacc, hda, s1⟩
        rw [hlen, List.take_length] at hda
        have ol : (ownedAll ws own cs).length ≤ 64 := by
          have q1 := ownedAll_len (own := own) h8 cs
          omega
        have ke : runD cs ws B own = if fits B (ownedAll ws own cs) = true then .tuple ((ownedAll ws own cs).map oD) else .none := rfl
        rw [ke] at k
        generalize ownedAll ws own cs = os at hda ol k
        have al : acc.length = os.length := by rw [hda.len, List.length_map]
        refine ⟨_, rfl, _, rfl, ⟨_, SqL.of hacc⟩, fun D hD => ?_⟩
        refine lcL (xs := acc) ((os.map (·.1)).map vN) (by simp [al]) (by omega) hacc hD ?_ ?_
        · intro j x y H2 Q' hx hy s2 q
          obtain ⟨d, hd1, hd2⟩ := hda.getV hx
          have hj : j < os.length := by rw [← al]; exact (List.getElem?_eq_some_iff.mp hx).1
          rw [List.getElem?_map, List.getElem?_eq_getElem hj] at hd1
          have ed : d = oD os[j] := (Option.some.inj hd1).symm
          subst ed
          have ey : y = .int (os[j].1 : Int) := by
            rw [List.getElem?_map, List.getElem?_map, List.getElem?_eq_getElem hj] at hy
            exact (Option.some.inj hy).symm
          subst ey
          unfold oD at hd2
          cases hd2 with
          | tup hq hqs =>
            cases hqs with
            | cons c1 hqs => cases hqs with
              | cons c2 hqs =>
                cases hqs; cases c1; cases c2
                refine ⟨rfl, ?_⟩
                walk_at "run"
                exact ⟨_, _, _, _, rfl, rfl, SqT.of (s2 _ _ hq), atC 0 rfl rfl, q H2 (Same.refl _)⟩
        · intro H2 s2 d2
          walk_at "run"
          refine ⟨⟨_, SqL.of d2⟩, fun D2 hD2 => ?_⟩
          have nl : (os.map (·.1)).length = os.length := by rw [List.length_map]
          refine lcL (xs := (os.map (·.1)).map vN) ((os.map fun o => decide (4 ≤ o.1) && decide (o.1 < B)).map V.bl) (by simp) (by simp; omega) d2 hD2 ?_ ?_
          · intro j x y H3 Q' hx hy s3 q
            have hj : j < os.length := by
              have := (List.getElem?_eq_some_iff.mp hx).1
              simpa using this
            have ex : x = .int (os[j].1 : Int) := by
              rw [List.getElem?_map, List.getElem?_map, List.getElem?_eq_getElem hj] at hx
              exact (Option.some.inj hx).symm
            have ey : y = .bl (decide (4 ≤ os[j].1) && decide (os[j].1 < B)) := by
              rw [List.getElem?_map, List.getElem?_map, List.getElem?_eq_getElem hj] at hy
              exact (Option.some.inj hy).symm
            subst ex ey
            refine ⟨rfl, ?_⟩
            walk_at "run"
            exact ⟨_, _, rfl, q H3 (Same.refl _)⟩
          · intro H3 s3 d3
            refine ⟨_, _, rfl, SqL.of d3, _, rfl, ?_⟩
            have ea : ((os.map fun o => decide (4 ≤ o.1) && decide (o.1 < B)).all id) = os.all fun o => decide (4 ≤ o.1) && decide (o.1 < B) := by rw [List.all_map]; rfl
            rw [ea]
            have s03 := (s1.trans s2).trans s3
            cases e1 : (os.all fun o => decide (4 ≤ o.1) && decide (o.1 < B)) with
            | false =>
              have ef : fits B os = false := by unfold fits; rw [e1, Bool.false_and]
              rw [ef] at k
              exact iteT (k _ _ s03 .non)
            | true =>
              refine iteF ?_
              walk_at "run"
              have ev : (os.map (·.1)).map vN = (os.map fun o => (o.1 : Int)).map V.int := by rw [List.map_map, List.map_map]; rfl
              have d23 : H3 D = some (.lst ((os.map fun o => (o.1 : Int)).map V.int)) := by rw [s3 _ _ d2, ev]
              have hacc3 := s3 _ _ (s2 _ _ hacc)
              refine ⟨D, os.map fun o => (o.1 : Int), rfl, SqL.of d23, by rw [List.length_map]; omega, ?_⟩
              walk_at "run"
              have en : decide (os.map fun o => (o.1 : Int)).Nodup = decide (os.map (·.1)).Nodup := by
                congr 1
                unfold List.Nodup
                rw [List.pairwise_map, List.pairwise_map]
                exact propext ⟨fun h => h.imp fun q e => q (by rw [e]), fun h => h.imp fun q e => q (Int.ofNat.inj e)⟩
              rw [List.length_map, dist_iff, en]
              cases e2 : decide (os.map (·.1)).Nodup with
              | false =>
                have ef : fits B os = false := by unfold fits; rw [e1, e2]; rfl
                rw [ef] at k
                exact iteT (k _ _ s03 .non)
              | true =>
                have ef : fits B os = true := by unfold fits; rw [e1, e2]; rfl
                rw [ef] at k
                refine iteF ?_
                refine ⟨_, rfl, _, _, rfl, .inl ⟨SqL.of hacc3, fun p hp => ?_⟩⟩
                exact k _ _ (s03.trans (Same.new hp)) (Dt.new ((hda.same s2).same s3) hp)
end
end My

namespace My
open PySem L2
local macro_rules | `(tactic| walk_at "ne") => `(tactic| first | assumption | exact Ne.symm (by assumption) | exact ne_of_none (by assumption) (by assumption) | exact Ne.symm (ne_of_none (by assumption) (by assumption)))
local macro_rules | `(tactic| walk_at "hp") => `(tactic| first | assumption | with_reducible exact upd_same | (with_reducible refine Eq.trans (upd_ne ?_) ?_; rotate_left; walk_at "hp"; walk_at "ne"))
local macro_rules | `(tactic| walk_at "cnd") => `(tactic| first | omega | (show (0 : Int) < _; omega) | exact ⟨by omega, by omega⟩ | exact Or.inl ⟨by omega, by omega⟩ | exact Or.inr ⟨by omega, by omega⟩ | exact ⟨by omega, by omega, by decide⟩ | exact ⟨by omega, by omega, by omega⟩)
local macro_rules | `(tactic| walk_at "at") => `(tactic| first | exact atC 0 rfl rfl | exact atC 1 rfl rfl | exact atC 2 rfl rfl | exact atC 3 rfl rfl | exact atC 4 rfl rfl | exact atC 5 rfl rfl | exact atC 6 rfl rfl | exact atC 7 rfl rfl)
local macro_rules | `(tactic| walk_at "ix") => `(tactic| first | exact ixC 0 rfl (Nat.le_of_ble_eq_true rfl) | exact ixC 1 rfl (Nat.le_of_ble_eq_true rfl) | exact ixC 2 rfl (Nat.le_of_ble_eq_true rfl) | exact ixC 3 rfl (Nat.le_of_ble_eq_true rfl) | exact ixC 4 rfl (Nat.le_of_ble_eq_true rfl) | exact ixC 5 rfl (Nat.le_of_ble_eq_true rfl))
local macro_rules | `(tactic| walk_at "st") => `(tactic| first
  | refine ⟨_, rfl, ?_⟩
  | refine ⟨_, _, rfl, rfl, (by walk_at "cnd" : (_ : Prop)), ?_⟩
  | refine ⟨_, _, rfl, rfl, ?_⟩
  | refine ⟨rfl, ?_⟩
  | refine Or.inl ⟨_, rfl, ?_⟩
  | refine ⟨_, _, _, _, rfl, rfl, by exact SqL.of (by walk_at "hp"), by walk_at "at", ?_⟩
  | refine ⟨_, _, _, _, rfl, rfl, by exact SqT.of (by walk_at "hp"), by walk_at "at", ?_⟩
  | refine ⟨_, _, _, _, rfl, rfl, by walk_at "hp", by walk_at "ix", ?_⟩
  | refine ⟨_, _, rfl, Or.inl (by exact SqL.of (by walk_at "hp")), ?_⟩
  | refine ⟨_, _, rfl, Or.inr (by exact SqT.of (by walk_at "hp")), ?_⟩)
local macro_rules | `(tactic| walk_at "so") => `(tactic| first
  | refine ⟨_, _, _, _, _, rfl, by walk_at "hp", by assumption, by assumption, rfl, ?_⟩
  | refine ⟨_, _, _, _, rfl, by walk_at "hp", by assumption, by assumption, Nat.le_of_ble_eq_true rfl, ?_⟩
  | refine ⟨_, _, _, rfl, by walk_at "hp", rfl, ?_⟩
  | walk_at "st")
local macro_rules | `(tactic| walk_at "ro") => `(tactic| repeat walk_at "so")
local macro_rules | `(tactic| walk_at "run") => `(tactic| repeat walk_at "st")

theorem pass_snoc {rows : List Row3} {ws : List Nat} {j : Nat} {r : Row3} (h : rows[j]? = some r) : passB (rows.take (j + 1)) ws = (passB (rows.take j) ws && decide (ws.getD r.1 0 &&& r.2.1 = r.2.2)) := by
  unfold passB
  rw [← take_snoc h, List.all_append]
  simp
theorem inV_nat (n : Nat) : ∀ ns : List Nat, inV (.int (n : Int)) (ns.map vN) = decide (n ∈ ns)
  | [] => by simp [inV]
  | m :: ns => by
    have ih := inV_nat n ns
    unfold inV at ih ⊢
    rw [List.map_cons, List.any_cons, ih]
    have e : eqV (vN m) (.int (n : Int)) = decide (m = n) := by
      show ((m : Int) == (n : Int)) = decide (m = n)
      by_cases h : m = n
      · rw [h]; simp
      · rw [decide_eq_false h]; simp; omega
    rw [e]
    by_cases h : m = n <;> by_cases h2 : n ∈ ns <;> simp [h, h2] <;> omega
theorem vN_flat : ∀ ns : List Nat, (ns.map vN).all flatV = true
  | [] => rfl
  | m :: ns => by rw [List.map_cons, List.all_cons, vN_flat ns]; rfl
theorem fits_snoc {B : Nat} {os : List (Nat × Nat)} {j : Nat} (h : j < os.length) : fits B (os.take (j + 1)) = ((fits B (os.take j) && (decide (4 ≤ os[j].1) && decide (os[j].1 < B))) && !decide (os[j].1 ∈ (os.take j).map (·.1))) := by
  unfold fits
  rw [← take_snoc (List.getElem?_eq_getElem h), List.all_append, List.map_append]
  have e : decide ((os.take j).map (·.1) ++ [os[j]].map (·.1)).Nodup = (decide ((os.take j).map (·.1)).Nodup && !decide (os[j].1 ∈ (os.take j).map (·.1))) := by
    by_cases h1 : ((os.take j).map (·.1)).Nodup
    · by_cases h2 : os[j].1 ∈ (os.take j).map (·.1)
      · rw [decide_eq_true h1, decide_eq_true h2, decide_eq_false]; rfl
        intro q
        exact (List.nodup_append.mp q).2.2 _ h2 _ (List.mem_singleton.mpr rfl) rfl
      · rw [decide_eq_true h1, decide_eq_false h2, decide_eq_true]; rfl
        refine List.nodup_append.mpr ⟨h1, by simp, fun x hx y hy e => ?_⟩
        rw [List.map_cons, List.map_nil, List.mem_singleton] at hy
        exact h2 (by rw [← hy, ← e]; exact hx)
    · rw [decide_eq_false h1, decide_eq_false]; rfl
      intro q
      exact h1 (List.nodup_append.mp q).1
  rw [e, List.all_cons, List.all_nil, Bool.and_true]
  cases (os.take j).all fun o => decide (4 ≤ o.1) && decide (o.1 < B) <;> cases (decide (4 ≤ os[j].1) && decide (os[j].1 < B)) <;> cases decide ((os.take j).map (·.1)).Nodup <;> cases decide (os[j].1 ∈ (os.take j).map (·.1)) <;> rfl
theorem fits_bad {B : Nat} {os : List (Nat × Nat)} {j : Nat} (h : fits B (os.take j) = false) : fits B os = false := by
  cases e : fits B os with
  | false => rfl
  | true =>
    unfold fits at e h
    rw [Bool.and_eq_true, decide_eq_true_eq] at e
    have a1 : ((os.take j).all fun o => decide (4 ≤ o.1) && decide (o.1 < B)) = true := List.all_eq_true.mpr fun x hx => List.all_eq_true.mp e.1 x (List.mem_of_mem_take hx)
    have a2 : ((os.take j).map (·.1)).Nodup := e.2.sublist ((List.take_sublist j os).map _)
    rw [a1, decide_eq_true a2] at h
    exact h
section
variable {P : Program} {w : World} {K : PySem.W.Frag} {mg : Str → Option Value} {base : Heap}
end
end My

namespace My
open PySem L2
local macro_rules | `(tactic| walk_at "ne") => `(tactic| first | assumption | exact Ne.symm (by assumption) | exact ne_of_none (by assumption) (by assumption) | exact Ne.symm (ne_of_none (by assumption) (by assumption)))
local macro_rules | `(tactic| walk_at "hp") => `(tactic| first | assumption | with_reducible exact upd_same | (with_reducible refine Eq.trans (upd_ne ?_) ?_; rotate_left; walk_at "hp"; walk_at "ne"))
local macro_rules | `(tactic| walk_at "cnd") => `(tactic| first | omega | (show (0 : Int) < _; omega) | exact ⟨by omega, by omega⟩ | exact Or.inl ⟨by omega, by omega⟩ | exact Or.inr ⟨by omega, by omega⟩ | exact ⟨by omega, by omega, by decide⟩ | exact ⟨by omega, by omega, by omega⟩)
local macro_rules | `(tactic| walk_at "at") => `(tactic| first | exact atC 0 rfl rfl | exact atC 1 rfl rfl | exact atC 2 rfl rfl | exact atC 3 rfl rfl | exact atC 4 rfl rfl | exact atC 5 rfl rfl | exact atC 6 rfl rfl | exact atC 7 rfl rfl)
local macro_rules | `(tactic| walk_at "ix") => `(tactic| first | exact ixC 0 rfl (Nat.le_of_ble_eq_true rfl) | exact ixC 1 rfl (Nat.le_of_ble_eq_true rfl) | exact ixC 2 rfl (Nat.le_of_ble_eq_true rfl) | exact ixC 3 rfl (Nat.le_of_ble_eq_true rfl) | exact ixC 4 rfl (Nat.le_of_ble_eq_true rfl) | exact ixC 5 rfl (Nat.le_of_ble_eq_true rfl))
local macro_rules | `(tactic| walk_at "st") => `(tactic| first
  | refine ⟨_, rfl, ?_⟩
  | refine ⟨_, _, rfl, rfl, (by walk_at "cnd" : (_ : Prop)), ?_⟩
  | refine ⟨_, _, rfl, rfl, ?_⟩
  | refine ⟨rfl, ?_⟩
  | refine Or.inl ⟨_, rfl, ?_⟩
  | refine ⟨_, _, _, _, rfl, rfl, by exact SqL.of (by walk_at "hp"), by walk_at "at", ?_⟩
  | refine ⟨_, _, _, _, rfl, rfl, by exact SqT.of (by walk_at "hp"), by walk_at "at", ?_⟩
  | refine ⟨_, _, _, _, rfl, rfl, by walk_at "hp", by walk_at "ix", ?_⟩
  | refine ⟨_, _, rfl, Or.inl (by exact SqL.of (by walk_at "hp")), ?_⟩
  | refine ⟨_, _, rfl, Or.inr (by exact SqT.of (by walk_at "hp")), ?_⟩)
local macro_rules | `(tactic| walk_at "so") => `(tactic| first
  | refine ⟨_, _, _, _, _, rfl, by walk_at "hp", by assumption, by assumption, rfl, ?_⟩
  | refine ⟨_, _, _, _, rfl, by walk_at "hp", by assumption, by assumption, Nat.le_of_ble_eq_true rfl, ?_⟩
  | refine ⟨_, _, _, rfl, by walk_at "hp", rfl, ?_⟩
  | walk_at "st")
local macro_rules | `(tactic| walk_at "ro") => `(tactic| repeat walk_at "so")
local macro_rules | `(tactic| walk_at "run") => `(tactic| repeat walk_at "st")

/-- a list of data that is being made, beside the tape -/
structure I7 (H0 : Hp) (a t L : Addr) (xs : List V) (ds : List PyData) (H : Hp) : Prop where
  hL : H L = some (.lst xs)
  dL : DtAll H xs ds
  oL : tonlyAll ds = true
  tp : Tape H a t
  ch : Chg a H0 H
  La : L ≠ a
  Lt : L ≠ t
  nL : H0 L = none
theorem none_of {a G : Addr} {H0 H : Hp} (c : Chg a H0 H) (n : G ≠ a) (h : H G = none) : H0 G = none := by
  cases e : H0 G with
  | none => rfl
  | some o => rw [c G o n e] at h; cases h
namespace I7
variable {H0 H H' : Hp} {a t L G q : Addr} {xs vs : List V} {ds es : List PyData} {o : HO}
theorem same (I : I7 H0 a t L xs ds H) (s : Same H H') : I7 H0 a t L xs ds H' := ⟨s _ _ I.hL, I.dL.same s, I.oL, I.tp.same s, I.ch.trans (Same.chg s), I.La, I.Lt, I.nL⟩
theorem next (I : I7 H0 a t L xs ds H) (t' : Tape H' a t) (c : Chg a H H') : I7 H0 a t L xs ds H' := ⟨c L _ I.La I.hL, I.dL.ts (I.tp.ts c) I.oL, I.oL, t', I.ch.trans c, I.La, I.Lt, I.nL⟩
theorem other (I : I7 H0 a t L xs ds H) {gs : List V} (hG : H G = some (.lst gs)) (n1 : G ≠ a) (n2 : G ≠ t) (n3 : L ≠ G) (hn : H0 G = none) : I7 H0 a t L xs ds (upd H G o) :=
  ⟨by rw [upd_ne n3]; exact I.hL, I.dL.ts (Chg.upd.ts hG) I.oL, I.oL, I.tp.upd n1 n2, Chg.mut I.ch hn, I.La, I.Lt, I.nL⟩
theorem pushV (I : I7 H0 a t L xs ds H) {v : V} {d : PyData} (hd : Dt H v d) (ht : tonly d = true) : I7 H0 a t L (xs ++ [v]) (ds ++ [d]) (upd H L (.lst (xs ++ [v]))) :=
  have ot : tonlyAll (ds ++ [d]) = true := by
    have : ∀ es : List PyData, tonlyAll es = true → tonlyAll (es ++ [d]) = true := by
      intro es
      induction es with
      | nil => intro _; show (tonly d && true) = true; rw [ht]; rfl
      | cons e es ih =>
        intro h
        have h' : (tonly e && tonlyAll es) = true := h
        rw [Bool.and_eq_true] at h'
        show (tonly e && tonlyAll (es ++ [d])) = true
        rw [h'.1, ih h'.2]; rfl
    exact this ds I.oL
  ⟨upd_same, (I.dL.append (.cons hd .nil)).ts (Chg.upd.ts I.hL) ot, ot, I.tp.upd I.La I.Lt, Chg.mut I.ch I.nL, I.La, I.Lt, I.nL⟩
end I7
theorem rowD_tonly (r : Row3) : tonly (rowD r) = true := rfl
theorem clD_tonly (c : Cl) : tonly (clD c) = true := by
  obtain ⟨rows, s, m, k⟩ := c
  show (tonlyAll (rows.map rowD) && (true && (tonly (mnD m) && (tonly (kdD k) && true)))) = true
  rw [rows_tonly]
  cases m <;> cases k <;> rfl
def spLProg : Sp := fun vs H Q _ => ∃ a t, vs = [.ref a] ∧ Tape H a t ∧ ∀ (v : V) (cs : List Cl) (H' : Hp), cs.length ≤ 4 → (∀ c ∈ cs, ClOk c) → Dt H' v (.tuple (cs.map clD)) → Tape H' a t → Chg a H H' → Q v H'
def spLWords : Sp := fun vs H Q _ => ∃ a t, ∃ B : Nat, vs = [.ref a, .int B] ∧ 1 ≤ B ∧ Tape H a t ∧ ∀ (v : V) (ws : List Nat) (H' : Hp), ws.length = 8 → Dt H' v (pD ws) → Tape H' a t → Chg a H H' → Q v H'
section
variable {P : Program} {w : World} {K : PySem.W.Frag} {mg : Str → Option Value} {base : Heap}
end
end My

namespace My
open PySem L2
local macro_rules | `(tactic| walk_at "ne") => `(tactic| first | assumption | exact Ne.symm (by assumption) | exact ne_of_none (by assumption) (by assumption) | exact Ne.symm (ne_of_none (by assumption) (by assumption)))
local macro_rules | `(tactic| walk_at "hp") => `(tactic| first | assumption | with_reducible exact upd_same | (with_reducible refine Eq.trans (upd_ne ?_) ?_; rotate_left; walk_at "hp"; walk_at "ne"))
local macro_rules | `(tactic| walk_at "cnd") => `(tactic| first | omega | (show (0 : Int) < _; omega) | exact ⟨by omega, by omega⟩ | exact Or.inl ⟨by omega, by omega⟩ | exact Or.inr ⟨by omega, by omega⟩ | exact ⟨by omega, by omega, by decide⟩ | exact ⟨by omega, by omega, by omega⟩)
local macro_rules | `(tactic| walk_at "at") => `(tactic| first | exact atC 0 rfl rfl | exact atC 1 rfl rfl | exact atC 2 rfl rfl | exact atC 3 rfl rfl | exact atC 4 rfl rfl | exact atC 5 rfl rfl | exact atC 6 rfl rfl | exact atC 7 rfl rfl)
local macro_rules | `(tactic| walk_at "ix") => `(tactic| first | exact ixC 0 rfl (Nat.le_of_ble_eq_true rfl) | exact ixC 1 rfl (Nat.le_of_ble_eq_true rfl) | exact ixC 2 rfl (Nat.le_of_ble_eq_true rfl) | exact ixC 3 rfl (Nat.le_of_ble_eq_true rfl) | exact ixC 4 rfl (Nat.le_of_ble_eq_true rfl) | exact ixC 5 rfl (Nat.le_of_ble_eq_true rfl))
local macro_rules | `(tactic| walk_at "st") => `(tactic| first
  | refine ⟨_, rfl, ?_⟩
  | refine ⟨_, _, rfl, rfl, (by walk_at "cnd" : (_ : Prop)), ?_⟩
  | refine ⟨_, _, rfl, rfl, ?_⟩
  | refine ⟨rfl, ?_⟩
  | refine Or.inl ⟨_, rfl, ?_⟩
  | refine ⟨_, _, _, _, rfl, rfl, by exact SqL.of (by walk_at "hp"), by walk_at "at", ?_⟩
  | refine ⟨_, _, _, _, rfl, rfl, by exact SqT.of (by walk_at "hp"), by walk_at "at", ?_⟩
  | refine ⟨_, _, _, _, rfl, rfl, by walk_at "hp", by walk_at "ix", ?_⟩
  | refine ⟨_, _, rfl, Or.inl (by exact SqL.of (by walk_at "hp")), ?_⟩
  | refine ⟨_, _, rfl, Or.inr (by exact SqT.of (by walk_at "hp")), ?_⟩)
local macro_rules | `(tactic| walk_at "so") => `(tactic| first
  | refine ⟨_, _, _, _, _, rfl, by walk_at "hp", by assumption, by assumption, rfl, ?_⟩
  | refine ⟨_, _, _, _, rfl, by walk_at "hp", by assumption, by assumption, Nat.le_of_ble_eq_true rfl, ?_⟩
  | refine ⟨_, _, _, rfl, by walk_at "hp", rfl, ?_⟩
  | walk_at "st")
local macro_rules | `(tactic| walk_at "ro") => `(tactic| repeat walk_at "so")
local macro_rules | `(tactic| walk_at "run") => `(tactic| repeat walk_at "st")

/-! ### literals -/
def Lit (te : TE) (d : PyData) : Prop := ∀ σ H Q, (∀ v H', Same H H' → Dt H' v d → Q v H') → te σ H Q
def LitAll (ta : TA) (ds : List PyData) : Prop := ∀ σ H Q, (∀ vs H', Same H H' → DtAll H' vs ds → Q vs H') → ta σ H Q
theorem lit_int (i : Int) : Lit (tC (.int i)) (.int i) := fun _ H _ k => k _ H (Same.refl H) (.int i)
theorem lit_bl (i : Bool) : Lit (tC (.bl i)) (.bool i) := fun _ H _ k => k _ H (Same.refl H) (.bl i)
theorem lit_str (i : Str) : Lit (tC (.str i)) (.str i) := fun _ H _ k => k _ H (Same.refl H) (.str i)
theorem lit_non : Lit (tC .non) .none := fun _ H _ k => k _ H (Same.refl H) .non
theorem lit_nil : LitAll tNil [] := fun _ H _ k => k _ H (Same.refl H) .nil
theorem lit_cons {te : TE} {ta : TA} {d : PyData} {ds : List PyData} (h : Lit te d) (hs : LitAll ta ds) : LitAll (tCons te ta) (d :: ds) := fun σ H _ k =>
  h σ H _ fun v H1 s1 d1 => hs σ H1 _ fun vs H2 s2 d2 => k _ H2 (s1.trans s2) (.cons (d1.same s2) d2)
theorem lit_tup {ta : TA} {ds : List PyData} (hs : LitAll ta ds) (hz : Nat.ble ds.length 100 = true := by rfl) : Lit (tTup ta) (.tuple ds) := fun σ H _ k =>
  hs σ H _ fun vs H1 s1 d1 => ⟨szl (by rw [d1.len]; exact hz), fun p hp => k _ _ (s1.trans (Same.new hp)) (Dt.new d1 hp)⟩
theorem lit_lst {ta : TA} {ds : List PyData} (hs : LitAll ta ds) (hz : Nat.ble ds.length 100 = true := by rfl) : Lit (tLst ta) (.list ds) := fun σ H _ k =>
  hs σ H _ fun vs H1 s1 d1 => ⟨szl (by rw [d1.len]; exact hz), fun p hp => k _ _ (s1.trans (Same.new hp)) (.lst upd_same (d1.same (Same.new hp)))⟩
theorem go_lit {te : TE} {d : PyData} {σ : L2.St} {H : Hp} {Q : VK} (h : Lit te d) (k : ∀ v H', Same H H' → Dt H' v d → Q v H') : te σ H Q := h σ H Q k
theorem go_set {te : TE} {i : Nat} {s : L2.TS} {D : Ends} {d : PyData} {σ : L2.St} {H : Hp} (h : Lit te d) (k : ∀ v H', Same H H' → Dt H' v d → s D (σ.set i (some v)) H') : tSeq (tAsg te (gName i)) s D σ H := h σ H _ k
theorem go_tup {ta : TA} {ds : List PyData} {σ : L2.St} {H : Hp} {Q : VK} (h : Lit (tTup ta) (.tuple ds)) (k : ∀ v H', Same H H' → Dt H' v (.tuple ds) → Q v H') : tTup ta σ H Q := h σ H Q k
theorem go_lst {ta : TA} {ds : List PyData} {σ : L2.St} {H : Hp} {Q : VK} (h : Lit (tLst ta) (.list ds)) (k : ∀ v H', Same H H' → Dt H' v (.list ds) → Q v H') : tLst ta σ H Q := h σ H Q k
def e0 : PyData := .tuple []
def cl (a b c d : PyData) : PyData := .tuple [a, b, c, d]
theorem sh_kd (k : Option Nat) : SeqAt.shaped (kdD k) = true := by
  cases k
  · exact sh_str _
  · exact sh_int _
theorem clD_fit (c : Cl) : ClFit (clD c) := by
  obtain ⟨rows, s, m, k⟩ := c
  intro g s' m' k' e
  unfold clD at e
  cases e
  refine ⟨sh_kd k, fun a b e => ?_⟩
  cases m with
  | inl n => cases e
  | inr i => cases e; exact sh_str _
theorem cls_tonly : ∀ cs : List Cl, tonlyAll (cs.map clD) = true
  | [] => rfl
  | c :: cs => by
    show (tonly (clD c) && tonlyAll (cs.map clD)) = true
    rw [clD_tonly, cls_tonly cs]; rfl
theorem isI_nat {n lo hi : Nat} (h1 : lo ≤ n) (h2 : n ≤ hi) : isI (.int (n : Int)) (lo : Int) (hi : Int) = true := by
  show (decide ((lo : Int) ≤ (n : Int)) && decide ((n : Int) ≤ (hi : Int))) = true
  rw [decide_eq_true (by omega), decide_eq_true (by omega)]; rfl
theorem isMn_ok {m : Nat ⊕ Nat} {s : Nat} (h1 : ∀ n, m = .inl n → 1 ≤ n ∧ n + s ≤ 8) (h2 : ∀ i, m = .inr i → i < 8) : isMn (mnD m) (s : Int) = true := by
  cases m with
  | inl n =>
    obtain ⟨a, b⟩ := h1 n rfl
    show (decide ((1 : Int) ≤ (n : Int)) && decide ((n : Int) ≤ 8 - (s : Int))) = true
    rw [decide_eq_true (by omega), decide_eq_true (by omega)]; rfl
  | inr i =>
    have := h2 i rfl
    show (PyData.eqv (.str "word") (.str "word") && isI (.int (i : Int)) (0 : Nat) (7 : Nat)) = true
    rw [isI_nat (Nat.zero_le _) (by omega)]; decide +kernel
theorem gdsOk_ok {rows : List Row3} (h4 : rows.length ≤ 4) (h : ∀ r ∈ rows, r.1 < 8 ∧ r.2.1 ≤ 4294967295 ∧ r.2.2 ≤ 4294967295) : gdsOk (.tuple (rows.map rowD)) = true := by
  show (decide ((rows.map rowD).length ≤ 4) && (rows.map rowD).all isGd) = true
  rw [decide_eq_true (by rw [List.length_map]; exact h4), Bool.true_and]
  refine List.all_eq_true.mpr fun d hd => ?_
  obtain ⟨r, hr, rfl⟩ := List.mem_map.mp hd
  obtain ⟨a, b, c⟩ := h r hr
  show (isI (.int (r.1 : Int)) (0 : Nat) (7 : Nat) && (isI (.int (r.2.1 : Int)) (0 : Nat) (4294967295 : Nat) && isI (.int (r.2.2 : Int)) (0 : Nat) (4294967295 : Nat))) = true
  rw [isI_nat (Nat.zero_le _) (by omega), isI_nat (Nat.zero_le _) b, isI_nat (Nat.zero_le _) c]; rfl
theorem isCl_ok {c : Cl} (h : ClOk c) (n : Int) : isCl n (clD c) = isKd (kdD c.2.2.2) n := by
  show (gdsOk (.tuple (c.1.map rowD)) && (isI (.int (c.2.1 : Int)) (0 : Nat) (7 : Nat) && (isMn (mnD c.2.2.1) (c.2.1 : Int) && isKd (kdD c.2.2.2) n))) = _
  have := h.st
  rw [gdsOk_ok h.g4 h.gr, isI_nat (Nat.zero_le _) (by omega), isMn_ok h.m1 h.m2]; rfl
theorem kd3 {k : Option Nat} (h : k = none ∨ k = some 0 ∨ k = some 2) : isKd (kdD k) 3 = true := by rcases h with rfl | rfl | rfl <;> decide +kernel
theorem kd2 {k : Option Nat} (h : k = none ∨ k = some 0 ∨ k = some 2) : isKd (kdD k) 2 = !decide (k = some 2) := by rcases h with rfl | rfl | rfl <;> decide +kernel
theorem kdE {k : Option Nat} (h : k = none ∨ k = some 0 ∨ k = some 2) : PyData.eqv (kdD k) (.int 2) = decide (k = some 2) := by rcases h with rfl | rfl | rfl <;> decide +kernel
theorem sh_run (cs : List Cl) (ws : List Nat) (B own : Nat) : SeqAt.shaped (runD cs ws B own) = true := by
  unfold runD
  split
  · refine (Sh.tup (n := 1) fun d hd => ?_).ok
    obtain ⟨o, _, rfl⟩ := List.mem_map.mp hd
    exact Sh.tup (n := 0) fun d hd => by
      simp only [List.mem_cons, List.not_mem_nil, or_false] at hd
      rcases hd with rfl | rfl <;> exact Sh.int 0 _
  · exact (Sh.none 0).ok
/-! ### the types -/
def pgD (cs : List Cl) : PyData := .tuple (cs.map clD)
structure PgOk (cs : List Cl) : Prop where
  c4 : cs.length ≤ 4
  ok : ∀ c ∈ cs, ClOk c
structure Ty (C : Addr) (H : Hp) (x L R : Addr) (B : Nat) (ps : List (List Cl)) (rs : List Nat) : Prop where
  ins : ∃ dx, H x = some (.ins C dx [("_blocks", .int (B : Int)), ("_programs", .ref L), ("_registered", .ref R)])
  hL : ∃ xs, H L = some (.lst xs) ∧ DtAll H xs (ps.map pgD)
  hR : H R = some (.lst (rs.map vN))
  LR : L ≠ R
theorem Ty.same {C : Addr} {H H' : Hp} {x L R : Addr} {B : Nat} {ps : List (List Cl)} {rs : List Nat} (t : Ty C H x L R B ps rs) (s : Same H H') : Ty C H' x L R B ps rs := by
  obtain ⟨⟨dx, h1⟩, ⟨xs, h2, h3⟩, h4, h5⟩ := t
  exact ⟨⟨dx, s _ _ h1⟩, ⟨xs, s _ _ h2, h3.same s⟩, s _ _ h4, h5⟩
theorem pgs_tonly : ∀ ps : List (List Cl), tonlyAll (ps.map pgD) = true
  | [] => rfl
  | p :: ps => by
    show (tonlyAll (p.map clD) && tonlyAll (ps.map pgD)) = true
    rw [cls_tonly, pgs_tonly ps]; rfl
def spCnt (C : Addr) : Sp := fun vs H Q _ => ∃ x L R B ps rs, vs = [.ref x] ∧ Ty C H x L R B ps rs ∧ Q (.int ((2 + ps.length : Nat) : Int)) H
def spKnown (C : Addr) : Sp := fun vs H Q _ => ∃ x L R B ps rs v d, vs = [.ref x, v] ∧ Ty C H x L R B ps rs ∧ Dt H v d ∧ Q (.bl (isI d 0 (((2 + ps.length : Nat) : Int) - 1))) H
def spProgs (C : Addr) : Sp := fun vs H Q _ => ∃ x L R B ps rs, vs = [.ref x] ∧ Ty C H x L R B ps rs ∧ ∀ v H', Same H H' → Dt H' v (.list (ps.map pgD)) → Q v H'
def rootD (ws : List Nat) (B n : Nat) : PyData := if ws.getD 0 0 = 0 then .tuple [] else if (decide (4 ≤ ws.getD 0 0) && decide (ws.getD 0 0 < B)) && (decide (ws.getD 1 0 < n) && !decide (ws.getD 1 0 = 1)) then .tuple [oD (ws.getD 0 0, ws.getD 1 0)] else .none
def spRoot (C : Addr) : Sp := fun vs H Q _ => ∃ x L R B ps rs vw ws, vs = [.ref x, vw] ∧ Ty C H x L R B ps rs ∧ Dt H vw (pD ws) ∧ ws.length = 8 ∧ ∀ v H', Same H H' → Dt H' v (rootD ws B (2 + ps.length)) → Q v H'
def spLRoot : Sp := fun vs H Q _ => ∃ vw ws, ∃ B n : Nat, vs = [vw, .int B, .int n] ∧ Dt H vw (pD ws) ∧ ws.length = 8 ∧ ∀ v H', Same H H' → Dt H' v (rootD ws B n) → Q v H'
def ownD (n : Nat) (ps : List (List Cl)) (ws : List Nat) (B : Nat) : PyData := if n = 0 then .tuple [] else if n = 1 then rootD ws B (2 + ps.length) else runD (ps.getD (n - 2) []) ws B n
def spOwned (C : Addr) : Sp := fun vs H Q _ => ∃ x L R B ps rs vw ws, ∃ n : Nat, vs = [.ref x, .int n, vw] ∧ Ty C H x L R B ps rs ∧ (∀ p ∈ ps, PgOk p) ∧ n < 2 + ps.length ∧ Dt H vw (pD ws) ∧ ws.length = 8 ∧ ∀ v H', Same H H' → Dt H' v (ownD n ps ws B) → Q v H'
section
variable {P : Program} {w : World} {K : PySem.W.Frag} {mg : Str → Option Value} {base : Heap} {C_Types C_NotValid : Addr}
abbrev s_Types_count : Stmt := inClass (topS 32) 3
abbrev ns_Types_count : List Str := ["self"]
theorem sc_Types_count : FnScope ns_Types_count ["self"] (defScope s_Types_count) := ⟨rfl, rfl, rfl, by decide +kernel, rfl, by decide +kernel, by decide +kernel⟩

theorem ok_Types_count {f : Addr} {fd : FuncData} (F : Fun K "count" "Types.count" s_Types_count f fd) (T : Txt K mg C_Types C_NotValid) : FnOk P w K mg base CX0 1 f fd ["self"] (spCnt C_Types) := by
  have ho_Types := T.o_Types; have hn_Types__blocks := T.n_Types__blocks; have hn_Types__programs := T.n_Types__programs; have hn_Types__registered := T.n_Types__registered
  refine F.ok sc_Types_count (fun vs H Q E h => ?_) (fun cdv A outer s H vs Q E hr h => ?_)
  · obtain ⟨x, L, R, B, ps, rs, rfl, _⟩ := h
    rfl
  · obtain ⟨x, L, R, B, ps, rs, rfl, ⟨⟨dx, h1⟩, ⟨xs, h2, h3⟩, h4, h5⟩, k⟩ := h
    have xl : xs.length = ps.length := by rw [h3.len, List.length_map]
    refine ⟨_, (pss_one (ps_ret (pe_op op_add (pe_gint (by rfl) T.c__FIRST_OF_PROGRAMS) (pe_callB (kLen K) (by rfl) T.b_len (by decide +kernel) (pa_cons (kFld K (pv 0) rfl) pa_nil))))), ?_⟩
    walk_at "ro"
    rw [show ((2 + ps.length : Nat) : Int) = 2 + (xs.length : Int) by omega] at k
    exact k
abbrev s_Types_is_known : Stmt := inClass (topS 32) 2
abbrev ns_Types_is_known : List Str := ["self", "number"]
theorem sc_Types_is_known : FnScope ns_Types_is_known ["self", "number"] (defScope s_Types_is_known) := ⟨rfl, rfl, rfl, by decide +kernel, rfl, by decide +kernel, by decide +kernel⟩

theorem ok_Types_is_known {f : Addr} {fd : FuncData} (F : Fun K "is_known" "Types.is_known" s_Types_is_known f fd) (T : Txt K mg C_Types C_NotValid) (D_is_index : Dfn P w K mg base CX0 3 "is_index" ["value", "many"] spIdx) (D_Types_count : Mth P w K mg base CX0 1 C_Types "count" ["self"] (spCnt C_Types)) : FnOk P w K mg base CX0 4 f fd ["self", "number"] (spKnown C_Types) := by
  have ho_Types := T.o_Types; have hn_Types__blocks := T.n_Types__blocks; have hn_Types__programs := T.n_Types__programs; have hn_Types__registered := T.n_Types__registered
  refine F.ok sc_Types_is_known (fun vs H Q E h => ?_) (fun cdv A outer s H vs Q E hr h => ?_)
  · obtain ⟨x, L, R, B, ps, rs, v, d, rfl, _⟩ := h
    rfl
  · obtain ⟨x, L, R, B, ps, rs, v, d, rfl, ty, hd, k⟩ := h
    obtain ⟨dx, h1⟩ := ty.ins
    refine ⟨_, (pss_one (ps_ret (pe_dcall D_is_index (hr.mono (by decide)) (by rfl) pass0 (pa_cons (pv 1) (pa_cons (pe_dmeth0 (pv 0) D_Types_count (hr.mono (by decide)) pass0 ) pa_nil))))), ?_⟩
    walk_at "ro"
    refine ⟨x, L, R, B, ps, rs, rfl, ty, ?_⟩
    walk_at "ro"
    exact ⟨_, d, _, rfl, hd, k⟩
abbrev s_Types_owned_by_root : Stmt := inClass (topS 32) 6
abbrev ns_Types_owned_by_root : List Str := ["self", "words", "block", "kind"]
theorem sc_Types_owned_by_root : FnScope ns_Types_owned_by_root ["self", "words"] (defScope s_Types_owned_by_root) := ⟨rfl, rfl, rfl, by decide +kernel, rfl, by decide +kernel, by decide +kernel⟩

theorem ok_Types_owned_by_root {f : Addr} {fd : FuncData} (F : Fun K "_owned_by_root" "Types._owned_by_root" s_Types_owned_by_root f fd) (T : Txt K mg C_Types C_NotValid) (D_can_be_owned : Dfn P w K mg base CX0 1 "_can_be_owned" ["block", "blocks"] spCan) (D_Types_is_known : Mth P w K mg base CX0 4 C_Types "is_known" ["self", "number"] (spKnown C_Types)) : FnOk P w K mg base CX0 5 f fd ["self", "words"] (spRoot C_Types) := by
  have ho_Types := T.o_Types; have hn_Types__blocks := T.n_Types__blocks; have hn_Types__programs := T.n_Types__programs; have hn_Types__registered := T.n_Types__registered
  refine F.ok sc_Types_owned_by_root (fun vs H Q E h => ?_) (fun cdv A outer s H vs Q E hr h => ?_)
  · obtain ⟨x, L, R, B, ps, rs, vw, ws, rfl, _⟩ := h
    rfl
  · obtain ⟨x, L, R, B, ps, rs, vw, ws, rfl, ty, hw, h8, k⟩ := h
    obtain ⟨b, rfl, hb⟩ := pD_open hw
    obtain ⟨dx, h1⟩ := ty.ins
    refine ⟨_, (pss_cons (ps_par (i := 2) (j := 3) (by rfl) sc_Types_owned_by_root.nd rfl rfl (by decide) rfl rfl (pa_cons (pe_ix (kIxT K) (pv 1) pe_int (fun _ _ => rfl)) (pa_cons (pe_ix (kIxT K) (pv 1) pe_int (fun _ _ => rfl)) pa_nil)) (by rfl))
  (pss_cons (ps_if (pt_cmpR op_eq (pv 2) pe_int (nomark _)) (pss_one (ps_ret (pe_tup pa_nil))) pss_nil)
  (pss_cons (ps_if (PW.pt (pw_or (pt_not (pt_val (pe_dcall D_can_be_owned (hr.mono (by decide)) (by rfl) pass0 (pa_cons (pv 2) (pa_cons (kFld K (pv 0) rfl) pa_nil))))) (pw_or (pt_not (pt_val (pe_dmeth (pv 0) D_Types_is_known (hr.mono (by decide)) pass0 (pa_cons (pv 3) pa_nil)))) (pw_or1 (pt_cmpR op_eq (pv 3) (pe_gint (by rfl) T.c_ROOT) (nomark _)))))) (pss_one (ps_ret pe_non)) pss_nil)
  (pss_one (ps_ret (pe_tup (pa_cons (pe_tup (pa_cons (pv 2) (pa_cons (pv 3) pa_nil))) pa_nil))))))), ?_⟩
    have g0 := getVN (ws := ws) (i := 0) (by omega)
    have g1 := getVN (ws := ws) (i := 1) (by omega)
    unfold rootD at k
    generalize ws.getD 0 0 = w0 at g0 k
    generalize ws.getD 1 0 = w1 at g1 k
    walk_at "ro"
    refine ⟨_, _, _, _, rfl, rfl, SqT.of hb, atC 0 rfl g0, ?_⟩
    walk_at "ro"
    refine ⟨_, _, _, _, rfl, rfl, SqT.of hb, atC 1 rfl g1, ?_⟩
    refine ⟨_, _, rfl, ?_⟩
    walk_at "ro"
    refine iteD (fun e => ?_) (fun e => ?_)
    · have z : w0 = 0 := by
        have q : ((w0 : Nat) : Int) = 0 := by injection e
        omega
      rw [if_pos z] at k
      exact ⟨szl rfl, fun p hp => k _ _ (Same.new hp) (Dt.new .nil hp)⟩
    · have z : ¬ w0 = 0 := fun q => e (by rw [q]; rfl)
      rw [if_neg z] at k
      walk_at "ro"
      refine ⟨w0, B, rfl, ?_⟩
      refine ⟨_, rfl, ?_⟩
      cases e1 : (decide (4 ≤ w0) && decide (w0 < B)) with
      | false =>
        rw [e1, Bool.false_and] at k
        exact iteT (k _ H (Same.refl H) .non)
      | true =>
        rw [e1, Bool.true_and] at k
        refine iteF ?_
        walk_at "ro"
        refine ⟨x, L, R, B, ps, rs, _, .int (w1 : Int), rfl, ty, .int _, ?_⟩
        refine ⟨_, rfl, ?_⟩
        have ei : isI (.int (w1 : Int)) 0 (((2 + ps.length : Nat) : Int) - 1) = decide (w1 < 2 + ps.length) := by
          show (decide ((0 : Int) ≤ (w1 : Int)) && decide ((w1 : Int) ≤ ((2 + ps.length : Nat) : Int) - 1)) = _
          rw [decide_eq_true (by omega), Bool.true_and]
          by_cases q : w1 < 2 + ps.length
          · rw [decide_eq_true q, decide_eq_true (by omega)]
          · rw [decide_eq_false q, decide_eq_false (by omega)]
        rw [ei]
        cases e2 : decide (w1 < 2 + ps.length) with
        | false =>
          rw [e2, Bool.false_and] at k
          exact iteT (k _ H (Same.refl H) .non)
        | true =>
          rw [e2, Bool.true_and] at k
          refine iteF ?_
          walk_at "ro"
          refine iteD (fun e3 => ?_) (fun e3 => ?_)
          · have z1 : w1 = 1 := by
              have q : ((w1 : Nat) : Int) = 1 := by injection e3
              omega
            rw [decide_eq_true z1] at k
            exact k _ H (Same.refl H) .non
          · have z1 : ¬ w1 = 1 := fun q => e3 (by rw [q]; rfl)
            rw [decide_eq_false z1] at k
            refine ⟨_, rfl, _, rfl, szl rfl, fun p hp => ⟨szl rfl, fun q hq => ?_⟩⟩
            refine k _ _ ((Same.new hp).trans (Same.new hq)) (.tup upd_same (.cons (.tup (Same.new hq _ _ upd_same) (.cons (.int _) (.cons (.int _) .nil))) .nil))
abbrev s_Types_owned : Stmt := inClass (topS 32) 4
abbrev ns_Types_owned : List Str := ["self", "number", "words"]
theorem sc_Types_owned : FnScope ns_Types_owned ["self", "number", "words"] (defScope s_Types_owned) := ⟨rfl, rfl, rfl, by decide +kernel, rfl, by decide +kernel, by decide +kernel⟩

theorem ok_Types_owned {f : Addr} {fd : FuncData} (F : Fun K "owned" "Types.owned" s_Types_owned f fd) (T : Txt K mg C_Types C_NotValid) (D_Types_owned_by_root : Mth P w K mg base CX0 5 C_Types "_owned_by_root" ["self", "words"] (spRoot C_Types)) (D_run_program : Dfn P w K mg base CX0 2 "run_program" ["program", "words", "blocks", "own"] spRun) : FnOk P w K mg base CX0 6 f fd ["self", "number", "words"] (spOwned C_Types) := by
  have ho_Types := T.o_Types; have hn_Types__blocks := T.n_Types__blocks; have hn_Types__programs := T.n_Types__programs; have hn_Types__registered := T.n_Types__registered
  refine F.ok sc_Types_owned (fun vs H Q E h => ?_) (fun cdv A outer s H vs Q E hr h => ?_)
  · obtain ⟨x, L, R, B, ps, rs, vw, ws, n, rfl, _⟩ := h
    rfl
  · obtain ⟨x, L, R, B, ps, rs, vw, ws, n, rfl, ty, pok, hn, hw, h8, k⟩ := h
    obtain ⟨⟨dx, h1⟩, ⟨xs, h2, h3⟩, h4, h5⟩ := ty
    refine ⟨_, (pss_cons (ps_if (pt_cmpR op_eq (pv 1) (pe_gint (by rfl) T.c_DATA) (nomark _)) (pss_one (ps_ret (pe_tup pa_nil))) pss_nil)
  (pss_cons (ps_if (pt_cmpR op_eq (pv 1) (pe_gint (by rfl) T.c_ROOT) (nomark _)) (pss_one (ps_ret (pe_dmeth (pv 0) D_Types_owned_by_root (hr.mono (by decide)) pass0 (pa_cons (pv 2) pa_nil)))) pss_nil)
  (pss_one (ps_ret (pe_dcall D_run_program (hr.mono (by decide)) (by rfl) pass0 (pa_cons (pe_ix (kIxL K) (kFld K (pv 0) rfl) (pe_op op_sub (pv 1) (pe_gint (by rfl) T.c__FIRST_OF_PROGRAMS)) (fun _ _ => rfl)) (pa_cons (pv 2) (pa_cons (kFld K (pv 0) rfl) (pa_cons (pv 1) pa_nil))))))))), ?_⟩
    unfold ownD at k
    walk_at "ro"
    refine iteD (fun e => ?_) (fun e => ?_)
    · have z : n = 0 := by
        have q : ((n : Nat) : Int) = 0 := by injection e
        omega
      rw [if_pos z] at k
      exact ⟨szl rfl, fun p hp => k _ _ (Same.new hp) (Dt.new .nil hp)⟩
    · have z : ¬ n = 0 := fun q => e (by rw [q]; rfl)
      rw [if_neg z] at k
      walk_at "ro"
      refine iteD (fun e => ?_) (fun e => ?_)
      · have z : n = 1 := by
          have q : ((n : Nat) : Int) = 1 := by injection e
          omega
        rw [if_pos z] at k
        walk_at "ro"
        exact ⟨x, L, R, B, ps, rs, vw, ws, rfl, ⟨⟨dx, h1⟩, ⟨xs, h2, h3⟩, h4, h5⟩, hw, h8, k⟩
      · have z : ¬ n = 1 := fun q => e (by rw [q]; rfl)
        rw [if_neg z] at k
        have hi : n - 2 < ps.length := by omega
        have hd : (ps.map pgD)[n - 2]? = some (pgD ps[n - 2]) := by rw [List.getElem?_map, List.getElem?_eq_getElem hi]; rfl
        obtain ⟨v, hv, hvd⟩ := h3.get hd
        have eg : ps.getD (n - 2) [] = ps[n - 2] := by rw [List.getD_eq_getElem?_getD, List.getElem?_eq_getElem hi]; rfl
        rw [eg] at k
        have pk := pok _ (List.getElem_mem hi)
        walk_at "ro"
        refine ⟨_, _, _, _, rfl, rfl, SqL.of h2, atC (n - 2) (by omega) hv, ?_⟩
        walk_at "ro"
        exact ⟨v, vw, _, ws, B, n, rfl, hvd, hw, h8, by have := pk.c4; omega, pk.ok, k⟩
abbrev s_Types_init : Stmt := inClass (topS 32) 0
abbrev ns_Types_init : List Str := ["self", "blocks"]
theorem sc_Types_init : FnScope ns_Types_init ["self", "blocks"] (defScope s_Types_init) := ⟨rfl, rfl, rfl, by decide +kernel, rfl, by decide +kernel, by decide +kernel⟩

def spTInit (C : Addr) : Sp := fun vs H Q _ => ∃ x dx, ∃ B : Nat, vs = [.ref x, .int B] ∧ H x = some (.ins C dx []) ∧ ∀ L R H', Ty C H' x L R B [] [0, 0, 0, 0] → H L = none → H R = none → Chg x H H' → Q .non H'
theorem ok_Types_init {f : Addr} {fd : FuncData} (F : Fun K "__init__" "Types.__init__" s_Types_init f fd) (T : Txt K mg C_Types C_NotValid) : FnOk P w K mg base CX0 1 f fd ["self", "blocks"] (spTInit C_Types) := by
  have ho_Types := T.o_Types; have hn_Types__blocks := T.n_Types__blocks; have hn_Types__programs := T.n_Types__programs; have hn_Types__registered := T.n_Types__registered
  refine F.ok sc_Types_init (fun vs H Q E h => ?_) (fun cdv A outer s H vs Q E hr h => ?_)
  · obtain ⟨x, dx, B, rfl, _⟩ := h
    rfl
  · obtain ⟨x, dx, B, rfl, hx, k⟩ := h
    refine ⟨_, (pss_cons (kSFld K (pv 0) (pv 1) rfl)
  (pss_cons (kSFld K (pv 0) (pe_lst pa_nil) rfl)
  (pss_one (kSFld K (pv 0) (pe_op op_rep (pe_lst (pa_cons pe_int pa_nil)) (pe_gint (by rfl) T.c_ENVIRONMENTS)) rfl)))), ?_⟩
    walk_at "ro"
    refine ⟨szl rfl, fun L hL => ?_⟩
    have nxL : x ≠ L := ne_of_none upd_same hL
    have c1 : Chg x H (upd (upd H x (.ins C_Types dx (putF "_blocks" (.int (B : Int)) []))) L (.lst [])) := Chg.upd.trans (Same.chg (Same.new hL))
    have hx1 : upd (upd H x (.ins C_Types dx (putF "_blocks" (.int (B : Int)) []))) L (.lst []) x = some (.ins C_Types dx [("_blocks", .int (B : Int))]) := by rw [upd_ne nxL, upd_same]; rfl
    have hL1 : upd (upd H x (.ins C_Types dx (putF "_blocks" (.int (B : Int)) []))) L (.lst []) L = some (.lst []) := upd_same
    generalize upd (upd H x (.ins C_Types dx (putF "_blocks" (.int (B : Int)) []))) L (.lst []) = G1 at c1 hx1 hL1
    refine ⟨_, rfl, _, _, _, _, rfl, hx1, ho_Types, hn_Types__programs, Nat.le_of_ble_eq_true rfl, ?_⟩
    walk_at "ro"
    refine ⟨szl rfl, fun p hp => ?_⟩
    refine ⟨_, 4, _, rfl, rfl, upd_same, by decide, by decide, by decide, fun R hR => ?_⟩
    have c2 : Chg x H (upd G1 x (.ins C_Types dx (putF "_programs" (.ref L) [("_blocks", .int (B : Int))]))) := c1.trans Chg.upd
    have hx2 : upd G1 x (.ins C_Types dx (putF "_programs" (.ref L) [("_blocks", .int (B : Int))])) x = some (.ins C_Types dx [("_blocks", .int (B : Int)), ("_programs", .ref L)]) := by rw [upd_same]; rfl
    have hL2 : upd G1 x (.ins C_Types dx (putF "_programs" (.ref L) [("_blocks", .int (B : Int))])) L = some (.lst []) := by rw [upd_ne nxL.symm]; exact hL1
    generalize upd G1 x (.ins C_Types dx (putF "_programs" (.ref L) [("_blocks", .int (B : Int))])) = G2 at c2 hx2 hL2 hp hR
    have s3 := (Same.new (o := .lst [.int 0]) hp).trans (Same.new (o := .lst (List.replicate (Int.toNat 4) [V.int 0]).flatten) hR)
    have nxR : x ≠ R := ne_of_none (Same.new hp _ _ hx2) hR
    have nLR : L ≠ R := ne_of_none (Same.new hp _ _ hL2) hR
    refine ⟨_, rfl, _, _, _, _, rfl, s3 _ _ hx2, ho_Types, hn_Types__registered, Nat.le_of_ble_eq_true rfl, ?_⟩
    refine k L R _ ⟨⟨dx, upd_same⟩, ⟨[], by rw [upd_ne nxL.symm]; exact s3 _ _ hL2, .nil⟩, by rw [upd_ne nxR.symm]; exact upd_same, nLR⟩ ?_ ?_ ((c2.trans (Same.chg s3)).trans Chg.upd)
    · refine none_of (Chg.upd (a := x)) nxL.symm hL
    · refine none_of c2 nxR.symm ?_
      exact (Same.new hp).free hR
end
end My

namespace My
open PySem L2
local macro_rules | `(tactic| walk_at "ne") => `(tactic| first | assumption | exact Ne.symm (by assumption) | exact ne_of_none (by assumption) (by assumption) | exact Ne.symm (ne_of_none (by assumption) (by assumption)))
local macro_rules | `(tactic| walk_at "hp") => `(tactic| first | assumption | with_reducible exact upd_same | (with_reducible refine Eq.trans (upd_ne ?_) ?_; rotate_left; walk_at "hp"; walk_at "ne"))
local macro_rules | `(tactic| walk_at "cnd") => `(tactic| first | omega | (show (0 : Int) < _; omega) | exact ⟨by omega, by omega⟩ | exact Or.inl ⟨by omega, by omega⟩ | exact Or.inr ⟨by omega, by omega⟩ | exact ⟨by omega, by omega, by decide⟩ | exact ⟨by omega, by omega, by omega⟩)
local macro_rules | `(tactic| walk_at "at") => `(tactic| first | exact atC 0 rfl rfl | exact atC 1 rfl rfl | exact atC 2 rfl rfl | exact atC 3 rfl rfl | exact atC 4 rfl rfl | exact atC 5 rfl rfl | exact atC 6 rfl rfl | exact atC 7 rfl rfl)
local macro_rules | `(tactic| walk_at "ix") => `(tactic| first | exact ixC 0 rfl (Nat.le_of_ble_eq_true rfl) | exact ixC 1 rfl (Nat.le_of_ble_eq_true rfl) | exact ixC 2 rfl (Nat.le_of_ble_eq_true rfl) | exact ixC 3 rfl (Nat.le_of_ble_eq_true rfl) | exact ixC 4 rfl (Nat.le_of_ble_eq_true rfl) | exact ixC 5 rfl (Nat.le_of_ble_eq_true rfl))
local macro_rules | `(tactic| walk_at "st") => `(tactic| first
  | refine ⟨_, rfl, ?_⟩
  | refine ⟨_, _, rfl, rfl, (by walk_at "cnd" : (_ : Prop)), ?_⟩
  | refine ⟨_, _, rfl, rfl, ?_⟩
  | refine ⟨rfl, ?_⟩
  | refine Or.inl ⟨_, rfl, ?_⟩
  | refine ⟨_, _, _, _, rfl, rfl, by exact SqL.of (by walk_at "hp"), by walk_at "at", ?_⟩
  | refine ⟨_, _, _, _, rfl, rfl, by exact SqT.of (by walk_at "hp"), by walk_at "at", ?_⟩
  | refine ⟨_, _, _, _, rfl, rfl, by walk_at "hp", by walk_at "ix", ?_⟩
  | refine ⟨_, _, rfl, Or.inl (by exact SqL.of (by walk_at "hp")), ?_⟩
  | refine ⟨_, _, rfl, Or.inr (by exact SqT.of (by walk_at "hp")), ?_⟩)
local macro_rules | `(tactic| walk_at "so") => `(tactic| first
  | refine ⟨_, _, _, _, _, rfl, by walk_at "hp", by assumption, by assumption, rfl, ?_⟩
  | refine ⟨_, _, _, _, rfl, by walk_at "hp", by assumption, by assumption, Nat.le_of_ble_eq_true rfl, ?_⟩
  | refine ⟨_, _, _, rfl, by walk_at "hp", rfl, ?_⟩
  | walk_at "st")
local macro_rules | `(tactic| walk_at "ro") => `(tactic| repeat walk_at "so")
local macro_rules | `(tactic| walk_at "run") => `(tactic| repeat walk_at "st")

def spEnv : Sp := fun vs H Q _ => ∃ v d, vs = [v] ∧ Dt H v d ∧ Q (.bl (isI d 0 3)) H
theorem units65 {k : Nat} {A : Around} (r : Room k A) : A.units + 65 < cLine := by have := r.un; omega
theorem kInD {X : Cx} (K : PySem.W.Frag) (hu : X.A.units + 65 < cLine) (h : X.K = K := by rfl) : OpR X (compareOp .In) (rInD K) := by subst h; exact op_inD hu
theorem kIndexD {X : Cx} (K : PySem.W.Frag) (hu : X.A.units + 65 < cLine) (h : X.K = K := by rfl) : MtR X "list.index" (rIndexD K) := by subst h; exact mt_indexD hu
def isIn (ps : List (List Cl)) (d : PyData) : Bool := (ps.map pgD).any fun z => PyData.eqv z d
def fst (ps : List (List Cl)) (d : PyData) : Nat := (ps.map pgD).findIdx fun z => PyData.eqv z d
def Chg2 (L R : Addr) (H H' : Hp) : Prop := ∀ b o, b ≠ L → b ≠ R → H b = some o → H' b = some o
theorem sh_cl (c : Cl) : Sh 4 (clD c) := by
  refine Sh.tup (n := 3) fun d hd => ?_
  simp only [List.mem_cons, List.not_mem_nil, or_false] at hd
  rcases hd with rfl | rfl | rfl | rfl
  · refine Sh.tup (n := 2) fun d hd => ?_
    obtain ⟨r, _, rfl⟩ := List.mem_map.mp hd
    refine Sh.tup (n := 1) fun d hd => ?_
    simp only [List.mem_cons, List.not_mem_nil, or_false] at hd
    rcases hd with rfl | rfl | rfl <;> exact Sh.int _ _
  · exact Sh.int _ _
  · cases c.2.2.1 with
    | inl n => exact Sh.int _ _
    | inr i =>
      refine Sh.tup (n := 2) fun d hd => ?_
      simp only [List.mem_cons, List.not_mem_nil, or_false] at hd
      rcases hd with rfl | rfl
      · exact ⟨by decide +kernel, by decide +kernel⟩
      · exact Sh.int _ _
  · cases c.2.2.2 with
    | none => exact ⟨by decide +kernel, by decide +kernel⟩
    | some n => exact Sh.int _ _
theorem sh_pg (cs : List Cl) : Sh 5 (pgD cs) := Sh.tup (n := 4) fun d hd => by
  obtain ⟨c, _, rfl⟩ := List.mem_map.mp hd
  exact sh_cl c
theorem sh_pgs (ps : List (List Cl)) : Sh 6 (.list (ps.map pgD)) := Sh.lst (n := 5) fun d hd => by
  obtain ⟨c, _, rfl⟩ := List.mem_map.mp hd
  exact sh_pg c
def spAdd (C : Addr) : Sp := fun vs H Q _ => ∃ x L R B ps rs v d, ∃ e : Nat, vs = [.ref x, v, .int e] ∧ Ty C H x L R B ps rs ∧ Dt H v d ∧ e < 4 ∧ rs.length = 4 ∧ ps.length ≤ 100 ∧ (∀ ds, d = .tuple ds → ∀ c ∈ ds, ClFit c) ∧
  (isPg (2 + ps.length : Nat) d = false → ∀ H', Same H H' → Q .non H') ∧
  (isPg (2 + ps.length : Nat) d = true → ∃ cs, d = pgD cs ∧ (isIn ps d = true → ∀ H', Same H H' → Q (.int ((2 + fst ps d : Nat) : Int)) H') ∧ (isIn ps d = false → rs.getD e 0 = 4 → ∀ H', Same H H' → Q .non H') ∧
    (isIn ps d = false → rs.getD e 0 ≠ 4 → ∀ H', Ty C H' x L R B (ps ++ [cs]) (rs.set e (rs.getD e 0 + 1)) → Chg2 L R H H' → Q (.int ((2 + ps.length : Nat) : Int)) H'))
section
variable {P : Program} {w : World} {K : PySem.W.Frag} {mg : Str → Option Value} {base : Heap} {C_Types C_NotValid : Addr}
abbrev s_is_environment : Stmt := topS 10
abbrev ns_is_environment : List Str := ["value"]
theorem sc_is_environment : FnScope ns_is_environment ["value"] (defScope s_is_environment) := ⟨rfl, rfl, rfl, by decide +kernel, rfl, by decide +kernel, by decide +kernel⟩

theorem ok_is_environment {f : Addr} {fd : FuncData} (F : Fun K "is_environment" "is_environment" s_is_environment f fd) (T : Txt K mg C_Types C_NotValid) (D_is_index : Dfn P w K mg base CX0 3 "is_index" ["value", "many"] spIdx) : FnOk P w K mg base CX0 4 f fd ["value"] spEnv := by
  refine F.ok sc_is_environment (fun vs H Q E h => ?_) (fun cdv A outer s H vs Q E hr h => ?_)
  · obtain ⟨v, d, rfl, _⟩ := h
    rfl
  · obtain ⟨v, d, rfl, hd, k⟩ := h
    refine ⟨_, (pss_one (ps_ret (pe_dcall D_is_index (hr.mono (by decide)) (by rfl) pass0 (pa_cons (pv 0) (pa_cons (pe_gint (by rfl) T.c_ENVIRONMENTS) pa_nil))))), ?_⟩
    walk_at "run"
    exact ⟨_, d, _, rfl, hd, k⟩
abbrev s_Types_add : Stmt := inClass (topS 32) 1
abbrev ns_Types_add : List Str := ["self", "program", "environment"]
theorem sc_Types_add : FnScope ns_Types_add ["self", "program", "environment"] (defScope s_Types_add) := ⟨rfl, rfl, rfl, by decide +kernel, rfl, by decide +kernel, by decide +kernel⟩

theorem ok_Types_add {f : Addr} {fd : FuncData} (F : Fun K "add" "Types.add" s_Types_add f fd) (T : Txt K mg C_Types C_NotValid) (D_is_environment : Dfn P w K mg base CX0 4 "is_environment" ["value"] spEnv) (D_is_program : Dfn P w K mg base CX0 6 "is_program" ["value", "count"] spPg) (D_Types_count : Mth P w K mg base CX0 1 C_Types "count" ["self"] (spCnt C_Types)) : FnOk P w K mg base (L2.CX P w) 7 f fd ["self", "program", "environment"] (spAdd C_Types) := by
  have ho_Types := T.o_Types; have hn_Types__blocks := T.n_Types__blocks; have hn_Types__programs := T.n_Types__programs; have hn_Types__registered := T.n_Types__registered
  refine F.okX sc_Types_add (fun vs H Q E h => ?_) (fun cdv A outer s H vs Q E hr h => ?_)
  · obtain ⟨x, L, R, B, ps, rs, v, d, e, rfl, _⟩ := h
    rfl
  · obtain ⟨x, L, R, B, ps, rs, v, d, e, rfl, ty, hd, he, hrs, hps, hfit, k1, k2⟩ := h
    obtain ⟨dx, h1⟩ := ty.ins
    refine ⟨_, (pss_cons (ps_if (pt_not (pt_val (pe_dcall D_is_environment (hr.mono (by decide)) (by rfl) pass0 (pa_cons (pv 2) pa_nil)))) (pss_one (ps_raise (by rfl) (takes_of rfl rfl rfl rfl) (pmk_x T.x_NotValid (by rfl)))) pss_nil)
  (pss_cons (ps_if (pt_not (pt_val (pe_dcall D_is_program (hr.mono (by decide)) (by rfl) pass0 (pa_cons (pv 1) (pa_cons (pe_dmeth0 (pv 0) D_Types_count (hr.mono (by decide)) pass0 ) pa_nil))))) (pss_one (ps_ret pe_non)) pss_nil)
  (pss_cons (ps_if (pt_cmpR (kInD K (units65 hr)) (pv 1) (kFld K (pv 0) rfl) (by rfl)) (pss_one (ps_ret (pe_op op_add (pe_gint (by rfl) T.c__FIRST_OF_PROGRAMS) (kBM K PySem.F.plainAttrs_list PySem.F.slot_list_index PySem.F.type_list_index (kIndexD K (units65 hr)) (kFld K (pv 0) rfl) (pa_cons (pv 1) pa_nil))))) pss_nil)
  (pss_cons (ps_if (pt_cmpR op_eq (pe_ix (kIxL K) (kFld K (pv 0) rfl) (pv 2) (fun _ _ => rfl)) (pe_gint (by rfl) T.c_MOST_TYPES) (nomark _)) (pss_one (ps_ret pe_non)) pss_nil)
  (pss_cons (ps_expr (kBM K PySem.F.plainAttrs_list PySem.F.slot_list_append PySem.F.type_list_append mt_append (kFld K (pv 0) rfl) (pa_cons (pv 1) pa_nil)))
  (pss_cons (ps_augS (kFld K (pv 0) rfl) (pv 2) (kGetL K) pe_int ip_add set_list)
  (pss_one (ps_ret (pe_op op_sub (pe_dmeth0 (pv 0) D_Types_count (hr.mono (by decide)) pass0 ) pe_int))))))))), ?_⟩
    refine ⟨_, rfl, _, .int (e : Int), rfl, .int _, _, rfl, ?_⟩
    have ev : isI (.int (e : Int)) 0 3 = true := isI_nat (lo := 0) (hi := 3) (by omega) (by omega)
    rw [ev]
    refine iteF ?_
    walk_at "ro"
    refine ⟨x, L, R, B, ps, rs, rfl, ty, ?_⟩
    refine ⟨v, d, _, rfl, hd, hfit, fun H1 s1 => ?_⟩
    have ty1 := ty.same s1
    have hd1 := hd.same s1
    cases e1 : isPg (2 + ps.length : Nat) d with
    | false => exact ⟨_, rfl, iteT (k1 e1 H1 s1)⟩
    | true =>
      refine ⟨_, rfl, iteF ?_⟩
      obtain ⟨cs, rfl, q1, q2, q3⟩ := k2 e1
      obtain ⟨⟨dx, h1⟩, ⟨xs, h2, h3⟩, h4, h5⟩ := ty1
      walk_at "ro"
      refine ⟨pgD cs, ps.map pgD, hd1.dp, (Dt.lst h2 h3).dp, (sh_pg cs).ok, (sh_pgs ps).ok, ?_⟩
      refine ⟨_, rfl, ?_⟩
      cases e2 : isIn ps (pgD cs) with
      | true =>
        have e2' : ((ps.map pgD).any fun z => PyData.eqv z (pgD cs)) = true := e2
        rw [e2']
        refine iteT ?_
        walk_at "ro"
        refine ⟨.inl ⟨rfl, _, SqL.of h2⟩, ?_⟩
        walk_at "ro"
        have hlt : fst ps (pgD cs) < (ps.map pgD).length := by
          refine List.findIdx_lt_length.mpr ?_
          obtain ⟨z, hz, hz2⟩ := List.any_eq_true.mp e2'
          exact ⟨z, hz, hz2⟩
        refine ⟨L, v, pgD cs, ps.map pgD, fst ps (pgD cs), _, rfl, rfl, (Dt.lst h2 h3).dp, hd1.dp, (sh_pgs ps).ok, (sh_pg cs).ok, List.getElem?_eq_getElem hlt, List.findIdx_getElem (p := fun z => PyData.eqv z (pgD cs)) (xs := ps.map pgD) (w := hlt), fun m z' hm hz' => ?_, ?_⟩
        · have hml : m < (ps.map pgD).length := by omega
          have := List.not_of_lt_findIdx hm
          rw [List.getElem?_eq_getElem hml] at hz'
          rw [← Option.some.inj hz']
          simpa using this
        · walk_at "ro"
          exact q1 e2 H1 s1
      | false =>
        have e2' : ((ps.map pgD).any fun z => PyData.eqv z (pgD cs)) = false := e2
        rw [e2']
        refine iteF ?_
        walk_at "ro"
        refine ⟨_, _, _, _, rfl, rfl, SqL.of h4, atC e rfl (getVN (by omega)), ?_⟩
        walk_at "ro"
        refine iteD (fun e3 => ?_) (fun e3 => ?_)
        · have z : rs.getD e 0 = 4 := by
            have q : ((rs.getD e 0 : Nat) : Int) = 4 := by injection e3
            omega
          exact q2 e2 z H1 s1
        · have z : rs.getD e 0 ≠ 4 := fun q => e3 (by rw [q]; rfl)
          have nLx : L ≠ x := ne_of h2 h1 (by intro q; cases q)
          have nRx : R ≠ x := ne_of h4 h1 (by intro q; cases q)
          have xl : xs.length = ps.length := by rw [h3.len, List.length_map]
          walk_at "ro"
          refine ⟨.inl ⟨rfl, _, SqL.of h2⟩, ?_⟩
          walk_at "ro"
          refine ⟨_, _, _, rfl, rfl, h2, szt (by omega), ?_⟩
          have h1' : upd H1 L (.lst (xs ++ [v])) x = some (.ins C_Types dx [("_blocks", .int (B : Int)), ("_programs", .ref L), ("_registered", .ref R)]) := by rw [upd_ne nLx.symm]; exact h1
          have h4' : upd H1 L (.lst (xs ++ [v])) R = some (.lst (rs.map vN)) := by rw [upd_ne h5.symm]; exact h4
          have h2' : upd H1 L (.lst (xs ++ [v])) L = some (.lst (xs ++ [v])) := upd_same
          have h3' : DtAll (upd H1 L (.lst (xs ++ [v]))) (xs ++ [v]) ((ps ++ [cs]).map pgD) := by
            rw [List.map_append]
            exact (h3.append (.cons hd1 .nil)).ts (Chg.upd.ts h2) (by rw [← List.map_append (f := pgD) (l₂ := [cs])]; exact pgs_tonly _)
          have c12 : Chg2 L R H (upd H1 L (.lst (xs ++ [v]))) := fun b o n1 n2 h => by
            rw [upd_ne n1]
            exact s1 b o h
          generalize upd H1 L (.lst (xs ++ [v])) = G at h1' h2' h3' h4' c12
          walk_at "ro"
          refine ⟨_, _, _, _, rfl, rfl, SqL.of h4', atC e rfl (getVN (by omega)), ?_⟩
          refine ⟨_, _, rfl, rfl, ?_⟩
          refine ⟨_, _, _, e, rfl, rfl, h4', ixC e rfl (by rw [List.length_map]; omega), ?_⟩
          have er : (rs.map vN).set e (V.int ((rs.getD e 0 : Nat) + 1 : Int)) = (rs.set e (rs.getD e 0 + 1)).map vN := by rw [List.map_set]; rfl
          rw [er]
          have h1'' : upd G R (.lst ((rs.set e (rs.getD e 0 + 1)).map vN)) x = some (.ins C_Types dx [("_blocks", .int (B : Int)), ("_programs", .ref L), ("_registered", .ref R)]) := by rw [upd_ne nRx.symm]; exact h1'
          have ty2 : Ty C_Types (upd G R (.lst ((rs.set e (rs.getD e 0 + 1)).map vN))) x L R B (ps ++ [cs]) (rs.set e (rs.getD e 0 + 1)) :=
            ⟨⟨dx, h1''⟩, ⟨_, by rw [upd_ne h5]; exact h2', h3'.ts (Chg.upd.ts h4') (pgs_tonly _)⟩, upd_same, h5⟩
          walk_at "ro"
          refine ⟨x, L, R, B, ps ++ [cs], _, rfl, ty2, ?_⟩
          walk_at "ro"
          have k3 := q3 e2 z _ ty2 fun b o n1 n2 h => by
            rw [upd_ne n2]
            exact c12 b o n1 n2 h
          have el : ((2 + (ps ++ [cs]).length : Nat) : Int) - 1 = ((2 + ps.length : Nat) : Int) := by rw [List.length_append]; show ((2 + (ps.length + 1) : Nat) : Int) - 1 = _; omega
          rw [← el] at k3
          exact k3
end
end My

namespace My
open PySem L2
local macro_rules | `(tactic| walk_at "ne") => `(tactic| first | assumption | exact Ne.symm (by assumption) | exact ne_of_none (by assumption) (by assumption) | exact Ne.symm (ne_of_none (by assumption) (by assumption)))
local macro_rules | `(tactic| walk_at "hp") => `(tactic| first | assumption | with_reducible exact upd_same | (with_reducible refine Eq.trans (upd_ne ?_) ?_; rotate_left; walk_at "hp"; walk_at "ne"))
local macro_rules | `(tactic| walk_at "cnd") => `(tactic| first | omega | (show (0 : Int) < _; omega) | exact ⟨by omega, by omega⟩ | exact Or.inl ⟨by omega, by omega⟩ | exact Or.inr ⟨by omega, by omega⟩ | exact ⟨by omega, by omega, by decide⟩ | exact ⟨by omega, by omega, by omega⟩)
local macro_rules | `(tactic| walk_at "at") => `(tactic| first | exact atC 0 rfl rfl | exact atC 1 rfl rfl | exact atC 2 rfl rfl | exact atC 3 rfl rfl | exact atC 4 rfl rfl | exact atC 5 rfl rfl | exact atC 6 rfl rfl | exact atC 7 rfl rfl)
local macro_rules | `(tactic| walk_at "ix") => `(tactic| first | exact ixC 0 rfl (Nat.le_of_ble_eq_true rfl) | exact ixC 1 rfl (Nat.le_of_ble_eq_true rfl) | exact ixC 2 rfl (Nat.le_of_ble_eq_true rfl) | exact ixC 3 rfl (Nat.le_of_ble_eq_true rfl) | exact ixC 4 rfl (Nat.le_of_ble_eq_true rfl) | exact ixC 5 rfl (Nat.le_of_ble_eq_true rfl))
local macro_rules | `(tactic| walk_at "st") => `(tactic| first
  | refine ⟨_, rfl, ?_⟩
  | refine ⟨_, _, rfl, rfl, (by walk_at "cnd" : (_ : Prop)), ?_⟩
  | refine ⟨_, _, rfl, rfl, ?_⟩
  | refine ⟨rfl, ?_⟩
  | refine Or.inl ⟨_, rfl, ?_⟩
  | refine ⟨_, _, _, _, rfl, rfl, by exact SqL.of (by walk_at "hp"), by walk_at "at", ?_⟩
  | refine ⟨_, _, _, _, rfl, rfl, by exact SqT.of (by walk_at "hp"), by walk_at "at", ?_⟩
  | refine ⟨_, _, _, _, rfl, rfl, by walk_at "hp", by walk_at "ix", ?_⟩
  | refine ⟨_, _, rfl, Or.inl (by exact SqL.of (by walk_at "hp")), ?_⟩
  | refine ⟨_, _, rfl, Or.inr (by exact SqT.of (by walk_at "hp")), ?_⟩)
local macro_rules | `(tactic| walk_at "so") => `(tactic| first
  | refine ⟨_, _, _, _, _, rfl, by walk_at "hp", by assumption, by assumption, rfl, ?_⟩
  | refine ⟨_, _, _, _, rfl, by walk_at "hp", by assumption, by assumption, Nat.le_of_ble_eq_true rfl, ?_⟩
  | refine ⟨_, _, _, rfl, by walk_at "hp", rfl, ?_⟩
  | walk_at "st")
local macro_rules | `(tactic| walk_at "ro") => `(tactic| repeat walk_at "so")
local macro_rules | `(tactic| walk_at "run") => `(tactic| repeat walk_at "st")

/-! ### what blocks own -/
def PS : List (List Cl) := [[([], 0, .inl 2, none), ([], 2, .inl 2, some 0)], [([(7, 255, 1)], 0, .inl 4, some 0)]]
abbrev OL := List (Nat × Nat)
def rootO (ws : List Nat) (B : Nat) : Option OL := if ws.getD 0 0 = 0 then some [] else if ((decide (4 ≤ ws.getD 0 0) && decide (ws.getD 0 0 < B)) && (decide (ws.getD 1 0 < 4) && !decide (ws.getD 1 0 = 1))) = true then some [(ws.getD 0 0, ws.getD 1 0)] else none
def fitO (B : Nat) (os : OL) : Option OL := if fits B os = true then some os else none
def ownO (n : Nat) (ws : List Nat) (B : Nat) : Option OL := if n = 0 then some [] else if n = 1 then rootO ws B else fitO B (ownedAll ws n (PS.getD (n - 2) []))
def optD : Option OL → PyData
  | none => .none
  | some os => .tuple (os.map oD)
theorem ownD_is (n : Nat) (ws : List Nat) (B : Nat) : ownD n PS ws B = optD (ownO n ws B) := by
  unfold ownD ownO
  by_cases h0 : n = 0
  · rw [if_pos h0, if_pos h0]; rfl
  · rw [if_neg h0, if_neg h0]
    by_cases h1 : n = 1
    · rw [if_pos h1, if_pos h1]
      unfold rootD rootO
      by_cases h2 : ws.getD 0 0 = 0
      · rw [if_pos h2, if_pos h2]; rfl
      · rw [if_neg h2, if_neg h2]
        show (if ((decide (4 ≤ ws.getD 0 0) && decide (ws.getD 0 0 < B)) && (decide (ws.getD 1 0 < 4) && !decide (ws.getD 1 0 = 1))) = true then _ else _) = _
        split <;> rfl
    · rw [if_neg h1, if_neg h1]
      unfold runD fitO
      split <;> rfl
def lawL (n : Nat) (ws : List Nat) : OL :=
  if n = 1 then (if ws.getD 0 0 = 0 then [] else [(ws.getD 0 0, ws.getD 1 0)]) else
  if n = 2 then (nz (ws.take 2)).map (fun x => (x, 2)) ++ (nz ((ws.drop 2).take 2)).map (fun x => (x, 0)) else
  if n = 3 ∧ ws.getD 7 0 % 256 = 1 then (nz (ws.take 4)).map (fun x => (x, 0)) else []
def badRoot (n : Nat) (ws : List Nat) : Prop := n = 1 ∧ ws.getD 0 0 ≠ 0 ∧ ¬ (ws.getD 1 0 = 0 ∨ ws.getD 1 0 = 2 ∨ ws.getD 1 0 = 3)
theorem fits_nil (B : Nat) : fits B [] = true := rfl
theorem fits_one (B b k : Nat) : fits B [(b, k)] = (decide (4 ≤ b) && decide (b < B)) := by
  unfold fits
  simp
theorem lawO_bad {n B : Nat} {ws : List Nat} (h : badRoot n ws) : ownO n ws B = none := by
  obtain ⟨rfl, h0, h1⟩ := h
  show rootO ws B = none
  unfold rootO
  rw [if_neg h0, if_neg]
  intro q
  simp only [Bool.and_eq_true, decide_eq_true_eq, Bool.not_eq_true', decide_eq_false_iff_not] at q
  omega
theorem lawO_fit {n B : Nat} {ws : List Nat} (hn : n ≤ 3) (h : ¬ badRoot n ws) : ownO n ws B = fitO B (lawL n ws) := by
  have hc : n = 0 ∨ n = 1 ∨ n = 2 ∨ n = 3 := by omega
  rcases hc with rfl | rfl | rfl | rfl
  · rfl
  · show rootO ws B = fitO B (if ws.getD 0 0 = 0 then [] else [(ws.getD 0 0, ws.getD 1 0)])
    unfold rootO
    by_cases h0 : ws.getD 0 0 = 0
    · rw [if_pos h0, if_pos h0]; rfl
    · rw [if_neg h0, if_neg h0]
      unfold fitO
      rw [fits_one]
      have h1 : ws.getD 1 0 = 0 ∨ ws.getD 1 0 = 2 ∨ ws.getD 1 0 = 3 := by
        apply Classical.byContradiction
        intro q
        exact h ⟨rfl, h0, q⟩
      have e : (decide (ws.getD 1 0 < 4) && !decide (ws.getD 1 0 = 1)) = true := by
        rcases h1 with e | e | e <;> rw [e] <;> rfl
      rw [e, Bool.and_true]
  · show fitO B (ownedAll ws 2 (PS.getD 0 [])) = fitO B ((nz (ws.take 2)).map (fun x => (x, 2)) ++ (nz ((ws.drop 2).take 2)).map (fun x => (x, 0)))
    congr 1
    show owned ws 2 ([], 0, .inl 2, none) ++ (owned ws 2 ([], 2, .inl 2, some 0) ++ []) = _
    rw [List.append_nil]; rfl
  · show fitO B (ownedAll ws 3 (PS.getD 1 [])) = fitO B (if 3 = 3 ∧ ws.getD 7 0 % 256 = 1 then (nz (ws.take 4)).map (fun x => (x, 0)) else [])
    congr 1
    show owned ws 3 ([(7, 255, 1)], 0, .inl 4, some 0) ++ [] = _
    rw [List.append_nil]
    unfold owned
    have e : passB [(7, 255, 1)] ws = decide (ws.getD 7 0 % 256 = 1) := by
      show (decide (ws.getD 7 0 &&& 255 = 1) && true) = _
      rw [Bool.and_true, Nat.and_two_pow_sub_one_eq_mod (ws.getD 7 0) 8]
    show (if passB [(7, 255, 1)] ws = true then _ else _) = _
    rw [e]
    by_cases q : ws.getD 7 0 % 256 = 1
    · rw [if_pos (decide_eq_true q), if_pos ⟨rfl, q⟩]; rfl
    · rw [if_neg (by rw [decide_eq_false q]; decide), if_neg (fun z => q z.2)]
theorem nz_len (ws : List Nat) : (nz ws).length ≤ ws.length := List.length_filter_le _ _
theorem lawL_len (n : Nat) (ws : List Nat) : (lawL n ws).length ≤ 4 := by
  unfold lawL
  split
  · split
    · exact Nat.zero_le _
    · exact (by decide : 1 ≤ 4)
  · split
    · rw [List.length_append, List.length_map, List.length_map]
      have a := nz_len (ws.take 2)
      have b := nz_len ((ws.drop 2).take 2)
      have c := List.length_take_le 2 ws
      have d := List.length_take_le 2 (ws.drop 2)
      omega
    · split
      · rw [List.length_map]
        have a := nz_len (ws.take 4)
        have c := List.length_take_le 4 ws
        omega
      · exact Nat.zero_le _
theorem lawL_kind {n : Nat} {ws : List Nat} (h : ¬ badRoot n ws) : ∀ o ∈ lawL n ws, o.2 ≤ 3 := by
  intro o ho
  unfold lawL at ho
  split at ho
  · rename_i h1
    split at ho
    · cases ho
    · rename_i h0
      rw [List.mem_singleton] at ho
      subst ho
      have h1 : ws.getD 1 0 = 0 ∨ ws.getD 1 0 = 2 ∨ ws.getD 1 0 = 3 := by
        apply Classical.byContradiction
        intro q
        exact h ⟨h1, h0, q⟩
      show ws.getD 1 0 ≤ 3
      omega
  · split at ho
    · rcases List.mem_append.mp ho with ho | ho <;> obtain ⟨x, _, rfl⟩ := List.mem_map.mp ho <;> first | exact (by decide : 2 ≤ 3) | exact (by decide : 0 ≤ 3)
    · split at ho
      · obtain ⟨x, _, rfl⟩ := List.mem_map.mp ho; exact (by decide : 0 ≤ 3)
      · cases ho
theorem ownO_ok {n B : Nat} {ws : List Nat} {l : OL} (hn : n ≤ 3) (h : ownO n ws B = some l) : l.length ≤ 4 ∧ ∀ o ∈ l, 4 ≤ o.1 ∧ o.1 < B ∧ o.2 ≤ 3 := by
  by_cases hb : badRoot n ws
  · rw [lawO_bad hb] at h; cases h
  · rw [lawO_fit hn hb] at h
    unfold fitO at h
    split at h
    · rename_i hf
      cases h
      refine ⟨lawL_len n ws, fun o ho => ?_⟩
      unfold fits at hf
      rw [Bool.and_eq_true, List.all_eq_true] at hf
      have q := hf.1 o ho
      rw [Bool.and_eq_true, decide_eq_true_eq, decide_eq_true_eq] at q
      exact ⟨q.1, q.2, lawL_kind hb o ho⟩
    · cases h
/-! ### the search -/
abbrev Row := Nat × Option Nat × Nat
def onD : Option Nat → PyData
  | none => .none
  | some n => .int (n : Int)
def rvD (r : Row) : PyData := .tuple [onD r.2.1, .int (r.2.2 : Int)]
def rwD (r : Row) : PyData := .tuple [.int (r.1 : Int), onD r.2.1, .int (r.2.2 : Int)]
def kids (b : Nat) (l : OL) : List Row := l.map fun o => (o.1, some b, o.2)
def bls (rows : List Row) : List Nat := rows.map (·.1)
inductive Res where
  | ok (rows : List Row)
  | bad (w : Str) (b : Nat)
open Classical in
noncomputable def gr (img : List (List Nat)) (seen : List Nat) : Nat → List Row → Nat → Res
  | 0, rows, _ => .ok rows
  | f + 1, rows, i => match rows[i]? with
    | none => .ok rows
    | some r => if r.1 ∈ seen ∨ r.1 ∈ bls (rows.take i) then .bad "twice" r.1 else match ownO r.2.2 (img.getD r.1 []) img.length with
      | none => .bad "ill" r.1
      | some l => gr img seen f (rows ++ kids r.1 l) (i + 1)
structure WI (img : List (List Nat)) (seen : List Nat) (R : Res) (f : Nat) (rows : List Row) (i : Nat) : Prop where
  g : gr img seen f rows i = R
  le : i ≤ rows.length
  ln : rows.length ≤ 1 + 4 * i
  nd : (seen ++ bls (rows.take i)).Nodup
  ok : ∀ r ∈ rows, r.1 < img.length ∧ r.2.2 ≤ 3
  sl : ∀ s ∈ seen, s < img.length
theorem pigeon : ∀ (n : Nat) (l : List Nat), l.Nodup → (∀ x ∈ l, x < n) → l.length ≤ n
  | 0, l, _, h => by
    cases l with
    | nil => exact Nat.le_refl _
    | cons a l => exact absurd (h a List.mem_cons_self) (Nat.not_lt_zero _)
  | n + 1, l, nd, h => by
    by_cases hm : n ∈ l
    · have q := pigeon n (l.erase n) (nd.erase n) fun x hx => by
        have := (nd.mem_erase_iff).mp hx
        have := h x this.2
        omega
      have e := List.length_erase_of_mem hm
      have : 0 < l.length := List.length_pos_of_mem hm
      omega
    · refine Nat.le_succ_of_le (pigeon n l nd fun x hx => ?_)
      have := h x hx
      have : x ≠ n := fun e => hm (by rw [← e]; exact hx)
      omega
namespace WI
variable {img : List (List Nat)} {seen : List Nat} {R : Res} {f i : Nat} {rows : List Row} {r : Row} {l : OL}
theorem lim (I : WI img seen R f rows i) : seen.length + i ≤ img.length := by
  have q := pigeon img.length _ I.nd fun x hx => by
    rcases List.mem_append.mp hx with h | h
    · exact I.sl x h
    · obtain ⟨r, hr, rfl⟩ := List.mem_map.mp h
      exact (I.ok r (List.mem_of_mem_take hr)).1
  have e : (bls (rows.take i)).length = i := by
    unfold bls
    rw [List.length_map, List.length_take]
    have := I.le
    omega
  rw [List.length_append, e] at q
  exact q
theorem twice (I : WI img seen R (f + 1) rows i) (hr : rows[i]? = some r) (h : r.1 ∈ seen ∨ r.1 ∈ bls (rows.take i)) : R = .bad "twice" r.1 := by
  rw [← I.g]
  unfold gr
  rw [hr]
  show (if _ then _ else _) = _
  rw [if_pos h]
theorem ill (I : WI img seen R (f + 1) rows i) (hr : rows[i]? = some r) (h : ¬ (r.1 ∈ seen ∨ r.1 ∈ bls (rows.take i))) (ho : ownO r.2.2 (img.getD r.1 []) img.length = none) : R = .bad "ill" r.1 := by
  rw [← I.g]
  unfold gr
  rw [hr]
  show (if _ then _ else _) = _
  rw [if_neg h, ho]
theorem step (I : WI img seen R (f + 1) rows i) (hr : rows[i]? = some r) (h : ¬ (r.1 ∈ seen ∨ r.1 ∈ bls (rows.take i))) (ho : ownO r.2.2 (img.getD r.1 []) img.length = some l) : WI img seen R f (rows ++ kids r.1 l) (i + 1) := by
  have hi := (List.getElem?_eq_some_iff.mp hr).1
  have hm := List.mem_of_getElem? hr
  obtain ⟨r1, r2⟩ := I.ok r hm
  obtain ⟨l4, lo⟩ := ownO_ok r2 ho
  have e : (rows ++ kids r.1 l).take (i + 1) = rows.take i ++ [r] := by
    rw [List.take_append_of_le_length (by omega), take_snoc hr]
  refine ⟨?_, ?_, ?_, ?_, ?_, I.sl⟩
  · rw [← I.g]
    conv => rhs; unfold gr
    rw [hr]
    show _ = (if _ then _ else _)
    rw [if_neg h, ho]
  · rw [List.length_append]; omega
  · have := I.ln
    rw [List.length_append]
    unfold kids
    rw [List.length_map]; omega
  · rw [e]
    unfold bls
    rw [List.map_append, ← List.append_assoc]
    refine List.nodup_append.mpr ⟨I.nd, by simp, fun x hx y hy e => ?_⟩
    rw [List.map_cons, List.map_nil, List.mem_singleton] at hy
    exact h (by rw [← hy, ← e]; exact List.mem_append.mp hx)
  · intro q hq
    rcases List.mem_append.mp hq with hq | hq
    · exact I.ok q hq
    · obtain ⟨o, ho', rfl⟩ := List.mem_map.mp hq
      exact ⟨(lo o ho').2.1, (lo o ho').2.2⟩
theorem fin (I : WI img seen R f rows i) (h : rows.length ≤ i) : R = .ok rows ∧ (seen ++ bls rows).Nodup := by
  have e : rows.take i = rows := List.take_of_length_le h
  refine ⟨?_, by have := I.nd; rw [e] at this; exact this⟩
  rw [← I.g]
  cases f with
  | zero => rfl
  | succ f =>
    unfold gr
    rw [List.getElem?_eq_none h]
theorem start {e : Nat} (he : e < img.length) (nd : seen.Nodup) (sl : ∀ s ∈ seen, s < img.length) : WI img seen (gr img seen 300 [(e, none, 1)] 0) 300 [(e, none, 1)] 0 :=
  ⟨rfl, Nat.zero_le _, Nat.le_refl _, by show (seen ++ []).Nodup; rw [List.append_nil]; exact nd, fun r hr => by rw [List.mem_singleton] at hr; subst hr; exact ⟨he, (by decide : 1 ≤ 3)⟩, sl⟩
end WI
abbrev R4 := (Str × Nat) ⊕ List (List Row)
noncomputable def goE (img : List (List Nat)) : List Nat → List Nat → List (List Row) → R4
  | [], _, acc => .inr acc
  | e :: es, seen, acc => match gr img seen 300 [(e, none, 1)] 0 with
    | .bad w b => .inl (w, b)
    | .ok rows => goE img es (seen ++ bls rows) (acc ++ [rows])
noncomputable def allE (img : List (List Nat)) : R4 := goE img [0, 1, 2, 3] [] []
def blss (rss : List (List Row)) : List Nat := rss.flatMap bls
structure EI (img : List (List Nat)) (i : Nat) (seen : List Nat) (acc : List (List Row)) : Prop where
  g : goE img ([0, 1, 2, 3].drop i) seen acc = allE img
  al : acc.length = i
  se : seen = blss acc
  nd : seen.Nodup
  sl : ∀ s ∈ seen, s < img.length
theorem EI.start (img : List (List Nat)) : EI img 0 [] [] := ⟨rfl, rfl, rfl, .nil, fun _ h => (by cases h)⟩
theorem drop4 {i : Nat} (h : i < 4) : [0, 1, 2, 3].drop i = i :: [0, 1, 2, 3].drop (i + 1) := by
  have hc : i = 0 ∨ i = 1 ∨ i = 2 ∨ i = 3 := by omega
  rcases hc with rfl | rfl | rfl | rfl <;> rfl
theorem EI.bad {img : List (List Nat)} {i : Nat} {seen : List Nat} {acc : List (List Row)} {w : Str} {b : Nat} (I : EI img i seen acc) (h4 : i < 4) (h : gr img seen 300 [(i, none, 1)] 0 = .bad w b) : allE img = .inl (w, b) := by
  rw [← I.g, drop4 h4]
  unfold goE
  rw [h]
theorem EI.next {img : List (List Nat)} {i : Nat} {seen : List Nat} {acc : List (List Row)} {rows : List Row} (I : EI img i seen acc) (h4 : i < 4) (h : gr img seen 300 [(i, none, 1)] 0 = .ok rows) (nd : (seen ++ bls rows).Nodup) (ok : ∀ r ∈ rows, r.1 < img.length) : EI img (i + 1) (seen ++ bls rows) (acc ++ [rows]) := by
  refine ⟨?_, by rw [List.length_append, I.al]; rfl, ?_, nd, fun s hs => ?_⟩
  · rw [← I.g, drop4 h4]
    conv => rhs; unfold goE
    rw [h]
  · rw [I.se]
    unfold blss
    rw [List.flatMap_append]
    simp
  · rcases List.mem_append.mp hs with hs | hs
    · exact I.sl s hs
    · obtain ⟨r, hr, rfl⟩ := List.mem_map.mp hs
      exact ok r hr
theorem EI.fin {img : List (List Nat)} {seen : List Nat} {acc : List (List Row)} (I : EI img 4 seen acc) : allE img = .inr acc := by
  rw [← I.g]; rfl
/-! ### the dicts -/
def entD (rows : List Row) (vs : List V) : List (Key × V) := (rows.zip vs).map fun p => (.inl (p.1.1 : Int), p.2)
def elD (seen : List Nat) : List (Key × V) := seen.map fun b : Nat => (.inl (b : Int), .bl true)
theorem entD_snoc {rows : List Row} {vs : List V} (h : vs.length = rows.length) (r : Row) (v : V) : entD (rows ++ [r]) (vs ++ [v]) = entD rows vs ++ [(.inl (r.1 : Int), v)] := by
  unfold entD
  rw [List.zip_append h.symm, List.map_append]; rfl
theorem entD_len {rows : List Row} {vs : List V} (h : vs.length = rows.length) : (entD rows vs).length = rows.length := by
  unfold entD
  rw [List.length_map, List.length_zip, h, Nat.min_self]
theorem keyI {a b : Nat} : (((Sum.inl (a : Int) : Key)) = .inl (b : Int)) ↔ a = b := by
  constructor
  · intro h
    injection h with h
    exact Int.ofNat.inj h
  · rintro rfl; rfl
theorem valV_ent (b : Nat) : ∀ {rows : List Row} {vs : List V}, vs.length = rows.length → (valV (entD rows vs) (.inl (b : Int))).isSome = decide (b ∈ bls rows)
  | [], _, _ => by simp [entD, valV, bls]
  | r :: rows, [], h => by cases h
  | r :: rows, v :: vs, h => by
    have ih := valV_ent b (rows := rows) (vs := vs) (by simpa using h)
    show (valV ((.inl (r.1 : Int), v) :: entD rows vs) (.inl (b : Int))).isSome = decide (b ∈ r.1 :: bls rows)
    by_cases e : r.1 = b
    · rw [valV_pos (keyI.mpr e)]
      simp [e]
    · rw [valV_neg (fun q => e (keyI.mp q)), ih]
      have e' : ¬ b = r.1 := fun q => e q.symm
      simp [e']
theorem valV_ent_none {b : Nat} {rows : List Row} {vs : List V} (h : vs.length = rows.length) (hb : b ∉ bls rows) : valV (entD rows vs) (.inl (b : Int)) = none := by
  have q := valV_ent b h
  rw [decide_eq_false hb] at q
  simpa using q
theorem valV_ent_at : ∀ {rows : List Row} {vs : List V} {j : Nat} {r : Row} {v : V}, (bls rows).Nodup → rows[j]? = some r → vs[j]? = some v → valV (entD rows vs) (.inl (r.1 : Int)) = some v
  | [], _, _, _, _, _, h, _ => by simp at h
  | _ :: _, [], _, _, _, _, _, h => by simp at h
  | r :: rows, v :: vs, 0, r', v', nd, h1, h2 => by
    have e1 : r = r' := Option.some.inj h1
    have e2 : v = v' := Option.some.inj h2
    subst e1 e2
    exact valV_pos rfl
  | r :: rows, v :: vs, j + 1, r', v', nd, h1, h2 => by
    have nd' : (r.1 :: bls rows).Nodup := nd
    rw [List.nodup_cons] at nd'
    have h1' : rows[j]? = some r' := by simpa using h1
    show valV ((.inl (r.1 : Int), v) :: entD rows vs) (.inl (r'.1 : Int)) = some v'
    rw [valV_neg (fun q => nd'.1 (by rw [keyI.mp q]; exact List.mem_map_of_mem (f := fun r : Row => r.1) (List.mem_of_getElem? h1')))]
    exact valV_ent_at nd'.2 h1' (by simpa using h2)
theorem valV_el (b : Nat) : ∀ seen : List Nat, (valV (elD seen) (.inl (b : Int))).isSome = decide (b ∈ seen)
  | [] => by simp [elD, valV]
  | s :: seen => by
    have ih := valV_el b seen
    show (valV ((.inl (s : Int), .bl true) :: elD seen) (.inl (b : Int))).isSome = _
    by_cases e : s = b
    · rw [valV_pos (keyI.mpr e)]
      simp [e]
    · rw [valV_neg (fun q => e (keyI.mp q)), ih]
      have e' : ¬ b = s := fun q => e q.symm
      simp [e']
theorem valV_el_none {b : Nat} {seen : List Nat} (hb : b ∉ seen) : valV (elD seen) (.inl (b : Int)) = none := by
  have q := valV_el b seen
  rw [decide_eq_false hb] at q
  simpa using q
theorem elD_snoc (seen : List Nat) (b : Nat) : elD (seen ++ [b]) = elD seen ++ [(.inl (b : Int), .bl true)] := by unfold elD; rw [List.map_append]; rfl
theorem put_el {seen : List Nat} {b : Nat} (h : b ∉ seen) : putK (elD seen) (.inl (b : Int)) (.bl true) = elD (seen ++ [b]) := by
  rw [putK_new _ (valV_el_none h), elD_snoc]
theorem merge_el : ∀ {more seen : List Nat}, (seen ++ more).Nodup → mergeK (elD seen) (elD more) = elD (seen ++ more)
  | [], seen, _ => by show elD seen = _; rw [List.append_nil]
  | b :: more, seen, nd => by
    have hb : b ∉ seen := fun h => (List.nodup_append.mp nd).2.2 b h b List.mem_cons_self rfl
    have nd' : ((seen ++ [b]) ++ more).Nodup := by rw [List.append_assoc]; exact nd
    show mergeK (putK (elD seen) (.inl (b : Int)) (.bl true)) (elD more) = _
    rw [put_el hb, merge_el nd', List.append_assoc]; rfl
/-- a forest, as it stands -/
def FD (H : Hp) (d : Addr) (rows : List Row) : Prop := ∃ vs, H d = some (.dK (entD rows vs)) ∧ DtAll H vs (rows.map rvD)
theorem FD.same {H H' : Hp} {d : Addr} {rows : List Row} (h : FD H d rows) (s : Same H H') : FD H' d rows := by
  obtain ⟨vs, h1, h2⟩ := h
  exact ⟨vs, s _ _ h1, h2.same s⟩
end My

namespace My
open PySem L2
local macro_rules | `(tactic| walk_at "ne") => `(tactic| first | assumption | exact Ne.symm (by assumption) | exact ne_of_none (by assumption) (by assumption) | exact Ne.symm (ne_of_none (by assumption) (by assumption)))
local macro_rules | `(tactic| walk_at "hp") => `(tactic| first | assumption | with_reducible exact upd_same | (with_reducible refine Eq.trans (upd_ne ?_) ?_; rotate_left; walk_at "hp"; walk_at "ne"))
local macro_rules | `(tactic| walk_at "cnd") => `(tactic| first | omega | (show (0 : Int) < _; omega) | exact ⟨by omega, by omega⟩ | exact Or.inl ⟨by omega, by omega⟩ | exact Or.inr ⟨by omega, by omega⟩ | exact ⟨by omega, by omega, by decide⟩ | exact ⟨by omega, by omega, by omega⟩)
local macro_rules | `(tactic| walk_at "at") => `(tactic| first | exact atC 0 rfl rfl | exact atC 1 rfl rfl | exact atC 2 rfl rfl | exact atC 3 rfl rfl | exact atC 4 rfl rfl | exact atC 5 rfl rfl | exact atC 6 rfl rfl | exact atC 7 rfl rfl)
local macro_rules | `(tactic| walk_at "ix") => `(tactic| first | exact ixC 0 rfl (Nat.le_of_ble_eq_true rfl) | exact ixC 1 rfl (Nat.le_of_ble_eq_true rfl) | exact ixC 2 rfl (Nat.le_of_ble_eq_true rfl) | exact ixC 3 rfl (Nat.le_of_ble_eq_true rfl) | exact ixC 4 rfl (Nat.le_of_ble_eq_true rfl) | exact ixC 5 rfl (Nat.le_of_ble_eq_true rfl))
local macro_rules | `(tactic| walk_at "st") => `(tactic| first
  | refine ⟨_, rfl, ?_⟩
  | refine ⟨_, _, rfl, rfl, (by walk_at "cnd" : (_ : Prop)), ?_⟩
  | refine ⟨_, _, rfl, rfl, ?_⟩
  | refine ⟨rfl, ?_⟩
  | refine Or.inl ⟨_, rfl, ?_⟩
  | refine ⟨_, _, _, _, rfl, rfl, by exact SqL.of (by walk_at "hp"), by walk_at "at", ?_⟩
  | refine ⟨_, _, _, _, rfl, rfl, by exact SqT.of (by walk_at "hp"), by walk_at "at", ?_⟩
  | refine ⟨_, _, _, _, rfl, rfl, by walk_at "hp", by walk_at "ix", ?_⟩
  | refine ⟨_, _, rfl, Or.inl (by exact SqL.of (by walk_at "hp")), ?_⟩
  | refine ⟨_, _, rfl, Or.inr (by exact SqT.of (by walk_at "hp")), ?_⟩)
local macro_rules | `(tactic| walk_at "so") => `(tactic| first
  | refine ⟨_, _, _, _, _, rfl, by walk_at "hp", by assumption, by assumption, rfl, ?_⟩
  | refine ⟨_, _, _, _, rfl, by walk_at "hp", by assumption, by assumption, Nat.le_of_ble_eq_true rfl, ?_⟩
  | refine ⟨_, _, _, rfl, by walk_at "hp", rfl, ?_⟩
  | walk_at "st")
local macro_rules | `(tactic| walk_at "ro") => `(tactic| repeat walk_at "so")
local macro_rules | `(tactic| walk_at "run") => `(tactic| repeat walk_at "st")

theorem onD_open {H : Hp} {v : V} {o : Option Nat} (h : Dt H v (onD o)) : ∃ w : V, v = w ∧ ∀ H', Dt H' w (onD o) := by
  cases o with
  | none => cases h; exact ⟨_, rfl, fun _ => .non⟩
  | some n => cases h; exact ⟨_, rfl, fun _ => .int _⟩
theorem rwD_open {H : Hp} {v : V} {r : Row} (h : Dt H v (rwD r)) : ∃ (t : Addr) (w : V), v = .ref t ∧ H t = some (.tup [.int (r.1 : Int), w, .int (r.2.2 : Int)]) ∧ ∀ H', Dt H' w (onD r.2.1) := by
  unfold rwD at h
  cases h with
  | tup ha hs =>
    cases hs with
    | cons c1 hs => cases hs with
      | cons c2 hs => cases hs with
        | cons c3 hs =>
          cases hs; cases c1; cases c3
          obtain ⟨w, rfl, hw⟩ := onD_open c2
          exact ⟨_, _, rfl, ha, hw⟩
theorem oD_open {H : Hp} {v : V} {o : Nat × Nat} (h : Dt H v (oD o)) : ∃ t : Addr, v = .ref t ∧ H t = some (.tup [.int (o.1 : Int), .int (o.2 : Int)]) := by
  unfold oD at h
  cases h with
  | tup ha hs =>
    cases hs with
    | cons c1 hs => cases hs with
      | cons c2 hs => cases hs; cases c1; cases c2; exact ⟨_, rfl, ha⟩
theorem onD_tonly (o : Option Nat) : tonly (onD o) = true := by cases o <;> rfl
theorem rwD_tonly (r : Row) : tonly (rwD r) = true := by
  show (true && (tonly (onD r.2.1) && (true && true))) = true
  rw [onD_tonly]; rfl
theorem rvD_tonly (r : Row) : tonly (rvD r) = true := by
  show (tonly (onD r.2.1) && (true && true)) = true
  rw [onD_tonly]; rfl
theorem rws_tonly : ∀ rs : List Row, tonlyAll (rs.map rwD) = true
  | [] => rfl
  | r :: rs => by show (tonly (rwD r) && tonlyAll (rs.map rwD)) = true; rw [rwD_tonly, rws_tonly rs]; rfl
theorem rvs_tonly : ∀ rs : List Row, tonlyAll (rs.map rvD) = true
  | [] => rfl
  | r :: rs => by show (tonly (rvD r) && tonlyAll (rs.map rvD)) = true; rw [rvD_tonly, rvs_tonly rs]; rfl
/-- a list that grows by a new tuple -/
theorem snoc_t {H : Hp} {D q : Addr} {acc ys : List V} {ds es : List PyData} (hd : DtAll H acc ds) (t : tonlyAll ds = true) (hD : H D = some (.lst acc)) (hq : H q = none) (hy : DtAll H ys es) (te : tonlyAll es = true) :
    DtAll (upd (upd H q (.tup ys)) D (.lst (acc ++ [.ref q]))) (acc ++ [.ref q]) (ds ++ [.tuple es]) := by
  have hDq : q ≠ D := (ne_of_none hD hq).symm
  have e1 : upd H q (.tup ys) D = some (.lst acc) := by rw [upd_ne hDq.symm]; exact hD
  have s2 : TS (upd H q (.tup ys)) (upd (upd H q (.tup ys)) D (.lst (acc ++ [.ref q]))) := Chg.upd.ts e1
  exact .append ((hd.same (Same.new hq)).ts s2 t) (.cons (.tup (by rw [upd_ne hDq]; exact upd_same) ((hy.same (Same.new hq)).ts s2 te)) .nil)
theorem kids_snoc {b j : Nat} {l : OL} {o : Nat × Nat} (h : l[j]? = some o) : kids b (l.take (j + 1)) = kids b (l.take j) ++ [(o.1, some b, o.2)] := by
  unfold kids
  rw [← take_snoc h, List.map_append]; rfl
theorem img_at {H : Hp} {ivs : List V} {is : List (List Nat)} {b : Nat} (h : DtAll H ivs (is.map pD)) (hb : b < is.length) : ∃ v, ivs[b]? = some v ∧ Dt H v (pD (is.getD b [])) := by
  have hd : (is.map pD)[b]? = some (pD (is.getD b [])) := by rw [List.getElem?_map, List.getElem?_eq_getElem hb, List.getD_eq_getElem?_getD, List.getElem?_eq_getElem hb]; rfl
  exact h.get hd
theorem img_8 {is : List (List Nat)} {b : Nat} (h8 : ∀ ws ∈ is, ws.length = 8) (hb : b < is.length) : (is.getD b []).length = 8 := by
  rw [List.getD_eq_getElem?_getD, List.getElem?_eq_getElem hb]
  exact h8 _ (List.getElem_mem hb)
theorem row_at {H : Hp} {xs : List V} {rows : List Row} {i : Nat} {r : Row} (h : DtAll H xs (rows.map rwD)) (hr : rows[i]? = some r) : ∃ v, xs[i]? = some v ∧ Dt H v (rwD r) := by
  have hd : (rows.map rwD)[i]? = some (rwD r) := by rw [List.getElem?_map, hr]; rfl
  exact h.get hd
theorem ts_dK {H : Hp} {d : Addr} {ks : List (Key × V)} {o : HO} (h : H d = some (.dK ks)) : TS H (upd H d o) := fun b xs e => by
  rw [upd_ne (ne_of e h (by intro z; cases z))]
  exact e
theorem bls_tonly : ∀ l : OL, tonlyAll (l.map oD) = true := os_tonly
def ImgAt (H : Hp) (img : Addr) (is : List (List Nat)) : Prop := (∃ ivs, H img = some (.lst ivs) ∧ DtAll H ivs (is.map pD)) ∧ (∀ ws ∈ is, ws.length = 8) ∧ is.length ≤ 40
theorem ImgAt.same {H H' : Hp} {img : Addr} {is : List (List Nat)} (h : ImgAt H img is) (s : Same H H') : ImgAt H' img is := by
  obtain ⟨⟨ivs, h1, h2⟩, h3⟩ := h
  exact ⟨⟨ivs, s _ _ h1, h2.same s⟩, h3⟩
def spGrown (C : Addr) : Sp := fun vs H Q _ => ∃ (S st img x el L R : Addr) (is : List (List Nat)) (rs seen : List Nat) (e : Nat), vs = [.ref S, .ref img, .ref x, .ref el] ∧ H S = some (.lst [.ref st]) ∧ H st = some (.tup [.int (e : Int), .int 1]) ∧ ImgAt H img is ∧ Ty C H x L R is.length PS rs ∧ H el = some (.dK (elD seen)) ∧ e < is.length ∧ seen.Nodup ∧ (∀ s ∈ seen, s < is.length) ∧
  (∀ w b t d f H', Same H H' → gr is seen 300 [(e, none, 1)] 0 = .bad w b → H' t = some (.tup [.ref d, .ref f]) → H' f = some (.tup [.str w, .int ((b : Nat) : Int)]) → Q (.ref t) H') ∧
  (∀ rows t d H', Same H H' → gr is seen 300 [(e, none, 1)] 0 = .ok rows → (seen ++ bls rows).Nodup → (∀ r ∈ rows, r.1 < is.length) → H' t = some (.tup [.ref d, .non]) → FD H' d rows → H d = none → Q (.ref t) H')
theorem PS_ok : ∀ p ∈ PS, PgOk p := by
  intro p hp
  have hc : p = [([], 0, .inl 2, none), ([], 2, .inl 2, some 0)] ∨ p = [([(7, 255, 1)], 0, .inl 4, some 0)] := by simpa [PS] using hp
  have m1 : ∀ a s n : Nat, 1 ≤ a → a + s ≤ 8 → (Sum.inl a : Nat ⊕ Nat) = .inl n → 1 ≤ n ∧ n + s ≤ 8 := fun a s n h1 h2 e => by cases e; exact ⟨h1, h2⟩
  rcases hc with rfl | rfl
  · refine ⟨by decide, fun c hc => ?_⟩
    have hc : c = ([], 0, .inl 2, none) ∨ c = ([], 2, .inl 2, some 0) := by simpa using hc
    rcases hc with rfl | rfl
    · exact ⟨by decide, fun r hr => (by cases hr), by decide, fun n e => m1 2 0 n (by decide) (by decide) e, fun i e => (by cases e), .inl rfl⟩
    · exact ⟨by decide, fun r hr => (by cases hr), by decide, fun n e => m1 2 2 n (by decide) (by decide) e, fun i e => (by cases e), .inr (.inl rfl)⟩
  · refine ⟨by decide, fun c hc => ?_⟩
    have hc : c = ([(7, 255, 1)], 0, .inl 4, some 0) := by simpa using hc
    subst hc
    refine ⟨by decide, fun r hr => ?_, by decide, fun n e => m1 4 0 n (by decide) (by decide) e, fun i e => (by cases e), .inr (.inl rfl)⟩
    rw [List.mem_singleton] at hr
    subst hr
    exact ⟨by decide, by decide, by decide⟩
section
variable {P : Program} {w : World} {K : PySem.W.Frag} {mg : Str → Option Value} {base : Heap} {C_Types C_NotValid : Addr}
abbrev s_grown : Stmt := topS 34
abbrev ns_grown : List Str := ["starts", "table", "types", "elder", "forest", "ahead", "block", "kind", "at", "owner", "owned", "other", "told"]
theorem sc_grown : FnScope ns_grown ["starts", "table", "types", "elder"] (defScope s_grown) := ⟨rfl, rfl, rfl, by decide +kernel, rfl, by decide +kernel, by decide +kernel⟩

theorem ok_grown {f : Addr} {fd : FuncData} (F : Fun K "grown" "grown" s_grown f fd) (T : Txt K mg C_Types C_NotValid) (D_Types_owned : Mth P w K mg base CX0 6 C_Types "owned" ["self", "number", "words"] (spOwned C_Types)) : FnOk P w K mg base CX0 7 f fd ["starts", "table", "types", "elder"] (spGrown C_Types) := by
  refine F.ok sc_grown (fun vs H Q E h => ?_) (fun cdv A outer s H vs Q E hr h => ?_)
  · obtain ⟨S, st, img, x, el, L, R, is, rs, seen, e, rfl, _⟩ := h
    rfl
  · obtain ⟨S, st, img, x, el, L, R, is, rs, seen, e, rfl, hS, hst, him, ty, hel, he, nds, sls, kb, kg⟩ := h
    refine ⟨_, (pss_cons (ps_set (i := 4) sc_grown.nd rfl (Or.inl rfl) pe_dnewK)
  (pss_cons (ps_setLc (i := 5) (own := [("block", 6), ("kind", 7)]) (by rfl) sc_grown.nd rfl rfl (sw_true rfl rfl rfl (by decide +kernel)) (kpiL K (pv 0)) (blkOk_by (N := ns_grown) (sc := defScope s_grown) (by decide +kernel)) (fun _ _ _ _ _ => (kpgT K (n := 2) (by rfl) (pgs_cons (pg_name (i := 6) sc_grown.nd rfl (Or.inl rfl)) (pgs_cons (pg_name (i := 7) sc_grown.nd rfl (Or.inl rfl)) pgs_nil)))) (fun _ _ _ _ _ => pts_nil) (fun _ _ _ _ _ => (pe_tup (pa_cons (pv 6) (pa_cons pe_non (pa_cons (pv 7) pa_nil))))))
  (pss_cons (ps_set (i := 8) sc_grown.nd rfl (Or.inl rfl) pe_int)
  (pss_cons (ps_while PassesOwn.never (pt_cmpR op_lt (pv 8) (pe_callB (kLen K) (by rfl) T.b_len (by decide +kernel) (pa_cons (pv 5) pa_nil)) (nomark _)) (pss_cons (ps_asg (pe_ix (kIxL K) (pv 5) (pv 8) (fun _ _ => rfl)) (kpgT K (n := 3) (by rfl) (pgs_cons (pg_name (i := 6) sc_grown.nd rfl (Or.inr rfl)) (pgs_cons (pg_name (i := 9) sc_grown.nd rfl (Or.inl rfl)) (pgs_cons (pg_name (i := 7) sc_grown.nd rfl (Or.inl rfl)) pgs_nil)))))
  (pss_cons (ps_aug (i := 8) sc_grown.nd rfl (Or.inl rfl) pe_int ip_add)
  (pss_cons (ps_if (PW.pt (pw_or (pt_cmp (pc_din (units1 hr) (pv 6) (pv 4))) (pw_or1 (pt_cmp (pc_din (units1 hr) (pv 6) (pv 3)))))) (pss_one (ps_ret (pe_tup (pa_cons (pv 4) (pa_cons (pe_tup (pa_cons pe_str (pa_cons (pv 6) pa_nil))) pa_nil))))) pss_nil)
  (pss_cons (ps_set (i := 10) sc_grown.nd rfl (Or.inl rfl) (pe_ifExp (pt_cmpR op_isN (pv 7) pe_non (nomark _)) (pe_tup pa_nil) (pe_dmeth (pv 2) D_Types_owned (hr.mono (by decide)) pass0 (pa_cons (pv 7) (pa_cons (pe_ix (kIxL K) (pv 1) (pv 6) (fun _ _ => rfl)) pa_nil)))))
  (pss_cons (ps_if (pt_cmpR op_isN (pv 10) pe_non (nomark _)) (pss_one (ps_ret (pe_tup (pa_cons (pv 4) (pa_cons (pe_tup (pa_cons pe_str (pa_cons (pv 6) pa_nil))) pa_nil))))) pss_nil)
  (pss_cons (ps_dput (units1 hr) (pv 4) (pv 6) (pe_tup (pa_cons (pv 9) (pa_cons (pv 7) pa_nil))) rfl)
  (pss_one (ps_expr (kBM K PySem.F.plainAttrs_list PySem.F.slot_list_extend PySem.F.type_list_extend mt_extend (pv 5) (pa_cons (pe_lc (own := [("other", 11), ("told", 12)]) (by rfl) sc_grown.nd (kpiT K (pv 10)) (blkOk_by (N := ns_grown) (sc := defScope s_grown) (by decide +kernel)) (fun _ _ _ _ _ => (kpgT K (n := 2) (by rfl) (pgs_cons (pg_name (i := 11) sc_grown.nd rfl (Or.inl rfl)) (pgs_cons (pg_name (i := 12) sc_grown.nd rfl (Or.inl rfl)) pgs_nil)))) (fun _ _ _ _ _ => pts_nil) (fun _ _ _ _ _ => (pe_tup (pa_cons (pv 11) (pa_cons (pv 6) (pa_cons (pv 12) pa_nil)))))) pa_nil)))))))))))
  (pss_one (ps_ret (pe_tup (pa_cons (pv 4) (pa_cons pe_non pa_nil))))))))), ?_⟩
    refine fun d hd => ?_
    have sd : Same H (upd H d (.dK [])) := Same.new hd
    refine ⟨_, rfl, S, rfl, ⟨_, SqL.of (sd _ _ hS)⟩, fun A hA => ?_⟩
    refine lc_list (K := K) (xs := [.ref st]) (fun j H4 => ∃ ac, H4 A = some (.lst ac) ∧ DtAll H4 ac ((([(e, none, 1)] : List Row).take j).map rwD) ∧ ac.length = j ∧ H4 d = some (.dK []) ∧ Same H H4) ⟨_, upd_same, .nil, rfl, Same.new hA _ _ upd_same, sd.trans (Same.new hA)⟩ (fun j H4 _ h => by obtain ⟨_, _, _, _, _, h⟩ := h; exact SqL.of (h _ _ hS)) ?_ ?_
    · rintro j y H4 hy ⟨ac, hac, hda, hl, hd4, s4⟩
      have hj : j = 0 := by
        have := (List.getElem?_eq_some_iff.mp hy).1
        simpa using this
      subst hj
      have ey : y = .ref st := (Option.some.inj hy).symm
      subst ey
      have hst4 := s4 _ _ hst
      refine ⟨st, _, rfl, SqT.of hst4, rfl, _, _, rfl, _, _, rfl, rfl, rfl, ?_⟩
      walk_at "run"
      refine ⟨szl rfl, fun q hq => ?_⟩
      have ea : ac = [] := List.length_eq_zero_iff.mp hl
      subst ea
      have nAq : A ≠ q := ne_of_none hac hq
      have ndq : d ≠ q := ne_of_none hd4 hq
      have nAd : d ≠ A := ne_of hd4 hac (by intro z; cases z)
      refine ⟨_, Eq.trans (upd_ne nAq) hac, szl rfl, [.ref q], upd_same, ?_, rfl, by rw [upd_ne nAd, upd_ne ndq]; exact hd4, Same.mut (s4.trans (Same.new hq)) (sd.free hA)⟩
      exact snoc_t hda rfl hac hq (ys := [.int (e : Int), .non, .int 1]) (es := [.int (e : Int), .none, .int 1]) (.cons (.int _) (.cons .non (.cons (.int _) .nil))) rfl
    · rintro H4 ⟨ac, hac, hda, hl, hd4, s4⟩
      have hA0 := sd.free hA
      have nAd : d ≠ A := ne_of hd4 hac (by intro z; cases z)
      walk_at "run"
      generalize hR : gr is seen 300 [(e, none, 1)] 0 = R' at kb kg
      have W0 : WI is seen R' 300 [(e, none, 1)] 0 := by rw [← hR]; exact WI.start he nds sls
      refine ⟨fun m σ H1 => ∃ (i : Nat) (rows : List Row) (vs ac : List V) (o6 o7 o9 o10 : Option V), m = 300 - i ∧ σ = [some (.ref S), some (.ref img), some (.ref x), some (.ref el), some (.ref d), some (.ref A), o6, o7, some (.int (i : Int)), o9, o10, none, none] ∧ WI is seen R' (300 - i) rows i ∧ H1 d = some (.dK (entD (rows.take i) vs)) ∧ DtAll H1 vs ((rows.take i).map rvD) ∧ H1 A = some (.lst ac) ∧ DtAll H1 ac (rows.map rwD) ∧ Same H H1, ⟨300, 0, _, [], ac, _, _, _, _, rfl, rfl, W0, hd4, .nil, hac, hda, s4⟩, ?_⟩
      rintro m σ H1 ⟨i, rows, vs, ac, o6, o7, o9, o10, rfl, rfl, I, hdk, hvs, hac, hda, s1⟩
      have him1 := him.same s1
      obtain ⟨⟨ivs, hi1, hi2⟩, h8, h40⟩ := him1
      have lim := I.lim
      have acl : ac.length = rows.length := by rw [hda.len, List.length_map]
      have vsl : vs.length = (rows.take i).length := by rw [hvs.len, List.length_map]
      obtain ⟨f', hf'⟩ : ∃ f', 300 - i = f' + 1 := ⟨299 - i, by omega⟩
      walk_at "run"
      refine iteD (fun hlt => ?_) (fun hge => ?_)
      · have hir : i < rows.length := by omega
        obtain ⟨r, hr⟩ : ∃ r, rows[i]? = some r := ⟨_, List.getElem?_eq_getElem hir⟩
        obtain ⟨v, hv, hvd⟩ := row_at hda hr
        obtain ⟨t, u, rfl, ht, hu⟩ := rwD_open hvd
        obtain ⟨rb, rk⟩ := I.ok r (List.mem_of_getElem? hr)
        refine ⟨fun σ' H' => ∃ (rows' : List Row) (vs ac : List V) (o6 o7 o9 o10 : Option V), σ' = [some (.ref S), some (.ref img), some (.ref x), some (.ref el), some (.ref d), some (.ref A), o6, o7, some (.int ((i + 1 : Nat) : Int)), o9, o10, none, none] ∧ WI is seen R' (300 - (i + 1)) rows' (i + 1) ∧ H' d = some (.dK (entD (rows'.take (i + 1)) vs)) ∧ DtAll H' vs ((rows'.take (i + 1)).map rvD) ∧ H' A = some (.lst ac) ∧ DtAll H' ac (rows'.map rwD) ∧ Same H H', ?_, ?_⟩
        · rintro σ' H' ⟨rows', vs, ac, o6, o7, o9, o10, rfl, h⟩
          exact ⟨300 - (i + 1), by omega, i + 1, rows', vs, ac, _, _, _, _, rfl, rfl, h⟩
        walk_at "run"
        refine ⟨_, _, _, _, rfl, rfl, SqL.of hac, atC i rfl hv, ?_⟩
        refine ⟨t, _, rfl, SqT.of ht, rfl, _, _, rfl, _, _, rfl, _, _, rfl, rfl, ?_⟩
        walk_at "run"
        have fault : ∀ (wd : Str), R' = .bad wd r.1 → ∀ p q, H1 p = none → upd H1 p (.tup [.str wd, .int (r.1 : Int)]) q = none → Q (.ref q) (upd (upd H1 p (.tup [.str wd, .int (r.1 : Int)])) q (.tup [.ref d, .ref p])) := by
          intro wd hw p q hp hq
          refine kb wd r.1 q d p _ ((s1.trans (Same.new hp)).trans (Same.new hq)) hw upd_same ?_
          exact Same.new hq _ _ upd_same
        have hel1 := s1 _ _ hel
        refine ⟨d, _, rfl, DGet.k (k := .inl (r.1 : Int)) hdk, _, rfl, ?_⟩
        rw [valV_ent r.1 vsl]
        refine iteD (fun hin => ?_) (fun hnin => ?_)
        · walk_at "run"
          exact ⟨szl rfl, fun p hp => ⟨szl rfl, fun q hq => fault "twice" ((hf' ▸ I).twice hr (.inr hin)) p q hp hq⟩⟩
        · walk_at "run"
          refine ⟨el, _, rfl, DGet.k (k := .inl (r.1 : Int)) hel1, _, rfl, ?_⟩
          rw [valV_el]
          refine iteD (fun hin => ?_) (fun hnin2 => ?_)
          · walk_at "run"
            exact ⟨szl rfl, fun p hp => ⟨szl rfl, fun q hq => fault "twice" ((hf' ▸ I).twice hr (.inl hin)) p q hp hq⟩⟩
          · have hno : ¬ (r.1 ∈ seen ∨ r.1 ∈ bls (rows.take i)) := fun q => q.elim hnin2 hnin
            have ty1 := ty.same s1
            obtain ⟨dx, hx⟩ := ty1.ins
            obtain ⟨vw, hw1, hw2⟩ := img_at hi2 rb
            walk_at "run"
            refine ⟨x, dx, _, rfl, hx, rfl, ?_⟩
            walk_at "run"
            refine ⟨_, _, _, _, rfl, rfl, SqL.of hi1, atC r.1 rfl hw1, ?_⟩
            refine ⟨x, L, R, is.length, PS, rs, vw, is.getD r.1 [], r.2.2, rfl, ty1, PS_ok, (by show r.2.2 < 4; omega), hw2, img_8 h8 rb, fun v H2 s2 hv2 => ?_⟩
            rw [ownD_is] at hv2
            have s12 := s1.trans s2
            cases ho : ownO r.2.2 (is.getD r.1 []) is.length with
            | none =>
              rw [ho] at hv2
              cases hv2
              walk_at "run"
              exact ⟨szl rfl, fun p hp => ⟨szl rfl, fun q hq => kb "ill" r.1 q d p _ ((s12.trans (Same.new hp)).trans (Same.new hq)) ((hf' ▸ I).ill hr hno ho) upd_same (Same.new hq _ _ upd_same)⟩⟩
            | some l =>
              rw [ho] at hv2
              obtain ⟨l4, lo⟩ := ownO_ok rk ho
              have I' := (hf' ▸ I : WI is seen R' (f' + 1) rows i).step hr hno ho
              cases hv2 with
              | @tup oa oxs ods hoa hos =>
                have oxl : oxs.length = l.length := by rw [hos.len, List.length_map]
                walk_at "run"
                refine ⟨szl rfl, fun p hp => ?_⟩
                have sp := Same.new (o := .tup [u, .int (r.2.2 : Int)]) hp
                have s3 := s12.trans sp
                have hdk3 := sp _ _ (s2 _ _ hdk)
                have hvs3 := (hvs.same s2).same sp
                have hac3 := sp _ _ (s2 _ _ hac)
                have hda3 := (hda.same s2).same sp
                have hoa3 := sp _ _ hoa
                have hos3 := hos.same sp
                have hpv : Dt (upd H2 p (.tup [u, .int (r.2.2 : Int)])) (.ref p) (rvD r) := .tup upd_same (.cons (hu _) (.cons (.int _) .nil))
                generalize upd H2 p (.tup [u, .int (r.2.2 : Int)]) = H3 at sp s3 hdk3 hvs3 hac3 hda3 hoa3 hos3 hpv
                have hil : i ≤ 40 := by have := him.2.2; omega
                walk_at "run"
                refine ⟨d, _, rfl, DPut.k (k := .inl (r.1 : Int)) hdk3 (by rw [entD_len vsl, List.length_take]; exact szt (by omega)), ?_⟩
                rw [putK_new _ (valV_ent_none vsl hnin), ← entD_snoc vsl]
                have nAd' : A ≠ d := fun z => nAd z.symm
                have tsG := ts_dK (o := .dK (entD (rows.take i ++ [r]) (vs ++ [.ref p]))) hdk3
                have hdk4 : upd H3 d (.dK (entD (rows.take i ++ [r]) (vs ++ [.ref p]))) d = some (.dK (entD (rows.take i ++ [r]) (vs ++ [.ref p]))) := upd_same
                have hac4 : upd H3 d (.dK (entD (rows.take i ++ [r]) (vs ++ [.ref p]))) A = some (.lst ac) := by rw [upd_ne nAd']; exact hac3
                have hvs4 : DtAll (upd H3 d (.dK (entD (rows.take i ++ [r]) (vs ++ [.ref p])))) (vs ++ [.ref p]) ((rows.take i ++ [r]).map rvD) := by
                  rw [List.map_append]
                  exact (hvs3.append (.cons hpv .nil)).ts tsG (by rw [← List.map_append (f := rvD) (l₂ := [r])]; exact rvs_tonly _)
                have hda4 := hda3.ts tsG (rws_tonly _)
                have hoa4 := tsG _ _ hoa3
                have hos4 := hos3.ts tsG (os_tonly _)
                have s4 : Same H (upd H3 d (.dK (entD (rows.take i ++ [r]) (vs ++ [.ref p])))) := Same.mut s3 hd
                generalize upd H3 d (.dK (entD (rows.take i ++ [r]) (vs ++ [.ref p]))) = H4 at tsG hdk4 hac4 hvs4 hda4 hoa4 hos4 s4
                walk_at "run"
                refine ⟨.inl ⟨rfl, _, SqL.of hac4⟩, ?_⟩
                walk_at "run"
                refine ⟨⟨_, SqT.of hoa4⟩, fun D hD => ?_⟩
                refine lc_tup (K := K) (xs := oxs) (fun j H5 => ∃ bc, H5 D = some (.lst bc) ∧ DtAll H5 bc ((kids r.1 (l.take j)).map rwD) ∧ bc.length ≤ j ∧ Same H4 H5) ⟨_, upd_same, .nil, Nat.le_refl _, Same.new hD⟩ (fun j H5 _ h => by obtain ⟨_, _, _, _, h⟩ := h; exact SqT.of (h _ _ hoa4)) ?_ ?_
                · rintro j y H5 hy ⟨bc, hbc, hbd, hbl, s5⟩
                  obtain ⟨dd, hdd, hyd⟩ := hos4.getV hy
                  obtain ⟨o, ho', rfl⟩ : ∃ o, l[j]? = some o ∧ dd = oD o := by
                    rw [List.getElem?_map] at hdd
                    cases e : l[j]? with
                    | none => rw [e] at hdd; cases hdd
                    | some o => rw [e] at hdd; exact ⟨o, rfl, (Option.some.inj hdd).symm⟩
                  obtain ⟨t', rfl, ht'⟩ := oD_open (hyd.same s5)
                  have hj : j < l.length := (List.getElem?_eq_some_iff.mp ho').1
                  refine ⟨t', _, rfl, SqT.of ht', rfl, _, _, rfl, _, _, rfl, rfl, rfl, ?_⟩
                  walk_at "run"
                  refine ⟨szl rfl, fun q hq => ?_⟩
                  have nDq : D ≠ q := ne_of_none hbc hq
                  refine ⟨_, Eq.trans (upd_ne nDq) hbc, szt (by omega), bc ++ [.ref q], upd_same, ?_, by rw [List.length_append]; show _ + 1 ≤ _; omega, Same.mut (s5.trans (Same.new hq)) hD⟩
                  rw [kids_snoc ho', List.map_append]
                  exact snoc_t hbd (rws_tonly _) hbc hq (ys := [.int (o.1 : Int), .int (r.1 : Int), .int (o.2 : Int)]) (es := [.int (o.1 : Int), .int (r.1 : Int), .int (o.2 : Int)]) (.cons (.int _) (.cons (.int _) (.cons (.int _) .nil))) rfl
                · rintro H5 ⟨bc, hbc, hbd, hbl, s5⟩
                  rw [oxl, List.take_length] at hbd
                  have hac5 := s5 _ _ hac4
                  have hA0' : H A = none := hA0
                  have rl := I.ln
                  refine ⟨_, _, _, _, rfl, rfl, hac5, hbc, szn (by omega), ?_⟩
                  have e1 : (rows ++ kids r.1 l).take (i + 1) = rows.take i ++ [r] := by rw [List.take_append_of_le_length (by omega), take_snoc hr]
                  have tsA : TS H5 (upd H5 A (.lst (ac ++ bc))) := Chg.upd.ts hac5
                  refine ⟨rows ++ kids r.1 l, vs ++ [.ref p], ac ++ bc, _, _, _, _, rfl, ?_, ?_, ?_, upd_same, ?_, Same.mut (s4.trans s5) hA0'⟩
                  · rw [show 300 - (i + 1) = f' by omega]; exact I'
                  · rw [e1, upd_ne nAd]; exact s5 _ _ hdk4
                  · rw [e1]; exact (hvs4.same s5).ts tsA (rvs_tonly _)
                  · rw [List.map_append]
                    exact ((hda4.same s5).append hbd).ts tsA (by rw [← List.map_append]; exact rws_tonly _)
      · have hil : rows.length ≤ i := by omega
        obtain ⟨f1, f2⟩ := I.fin hil
        have et : rows.take i = rows := List.take_of_length_le hil
        rw [et] at hdk hvs
        walk_at "run"
        exact ⟨szl rfl, fun q hq => kg rows q d _ (s1.trans (Same.new hq)) f1 f2 (fun r hr => (I.ok r hr).1) upd_same ⟨vs, Same.new hq _ _ hdk, hvs.same (Same.new hq)⟩ hd⟩
end
end My

namespace My
open PySem L2
local macro_rules | `(tactic| walk_at "ne") => `(tactic| first | assumption | exact Ne.symm (by assumption) | exact ne_of_none (by assumption) (by assumption) | exact Ne.symm (ne_of_none (by assumption) (by assumption)))
local macro_rules | `(tactic| walk_at "hp") => `(tactic| first | assumption | with_reducible exact upd_same | (with_reducible refine Eq.trans (upd_ne ?_) ?_; rotate_left; walk_at "hp"; walk_at "ne"))
local macro_rules | `(tactic| walk_at "cnd") => `(tactic| first | omega | (show (0 : Int) < _; omega) | exact ⟨by omega, by omega⟩ | exact Or.inl ⟨by omega, by omega⟩ | exact Or.inr ⟨by omega, by omega⟩ | exact ⟨by omega, by omega, by decide⟩ | exact ⟨by omega, by omega, by omega⟩)
local macro_rules | `(tactic| walk_at "at") => `(tactic| first | exact atC 0 rfl rfl | exact atC 1 rfl rfl | exact atC 2 rfl rfl | exact atC 3 rfl rfl | exact atC 4 rfl rfl | exact atC 5 rfl rfl | exact atC 6 rfl rfl | exact atC 7 rfl rfl)
local macro_rules | `(tactic| walk_at "ix") => `(tactic| first | exact ixC 0 rfl (Nat.le_of_ble_eq_true rfl) | exact ixC 1 rfl (Nat.le_of_ble_eq_true rfl) | exact ixC 2 rfl (Nat.le_of_ble_eq_true rfl) | exact ixC 3 rfl (Nat.le_of_ble_eq_true rfl) | exact ixC 4 rfl (Nat.le_of_ble_eq_true rfl) | exact ixC 5 rfl (Nat.le_of_ble_eq_true rfl))
local macro_rules | `(tactic| walk_at "st") => `(tactic| first
  | refine ⟨_, rfl, ?_⟩
  | refine ⟨_, _, rfl, rfl, (by walk_at "cnd" : (_ : Prop)), ?_⟩
  | refine ⟨_, _, rfl, rfl, ?_⟩
  | refine ⟨rfl, ?_⟩
  | refine Or.inl ⟨_, rfl, ?_⟩
  | refine ⟨_, _, _, _, rfl, rfl, by exact SqL.of (by walk_at "hp"), by walk_at "at", ?_⟩
  | refine ⟨_, _, _, _, rfl, rfl, by exact SqT.of (by walk_at "hp"), by walk_at "at", ?_⟩
  | refine ⟨_, _, _, _, rfl, rfl, by walk_at "hp", by walk_at "ix", ?_⟩
  | refine ⟨_, _, rfl, Or.inl (by exact SqL.of (by walk_at "hp")), ?_⟩
  | refine ⟨_, _, rfl, Or.inr (by exact SqT.of (by walk_at "hp")), ?_⟩)
local macro_rules | `(tactic| walk_at "so") => `(tactic| first
  | refine ⟨_, _, _, _, _, rfl, by walk_at "hp", by assumption, by assumption, rfl, ?_⟩
  | refine ⟨_, _, _, _, rfl, by walk_at "hp", by assumption, by assumption, Nat.le_of_ble_eq_true rfl, ?_⟩
  | refine ⟨_, _, _, rfl, by walk_at "hp", rfl, ?_⟩
  | walk_at "st")
local macro_rules | `(tactic| walk_at "ro") => `(tactic| repeat walk_at "so")
local macro_rules | `(tactic| walk_at "run") => `(tactic| repeat walk_at "st")

def optL : Option OL → PyData
  | none => .none
  | some os => .list (os.map oD)
def spLOwns : Sp := fun vs H Q _ => ∃ (n B : Nat) (vw : V) (ws : List Nat), vs = [.int n, vw, .int B] ∧ n ≤ 3 ∧ Dt H vw (pD ws) ∧ ws.length = 8 ∧ ∀ v H', Same H H' → Dt H' v (optL (ownO n ws B)) → (∀ a, v = .ref a → H a = none) → Q v H'
theorem nz_at {tl : List Nat} {j n : Nat} (h : tl[j]? = some n) : nz (tl.take (j + 1)) = nz (tl.take j) ++ (if n = 0 then [] else [n]) := nz_snoc h
theorem cutV_w {ws : List Nat} {lo hi : Option Int} (h8 : ws.length = 8) : cutV (ws.map vN) lo hi = ((ws.drop (HT.sIx 8 0 lo)).take (HT.sIx 8 8 hi - HT.sIx 8 0 lo)).map vN := by
  unfold cutV
  rw [List.length_map, h8, List.map_take, List.map_drop]
theorem sl_words {K : PySem.W.Frag} {H : Hp} {b : Addr} {ws tl : List Nat} {lo hi : Option Int} {Q : VK} (hb : H b = some (.tup (ws.map vN))) (e : cutV (ws.map vN) lo hi = tl.map vN)
    (ne : ¬ (HT.sIx (ws.map vN).length 0 lo = 0 ∧ HT.sIx (ws.map vN).length (ws.map vN).length hi = (ws.map vN).length)) (k : ∀ p, H p = none → Q (.ref p) (upd H p (.tup (tl.map vN)))) : rSlA K (.ref b) lo hi H Q :=
  ⟨b, _, rfl, SqT.of hb, fun z => absurd z ne, fun _ p hp => by rw [e]; exact k p hp⟩
section
variable {P : Program} {w : World} {K : PySem.W.Frag} {mg : Str → Option Value} {base : Heap} {C_Types C_NotValid : Addr}
abbrev s_law_owns : Stmt := topS 41
abbrev ns_law_owns : List Str := ["kind", "words", "many", "found", "word", "numbers", "row", "k"]
theorem sc_law_owns : FnScope ns_law_owns ["kind", "words", "many"] (defScope s_law_owns) := ⟨rfl, rfl, rfl, by decide +kernel, rfl, by decide +kernel, by decide +kernel⟩

theorem ok_law_owns {f : Addr} {fd : FuncData} (F : Fun K "_law_owns" "_law_owns" s_law_owns f fd) (T : Txt K mg C_Types C_NotValid) : FnOk P w K mg base CX0 1 f fd ["kind", "words", "many"] spLOwns := by
  refine F.ok sc_law_owns (fun vs H Q E h => ?_) (fun cdv A outer s H vs Q E hr h => ?_)
  · obtain ⟨n, B, vw, ws, rfl, _⟩ := h
    rfl
  · obtain ⟨n, B, vw, ws, rfl, hn, hw, h8, k⟩ := h
    obtain ⟨b, rfl, hb⟩ := pD_open hw
    have g0 := getVN (ws := ws) (i := 0) (by omega)
    have g1 := getVN (ws := ws) (i := 1) (by omega)
    have g7 := getVN (ws := ws) (i := 7) (by omega)
    refine ⟨_, (pss_cons (ps_set (i := 3) sc_law_owns.nd rfl (Or.inl rfl) (pe_lst pa_nil))
  (C8.pss_cut (ps_if (PW.pt (pw_and (pt_cmpR op_eq (pv 0) pe_int (nomark _)) (pw_and1 (pt_cmpR op_ne (pe_ix (kIxT K) (pv 1) pe_int (fun _ _ => rfl)) pe_int (nomark _))))) (pss_cons (ps_set (i := 3) sc_law_owns.nd rfl (Or.inl rfl) (pe_lst (pa_cons (pe_tup (pa_cons (pe_ix (kIxT K) (pv 1) pe_int (fun _ _ => rfl)) (pa_cons (pe_ix (kIxT K) (pv 1) pe_int (fun _ _ => rfl)) pa_nil))) pa_nil)))
  (pss_one (ps_if (pt_cmpR (kNotIn K) (pe_ix (kIxT K) (pv 1) pe_int (fun _ _ => rfl)) (pe_tup (pa_cons pe_int (pa_cons pe_int (pa_cons pe_int pa_nil)))) (by rfl)) (pss_one (ps_ret pe_non)) pss_nil))) pss_nil)
  (C8.pss_cut (ps_if (pt_cmpR op_eq (pv 0) pe_int (nomark _)) (pss_one (ps_set (i := 3) sc_law_owns.nd rfl (Or.inl rfl) (pe_op op_cat (pe_lc (own := [("word", 4)]) (by rfl) sc_law_owns.nd (kpiT K (pe_slice (kSlT K) (pv 1) po_none (po_some pe_int))) (blkOk_by (N := ns_law_owns) (sc := defScope s_law_owns) (by decide +kernel)) (fun _ _ _ _ _ => (pg_name (i := 4) sc_law_owns.nd rfl (Or.inl rfl))) (fun _ _ _ _ _ => (pts_one (pt_cmpR op_ne (pv 4) pe_int (nomark _)))) (fun _ _ _ _ _ => (pe_tup (pa_cons (pv 4) (pa_cons pe_int pa_nil))))) (pe_lc (own := [("word", 4)]) (by rfl) sc_law_owns.nd (kpiT K (pe_slice (kSlT K) (pv 1) (po_some pe_int) (po_some pe_int))) (blkOk_by (N := ns_law_owns) (sc := defScope s_law_owns) (by decide +kernel)) (fun _ _ _ _ _ => (pg_name (i := 4) sc_law_owns.nd rfl (Or.inl rfl))) (fun _ _ _ _ _ => (pts_one (pt_cmpR op_ne (pv 4) pe_int (nomark _)))) (fun _ _ _ _ _ => (pe_tup (pa_cons (pv 4) (pa_cons pe_int pa_nil)))))))) pss_nil)
  (C8.pss_cut (ps_if (PW.pt (pw_and (pt_cmpR op_eq (pv 0) pe_int (nomark _)) (pw_and1 (pt_cmpR op_eq (pe_op op_mod (pe_callTy call_int1 (by rfl) T.b_int (by decide +kernel) (pa_cons (pe_ix (kIxT K) (pv 1) pe_int (fun _ _ => rfl)) pa_nil)) pe_int) pe_int (nomark _))))) (pss_one (ps_setLc (i := 3) (own := [("word", 4)]) (by rfl) sc_law_owns.nd rfl rfl (sw_true rfl rfl rfl (by decide +kernel)) (kpiT K (pe_slice (kSlT K) (pv 1) po_none (po_some pe_int))) (blkOk_by (N := ns_law_owns) (sc := defScope s_law_owns) (by decide +kernel)) (fun _ _ _ _ _ => (pg_name (i := 4) sc_law_owns.nd rfl (Or.inl rfl))) (fun _ _ _ _ _ => (pts_one (pt_cmpR op_ne (pv 4) pe_int (nomark _)))) (fun _ _ _ _ _ => (pe_tup (pa_cons (pv 4) (pa_cons pe_int pa_nil)))))) pss_nil)
  (pss_cons (ps_setLc (i := 5) (own := [("row", 6)]) (by rfl) sc_law_owns.nd rfl rfl (sw_true rfl rfl rfl (by decide +kernel)) (kpiL K (pv 3)) (blkOk_by (N := ns_law_owns) (sc := defScope s_law_owns) (by decide +kernel)) (fun _ _ _ _ _ => (pg_name (i := 6) sc_law_owns.nd rfl (Or.inl rfl))) (fun _ _ _ _ _ => pts_nil) (fun _ _ _ _ _ => (pe_ix (kIxT K) (pv 6) pe_int (fun _ _ => rfl))))
  (pss_cons (ps_for PassesOwn.never (by rfl) (pi_range1 (by rfl) T.b_range (pa_cons (pe_callB (kLen K) (by rfl) T.b_len (by decide +kernel) (pa_cons (pv 5) pa_nil)) pa_nil)) (pg_name (i := 7) sc_law_owns.nd rfl (Or.inl rfl)) (pss_one (ps_if (PW.pt (pw_or (pt_cmpR op_lt (pe_ix (kIxL K) (pv 5) (pv 7) (fun _ _ => rfl)) pe_int (nomark _)) (pw_or (pt_cmpR op_ge (pe_ix (kIxL K) (pv 5) (pv 7) (fun _ _ => rfl)) (pv 2) (nomark _)) (pw_or1 (pt_cmpR (kIn K) (pe_ix (kIxL K) (pv 5) (pv 7) (fun _ _ => rfl)) (pe_slice (kSlL K) (pv 5) po_none (po_some (pv 7))) (by rfl)))))) (pss_one (ps_ret pe_non)) pss_nil)))
  (pss_one (ps_ret (pv 3))))))))), ?_⟩
    refine ⟨szl rfl, fun L0 hL0 => ?_⟩
    have s0 : Same H (upd H L0 (.lst [])) := Same.new hL0
    -- what stands in found: a list of rows
    refine ⟨fun σ H1 => ∃ (L : Addr) (ac : List V) (o4 : Option V), σ = [some (.int (n : Int)), some (.ref b), some (.int (B : Int)), some (.ref L), o4, none, none, none] ∧ H1 L = some (.lst ac) ∧ DtAll H1 ac ((if n = 1 then lawL n ws else []).map oD) ∧ Same H H1 ∧ ¬ badRoot n ws ∧ H L = none, ?_, ?_⟩
    · walk_at "run"
      refine iteD (fun e1 => ?_) (fun e1 => ?_)
      · have n1 : n = 1 := by
          have q : ((n : Nat) : Int) = 1 := by injection e1
          omega
        subst n1
        walk_at "run"
        refine ⟨_, _, _, _, rfl, rfl, SqT.of (s0 _ _ hb), atC 0 rfl g0, ?_⟩
        walk_at "run"
        refine iteDn (fun h0 => ?_) (fun h0 => ?_)
        · have w0 : ¬ ws.getD 0 0 = 0 := fun q => h0 (by rw [q]; rfl)
          walk_at "run"
          refine ⟨_, _, _, _, rfl, rfl, SqT.of (s0 _ _ hb), atC 0 rfl g0, ?_⟩
          walk_at "run"
          refine ⟨_, _, _, _, rfl, rfl, SqT.of (s0 _ _ hb), atC 1 rfl g1, ?_⟩
          refine ⟨szl rfl, fun p hp => ⟨szl rfl, fun L hL => ?_⟩⟩
          have sL := (s0.trans (Same.new (o := .tup [.int (ws.getD 0 0 : Nat), .int (ws.getD 1 0 : Nat)]) hp)).trans (Same.new (o := .lst [.ref p]) hL)
          have hpp := (Same.new (o := .lst [.ref p]) hL) _ _ (upd_same (H := upd H L0 (.lst [])) (a := p) (o := .tup [.int (ws.getD 0 0 : Nat), .int (ws.getD 1 0 : Nat)]))
          have hLL := upd_same (H := upd (upd H L0 (.lst [])) p (.tup [.int (ws.getD 0 0 : Nat), .int (ws.getD 1 0 : Nat)])) (a := L) (o := .lst [.ref p])
          generalize upd (upd (upd H L0 (.lst [])) p (.tup [.int (ws.getD 0 0 : Nat), .int (ws.getD 1 0 : Nat)])) L (.lst [.ref p]) = G at sL hpp hLL
          walk_at "run"
          refine ⟨_, _, _, _, rfl, rfl, SqT.of (sL _ _ hb), atC 1 rfl g1, ?_⟩
          refine ⟨szl rfl, fun t ht => ?_⟩
          refine ⟨t, [.int 0, .int 2, .int 3], rfl, .inr (SqT.of upd_same), rfl, rfl, _, rfl, ?_⟩
          show if (!inV (.int (ws.getD 1 0 : Nat)) (([0, 2, 3] : List Nat).map vN)) = true then _ else _
          rw [inV_nat]
          have st := sL.trans (Same.new (o := .tup [.int 0, .int 2, .int 3]) ht)
          refine iteDn (fun hno => ?_) (fun hin => ?_)
          · have z := lawO_bad (B := B) (ws := ws) ⟨rfl, w0, fun q => hno (by rcases q with q | q | q <;> rw [q] <;> simp)⟩
            rw [z] at k
            exact k _ _ st .non (fun a z => (by cases z))
          · refine ⟨L, [.ref p], none, rfl, (Same.new ht) _ _ hLL, ?_, st, fun z => z.2.2 (by simpa using hin), (s0.trans (Same.new (o := .tup [.int (ws.getD 0 0 : Nat), .int (ws.getD 1 0 : Nat)]) hp)).free hL⟩
            have e : lawL 1 ws = [(ws.getD 0 0, ws.getD 1 0)] := by unfold lawL; rw [if_pos rfl, if_neg w0]
            rw [e]
            exact .cons (.tup ((Same.new ht) _ _ hpp) (.cons (.int _) (.cons (.int _) .nil))) .nil
        · have w0 : ws.getD 0 0 = 0 := by
            have q : ((ws.getD 0 0 : Nat) : Int) = 0 := by injection h0
            omega
          refine ⟨L0, [], none, rfl, upd_same, ?_, s0, fun z => z.2.1 w0, hL0⟩
          have e : lawL 1 ws = [] := by unfold lawL; rw [if_pos rfl, if_pos w0]
          rw [e]
          exact .nil
      · have n1 : ¬ n = 1 := fun q => e1 (by rw [q]; rfl)
        refine ⟨L0, [], none, rfl, upd_same, ?_, s0, fun z => n1 z.1, hL0⟩
        rw [if_neg n1]
        exact .nil
    · rintro σ H1 ⟨L, ac0, o4, rfl, hL, hda, s1, nb, hLn⟩
      refine ⟨fun σ H1 => ∃ (L : Addr) (ac : List V) (o4 : Option V), σ = [some (.int (n : Int)), some (.ref b), some (.int (B : Int)), some (.ref L), o4, none, none, none] ∧ H1 L = some (.lst ac) ∧ DtAll H1 ac ((if n = 1 ∨ n = 2 then lawL n ws else []).map oD) ∧ Same H H1 ∧ H L = none, ?_, ?_⟩
      · walk_at "run"
        refine iteD (fun e1 => ?_) (fun e1 => ?_)
        · have n2 : n = 2 := by
            have q : ((n : Nat) : Int) = 2 := by injection e1
            omega
          subst n2
          walk_at "run"
          refine sl_words (tl := ws.take 2) (s1 _ _ hb) ?_ ?_ (fun p hp => ?_)
          · rw [cutV_w h8]; rfl
          · rw [List.length_map, h8]; intro z; exact absurd z.2 (by decide)
          have hpT : upd H1 p (.tup ((ws.take 2).map vN)) p = some (.tup ((ws.take 2).map vN)) := upd_same
          refine ⟨_, rfl, ⟨_, SqT.of hpT⟩, fun D hD => ?_⟩
          refine lc_tup (K := K) (xs := (ws.take 2).map vN) (fun j H4 => ∃ ac, H4 D = some (.lst ac) ∧ DtAll H4 ac (((nz ((ws.take 2).take j)).map fun x => (x, 2)).map oD) ∧ ac.length ≤ j ∧ Same (upd H1 p (.tup ((ws.take 2).map vN))) H4) ⟨_, upd_same, .nil, Nat.le_refl _, Same.new hD⟩ (fun j H4 _ h => by obtain ⟨_, _, _, _, h⟩ := h; exact SqT.of (h _ _ hpT)) ?_ ?_
          · rintro j x H4 hx ⟨ac, hac, hda4, hl4, s4⟩
            have tll : (ws.take 2).length ≤ 8 := by simp; omega
            obtain ⟨n', hn', rfl⟩ : ∃ n', (ws.take 2)[j]? = some n' ∧ x = vN n' := by
              rw [List.getElem?_map] at hx
              cases e : (ws.take 2)[j]? with
              | none => rw [e] at hx; cases hx
              | some n' => rw [e] at hx; exact ⟨n', rfl, (Option.some.inj hx).symm⟩
            have hj : j < (ws.take 2).length := (List.getElem?_eq_some_iff.mp hn').1
            refine ⟨rfl, ?_⟩
            walk_at "run"
            refine iteDn (fun hne => ?_) (fun heq => ?_)
            · have n0 : ¬ n' = 0 := fun q => hne (by rw [q]; rfl)
              walk_at "run"
              refine ⟨szl rfl, fun q hq => ?_⟩
              have nDq : D ≠ q := ne_of_none hac hq
              refine ⟨_, Eq.trans (upd_ne nDq) hac, szt (by omega), ac ++ [.ref q], upd_same, ?_, by rw [List.length_append]; show _ + 1 ≤ _; omega, Same.mut (s4.trans (Same.new hq)) hD⟩
              rw [nz_snoc hn', if_neg n0, List.map_append, List.map_append]
              exact snoc_o hda4 (os_tonly _) hac hq
            · have n0 : n' = 0 := by
                have q : ((n' : Nat) : Int) = 0 := by injection heq
                omega
              refine ⟨ac, hac, ?_, by omega, s4⟩
              rw [nz_snoc hn', if_pos n0, List.append_nil]
              exact hda4
          · rintro H4 ⟨ac, hac, hda4, hl4, s4⟩
            rw [List.length_map, List.take_length] at hda4
            rw [List.length_map] at hl4
            have hb5 := s4 _ _ ((Same.new hp) _ _ (s1 _ _ hb))
            have acl := hl4
            generalize hac5 : ac = ac5 at hac hda4 acl
            have s15 := (s1.trans (Same.new (o := .tup ((ws.take 2).map vN)) hp)).trans s4
            generalize H4 = H5 at hac hda4 s4 hb5 s15
            have hacL := hac
            have hdaL := hda4
            walk_at "run"
            refine sl_words (tl := (ws.drop 2).take 2) hb5 ?_ ?_ (fun p2 hp2 => ?_)
            · rw [cutV_w h8]; rfl
            · rw [List.length_map, h8]; intro z; exact absurd z.1 (by decide)
            have hpT2 : upd H5 p2 (.tup (((ws.drop 2).take 2).map vN)) p2 = some (.tup (((ws.drop 2).take 2).map vN)) := upd_same
            refine ⟨_, rfl, ⟨_, SqT.of hpT2⟩, fun D2 hD2 => ?_⟩
            refine lc_tup (K := K) (xs := ((ws.drop 2).take 2).map vN) (fun j H4 => ∃ ac, H4 D2 = some (.lst ac) ∧ DtAll H4 ac (((nz (((ws.drop 2).take 2).take j)).map fun x => (x, 0)).map oD) ∧ ac.length ≤ j ∧ Same (upd H5 p2 (.tup (((ws.drop 2).take 2).map vN))) H4) ⟨_, upd_same, .nil, Nat.le_refl _, Same.new hD2⟩ (fun j H4 _ h => by obtain ⟨_, _, _, _, h⟩ := h; exact SqT.of (h _ _ hpT2)) ?_ ?_
            · rintro j x H4 hx ⟨ac, hac, hda4, hl4, s4⟩
              have tll : ((ws.drop 2).take 2).length ≤ 8 := by simp; omega
              obtain ⟨n', hn', rfl⟩ : ∃ n', ((ws.drop 2).take 2)[j]? = some n' ∧ x = vN n' := by
                rw [List.getElem?_map] at hx
                cases e : ((ws.drop 2).take 2)[j]? with
                | none => rw [e] at hx; cases hx
                | some n' => rw [e] at hx; exact ⟨n', rfl, (Option.some.inj hx).symm⟩
              have hj : j < ((ws.drop 2).take 2).length := (List.getElem?_eq_some_iff.mp hn').1
              refine ⟨rfl, ?_⟩
              walk_at "run"
              refine iteDn (fun hne => ?_) (fun heq => ?_)
              · have n0 : ¬ n' = 0 := fun q => hne (by rw [q]; rfl)
                walk_at "run"
                refine ⟨szl rfl, fun q hq => ?_⟩
                have nDq : D2 ≠ q := ne_of_none hac hq
                refine ⟨_, Eq.trans (upd_ne nDq) hac, szt (by omega), ac ++ [.ref q], upd_same, ?_, by rw [List.length_append]; show _ + 1 ≤ _; omega, Same.mut (s4.trans (Same.new hq)) hD2⟩
                rw [nz_snoc hn', if_neg n0, List.map_append, List.map_append]
                exact snoc_o hda4 (os_tonly _) hac hq
              · have n0 : n' = 0 := by
                  have q : ((n' : Nat) : Int) = 0 := by injection heq
                  omega
                refine ⟨ac, hac, ?_, by omega, s4⟩
                rw [nz_snoc hn', if_pos n0, List.append_nil]
                exact hda4
            · rintro H4 ⟨ac, hac, hda4, hl4, s4⟩
              rw [List.length_map, List.take_length] at hda4
              rw [List.length_map] at hl4
              have s5' : Same H5 H4 := (Same.new hp2).trans s4
              refine ⟨D, D2, ac5, ac, rfl, rfl, s5' _ _ hacL, hac, ?_, fun q hq => ?_⟩
              · have q1 : (ws.take 2).length ≤ 2 := List.length_take_le _ _
                have q2 : ((ws.drop 2).take 2).length ≤ 2 := List.length_take_le _ _
                exact szn (by omega)
              · refine ⟨q, ac5 ++ ac, o4, rfl, upd_same, ?_, (s15.trans s5').trans (Same.new hq), (s15.trans s5').free hq⟩
                have e : (if 2 = 1 ∨ 2 = 2 then lawL 2 ws else []) = (nz (ws.take 2)).map (fun x => (x, 2)) ++ (nz ((ws.drop 2).take 2)).map (fun x => (x, 0)) := rfl
                rw [e, List.map_append]
                exact ((hdaL.same s5').append hda4).same (Same.new hq)
        · have n2 : ¬ n = 2 := fun q => e1 (by rw [q]; rfl)
          refine ⟨L, ac0, o4, rfl, hL, ?_, s1, hLn⟩
          by_cases n1 : n = 1
          · rw [if_pos (.inl n1)]; rw [if_pos n1] at hda; exact hda
          · rw [if_neg (fun z => z.elim n1 n2)]; rw [if_neg n1] at hda; exact hda
      · rintro σ H2 ⟨L, ac0, o4, rfl, hL, hda, s2, hLn⟩
        refine ⟨fun σ H1 => ∃ (L : Addr) (ac : List V) (o4 : Option V), σ = [some (.int (n : Int)), some (.ref b), some (.int (B : Int)), some (.ref L), o4, none, none, none] ∧ H1 L = some (.lst ac) ∧ DtAll H1 ac ((lawL n ws).map oD) ∧ Same H H1 ∧ H L = none, ?_, ?_⟩
        · have keep : ¬ (n = 3 ∧ ws.getD 7 0 % 256 = 1) → ∃ (L' : Addr) (ac : List V) (o4' : Option V), [some (V.int (n : Int)), some (.ref b), some (.int (B : Int)), some (.ref L), o4, none, none, none] = [some (V.int (n : Int)), some (.ref b), some (.int (B : Int)), some (.ref L'), o4', none, none, none] ∧ H2 L' = some (.lst ac) ∧ DtAll H2 ac ((lawL n ws).map oD) ∧ Same H H2 ∧ H L' = none := by
            intro z
            refine ⟨L, ac0, o4, rfl, hL, ?_, s2, hLn⟩
            by_cases n1 : n = 1
            · rw [if_pos (.inl n1)] at hda; exact hda
            · by_cases n2 : n = 2
              · rw [if_pos (.inr n2)] at hda; exact hda
              · rw [if_neg (fun z => z.elim n1 n2)] at hda
                have e : lawL n ws = [] := by unfold lawL; rw [if_neg n1, if_neg n2, if_neg z]
                rw [e]
                exact hda
          walk_at "run"
          refine iteD (fun e1 => ?_) (fun e1 => ?_)
          · have n3 : n = 3 := by
              have q : ((n : Nat) : Int) = 3 := by injection e1
              omega
            walk_at "run"
            refine ⟨_, _, _, _, rfl, rfl, SqT.of (s2 _ _ hb), atC 7 rfl g7, ?_⟩
            subst n3
            walk_at "run"
            refine iteD (fun e7 => ?_) (fun e7 => ?_)
            · have w7 : ws.getD 7 0 % 256 = 1 := by
                have q : ((ws.getD 7 0 : Nat) : Int) % 256 = 1 := by injection e7
                omega
              walk_at "run"
              refine sl_words (tl := ws.take 4) (s2 _ _ hb) ?_ ?_ (fun p hp => ?_)
              · rw [cutV_w h8]; rfl
              · rw [List.length_map, h8]; intro z; exact absurd z.2 (by decide)
              have hpT : upd H2 p (.tup ((ws.take 4).map vN)) p = some (.tup ((ws.take 4).map vN)) := upd_same
              refine ⟨_, rfl, ⟨_, SqT.of hpT⟩, fun D hD => ?_⟩
              refine lc_tup (K := K) (xs := (ws.take 4).map vN) (fun j H4 => ∃ ac, H4 D = some (.lst ac) ∧ DtAll H4 ac (((nz ((ws.take 4).take j)).map fun x => (x, 0)).map oD) ∧ ac.length ≤ j ∧ Same (upd H2 p (.tup ((ws.take 4).map vN))) H4) ⟨_, upd_same, .nil, Nat.le_refl _, Same.new hD⟩ (fun j H4 _ h => by obtain ⟨_, _, _, _, h⟩ := h; exact SqT.of (h _ _ hpT)) ?_ ?_
              · rintro j x H4 hx ⟨ac, hac, hda4, hl4, s4⟩
                have tll : (ws.take 4).length ≤ 8 := by simp; omega
                obtain ⟨n', hn', rfl⟩ : ∃ n', (ws.take 4)[j]? = some n' ∧ x = vN n' := by
                  rw [List.getElem?_map] at hx
                  cases e : (ws.take 4)[j]? with
                  | none => rw [e] at hx; cases hx
                  | some n' => rw [e] at hx; exact ⟨n', rfl, (Option.some.inj hx).symm⟩
                have hj : j < (ws.take 4).length := (List.getElem?_eq_some_iff.mp hn').1
                refine ⟨rfl, ?_⟩
                walk_at "run"
                refine iteDn (fun hne => ?_) (fun heq => ?_)
                · have n0 : ¬ n' = 0 := fun q => hne (by rw [q]; rfl)
                  walk_at "run"
                  refine ⟨szl rfl, fun q hq => ?_⟩
                  have nDq : D ≠ q := ne_of_none hac hq
                  refine ⟨_, Eq.trans (upd_ne nDq) hac, szt (by omega), ac ++ [.ref q], upd_same, ?_, by rw [List.length_append]; show _ + 1 ≤ _; omega, Same.mut (s4.trans (Same.new hq)) hD⟩
                  rw [nz_snoc hn', if_neg n0, List.map_append, List.map_append]
                  exact snoc_o hda4 (os_tonly _) hac hq
                · have n0 : n' = 0 := by
                    have q : ((n' : Nat) : Int) = 0 := by injection heq
                    omega
                  refine ⟨ac, hac, ?_, by omega, s4⟩
                  rw [nz_snoc hn', if_pos n0, List.append_nil]
                  exact hda4
              · rintro H4 ⟨ac, hac, hda4, hl4, s4⟩
                rw [List.length_map, List.take_length] at hda4
                rw [List.length_map] at hl4
                refine ⟨D, ac, _, rfl, hac, ?_, (s2.trans (Same.new (o := .tup ((ws.take 4).map vN)) hp)).trans s4, (s2.trans (Same.new (o := .tup ((ws.take 4).map vN)) hp)).free hD⟩
                have e : lawL 3 ws = (nz (ws.take 4)).map (fun x => (x, 0)) := by unfold lawL; rw [if_neg (by decide), if_neg (by decide), if_pos ⟨rfl, w7⟩]
                rw [e]
                exact hda4
            · refine keep fun z => e7 ?_
              show V.int (((ws.getD 7 0 : Nat) : Int) % 256) = V.int 1
              have := z.2
              rw [show ((ws.getD 7 0 : Nat) : Int) % 256 = 1 by omega]
          · exact keep fun z => e1 (by rw [z.1]; rfl)
        · rintro σ H3 ⟨L, ac, o4, rfl, hL, hda, s1, hLn⟩
          have ke := lawO_fit (B := B) hn nb
          have ol : (lawL n ws).length ≤ 4 := lawL_len n ws
          rw [ke] at k
          unfold fitO at k
          generalize lawL n ws = os at hda ol k
          have al : ac.length = os.length := by rw [hda.len, List.length_map]
          walk_at "run"
          refine ⟨⟨_, SqL.of hL⟩, fun D hD => ?_⟩
          refine lcL (xs := ac) ((os.map (·.1)).map vN) (by simp [al]) (by omega) hL hD ?_ ?_
          · intro j x y H2 Q' hx hy s2 q
            obtain ⟨d, hd1, hd2⟩ := hda.getV hx
            have hj : j < os.length := by rw [← al]; exact (List.getElem?_eq_some_iff.mp hx).1
            rw [List.getElem?_map, List.getElem?_eq_getElem hj] at hd1
            have ed : d = oD os[j] := (Option.some.inj hd1).symm
            subst ed
            have ey : y = .int (os[j].1 : Int) := by
              rw [List.getElem?_map, List.getElem?_map, List.getElem?_eq_getElem hj] at hy
              exact (Option.some.inj hy).symm
            subst ey
            obtain ⟨t, rfl, ht⟩ := oD_open hd2
            refine ⟨rfl, ?_⟩
            walk_at "run"
            exact ⟨_, _, _, _, rfl, rfl, SqT.of (s2 _ _ ht), atC 0 rfl rfl, q H2 (Same.refl _)⟩
          · intro H2 s2 d2
            have nl : (os.map (·.1)).length = os.length := by rw [List.length_map]
            walk_at "run"
            refine ⟨by omega, by simp; omega, ?_⟩
            show ∃ W : Nat → Nat → L2.St → Hp → Prop, _
            refine for_range (fun j σ H3 => ∃ (o7 : Option V), σ = [some (.int (n : Int)), some (.ref b), some (.int (B : Int)), some (.ref L), o4, some (.ref D), none, o7] ∧ Same H2 H3 ∧ fits B (os.take j) = true) ?_ ?_ ?_
            · exact ⟨none, rfl, Same.refl _, rfl⟩
            · rintro j σ H3 hj ⟨o7, rfl, s3, hf⟩
              have hj' : j < os.length := by simpa using hj
              have d3 := s3 _ _ d2
              have gx : ((os.map (·.1)).map vN)[j]? = some (.int (os[j].1 : Nat)) := by
                rw [List.getElem?_map, List.getElem?_map, List.getElem?_eq_getElem hj']; rfl
              walk_at "run"
              refine ⟨_, _, _, _, rfl, rfl, SqL.of d3, atC j (by omega) gx, ?_⟩
              walk_at "run"
              have bad : ∀ H', Same H H' → fits B (os.take (j + 1)) = false → Q .non H' := by
                intro H' s' hb'
                rw [fits_bad hb'] at k
                exact k _ _ s' .non (fun a z => (by cases z))
              have s03 := (s1.trans s2).trans s3
              have fs := fits_snoc (B := B) hj'
              rw [hf, Bool.true_and] at fs
              refine iteD (fun h4 => ?_) (fun h4 => ?_)
              · refine iteT (bad _ s03 ?_)
                rw [fs, decide_eq_false (by omega : ¬ 4 ≤ os[j].1)]; rfl
              · walk_at "run"
                refine ⟨_, _, _, _, rfl, rfl, SqL.of d3, atC j (by omega) gx, ?_⟩
                walk_at "run"
                refine iteD (fun hB => ?_) (fun hB => ?_)
                · refine iteT (bad _ s03 ?_)
                  rw [fs, decide_eq_false (by omega : ¬ os[j].1 < B), Bool.and_false]; rfl
                · rw [decide_eq_true (by omega : 4 ≤ os[j].1), decide_eq_true (by omega : os[j].1 < B), Bool.true_and, Bool.true_and] at fs
                  walk_at "run"
                  refine ⟨_, _, _, _, rfl, rfl, SqL.of d3, atC j (by omega) gx, ?_⟩
                  have ec : cutV ((os.map (·.1)).map vN) none (some (0 + (j : Int))) = ((os.take j).map (·.1)).map vN := by
                    unfold cutV
                    rw [show (0 + (j : Int)) = ((j : Nat) : Int) by omega, HT.sIx_nat, HT.sIx_none, List.drop_zero, Nat.sub_zero, List.length_map, List.length_map, Nat.min_eq_left (by omega), List.map_take, List.map_take]
                  walk_at "run"
                  refine ⟨D, _, rfl, SqL.of d3, fun p hp => ?_⟩
                  rw [ec]
                  refine ⟨p, _, rfl, .inl (SqL.of upd_same), rfl, vN_flat _, _, rfl, ?_⟩
                  show if inV (.int (os[j].1 : Int)) (((os.take j).map (·.1)).map vN) = true then _ else _
                  rw [inV_nat]
                  refine iteD (fun hin => ?_) (fun hin => ?_)
                  · refine bad _ (s03.trans (Same.new hp)) ?_
                    rw [fs, decide_eq_true hin]; rfl
                  · refine ⟨_, rfl, s3.trans (Same.new hp), ?_⟩
                    rw [fs, decide_eq_false hin]; rfl
            · rintro σ H3 ⟨o7, rfl, s3, hf⟩
              have hf : fits B os = true := by
                rw [List.take_of_length_le (by simp)] at hf
                exact hf
              rw [if_pos hf] at k
              have sF := s2.trans s3
              walk_at "run"
              exact k _ _ (s1.trans sF) (.lst (sF _ _ hL) (hda.same sF)) (fun a z => by cases z; exact hLn)
end
end My

namespace My
open PySem L2
local macro_rules | `(tactic| walk_at "ne") => `(tactic| first | assumption | exact Ne.symm (by assumption) | exact ne_of_none (by assumption) (by assumption) | exact Ne.symm (ne_of_none (by assumption) (by assumption)))
local macro_rules | `(tactic| walk_at "hp") => `(tactic| first | assumption | with_reducible exact upd_same | (with_reducible refine Eq.trans (upd_ne ?_) ?_; rotate_left; walk_at "hp"; walk_at "ne"))
local macro_rules | `(tactic| walk_at "cnd") => `(tactic| first | omega | (show (0 : Int) < _; omega) | exact ⟨by omega, by omega⟩ | exact Or.inl ⟨by omega, by omega⟩ | exact Or.inr ⟨by omega, by omega⟩ | exact ⟨by omega, by omega, by decide⟩ | exact ⟨by omega, by omega, by omega⟩)
local macro_rules | `(tactic| walk_at "at") => `(tactic| first | exact atC 0 rfl rfl | exact atC 1 rfl rfl | exact atC 2 rfl rfl | exact atC 3 rfl rfl | exact atC 4 rfl rfl | exact atC 5 rfl rfl | exact atC 6 rfl rfl | exact atC 7 rfl rfl)
local macro_rules | `(tactic| walk_at "ix") => `(tactic| first | exact ixC 0 rfl (Nat.le_of_ble_eq_true rfl) | exact ixC 1 rfl (Nat.le_of_ble_eq_true rfl) | exact ixC 2 rfl (Nat.le_of_ble_eq_true rfl) | exact ixC 3 rfl (Nat.le_of_ble_eq_true rfl) | exact ixC 4 rfl (Nat.le_of_ble_eq_true rfl) | exact ixC 5 rfl (Nat.le_of_ble_eq_true rfl))
local macro_rules | `(tactic| walk_at "st") => `(tactic| first
  | refine ⟨_, rfl, ?_⟩
  | refine ⟨_, _, rfl, rfl, (by walk_at "cnd" : (_ : Prop)), ?_⟩
  | refine ⟨_, _, rfl, rfl, ?_⟩
  | refine ⟨rfl, ?_⟩
  | refine Or.inl ⟨_, rfl, ?_⟩
  | refine ⟨_, _, _, _, rfl, rfl, by exact SqL.of (by walk_at "hp"), by walk_at "at", ?_⟩
  | refine ⟨_, _, _, _, rfl, rfl, by exact SqT.of (by walk_at "hp"), by walk_at "at", ?_⟩
  | refine ⟨_, _, _, _, rfl, rfl, by walk_at "hp", by walk_at "ix", ?_⟩
  | refine ⟨_, _, rfl, Or.inl (by exact SqL.of (by walk_at "hp")), ?_⟩
  | refine ⟨_, _, rfl, Or.inr (by exact SqT.of (by walk_at "hp")), ?_⟩)
local macro_rules | `(tactic| walk_at "so") => `(tactic| first
  | refine ⟨_, _, _, _, _, rfl, by walk_at "hp", by assumption, by assumption, rfl, ?_⟩
  | refine ⟨_, _, _, _, rfl, by walk_at "hp", by assumption, by assumption, Nat.le_of_ble_eq_true rfl, ?_⟩
  | refine ⟨_, _, _, rfl, by walk_at "hp", rfl, ?_⟩
  | walk_at "st")
local macro_rules | `(tactic| walk_at "ro") => `(tactic| repeat walk_at "so")
local macro_rules | `(tactic| walk_at "run") => `(tactic| repeat walk_at "st")

theorem entD_at {rows : List Row} {vs : List V} {i : Nat} {k : Key} {v : V} (h : vs.length = rows.length) (e : (entD rows vs)[i]? = some (k, v)) : ∃ r, rows[i]? = some r ∧ k = .inl (r.1 : Int) := by
  unfold entD at e
  rw [List.getElem?_map] at e
  cases h1 : (rows.zip vs)[i]? with
  | none => rw [h1] at e; cases e
  | some p =>
    rw [h1] at e
    have e' : ((.inl (p.1.1 : Int) : Key), p.2) = (k, v) := Option.some.inj e
    have h2 := List.getElem?_zip_eq_some.mp h1
    injection e' with e1 e2
    exact ⟨p.1, h2.1, e1.symm⟩
theorem same_lock {H H' : Hp} {d : Addr} {u : HO} {od : Obj} (h : H d = some u) (s : Same (upd H d (.frz od u)) H') : Same H (upd H' d u) := fun b o e => by
  by_cases hb : b = d
  · rw [hb, upd_same]
    rw [hb, h] at e
    exact e
  · rw [upd_ne hb]
    exact s b o (by rw [upd_ne hb]; exact e)
def FDs (H : Hp) (ds : List Addr) (rss : List (List Row)) : Prop := ds.length = rss.length ∧ ∀ (j : Nat) (d : Addr) (rows : List Row), ds[j]? = some d → rss[j]? = some rows → FD H d rows
theorem FDs.same {H H' : Hp} {ds : List Addr} {rss : List (List Row)} (h : FDs H ds rss) (s : Same H H') : FDs H' ds rss := ⟨h.1, fun j d rows h1 h2 => (h.2 j d rows h1 h2).same s⟩
theorem FD.ups {H : Hp} {d a : Addr} {o : HO} {rows : List Row} (h : FD H d rows) (n : a ≠ d) (t : TS H (upd H a o)) : FD (upd H a o) d rows := by
  obtain ⟨vs, h1, h2⟩ := h
  exact ⟨vs, by rw [upd_ne n.symm]; exact h1, h2.ts t (rvs_tonly _)⟩
theorem FDs.ups {H : Hp} {ds : List Addr} {a : Addr} {o : HO} {rss : List (List Row)} (h : FDs H ds rss) (n : a ∉ ds) (t : TS H (upd H a o)) : FDs (upd H a o) ds rss :=
  ⟨h.1, fun j d rows h1 h2 => (h.2 j d rows h1 h2).ups (fun e => n (by rw [e]; exact List.mem_of_getElem? h1)) t⟩
theorem FDs.nil (H : Hp) : FDs H [] [] := ⟨rfl, fun j d rows h => by simp at h⟩
theorem FDs.snoc {H : Hp} {ds : List Addr} {d : Addr} {rss : List (List Row)} {rows : List Row} (h : FDs H ds rss) (h' : FD H d rows) : FDs H (ds ++ [d]) (rss ++ [rows]) := by
  refine ⟨by rw [List.length_append, List.length_append, h.1]; rfl, fun j d' rows' h1 h2 => ?_⟩
  by_cases hj : j < ds.length
  · rw [List.getElem?_append_left hj] at h1
    rw [List.getElem?_append_left (by rw [← h.1]; exact hj)] at h2
    exact h.2 j d' rows' h1 h2
  · have hj' : j = ds.length := by
      have := (List.getElem?_eq_some_iff.mp h1).1
      rw [List.length_append] at this
      have : j < ds.length + 1 := this
      omega
    subst hj'
    rw [List.getElem?_append_right (Nat.le_refl _), Nat.sub_self] at h1
    rw [h.1, List.getElem?_append_right (Nat.le_refl _), Nat.sub_self] at h2
    have e1 : d = d' := Option.some.inj h1
    have e2 : rows = rows' := Option.some.inj h2
    subst e1 e2
    exact h'
theorem FDs.notLst {H : Hp} {ds : List Addr} {rss : List (List Row)} {a : Addr} {o : HO} (h : FDs H ds rss) (ha : H a = some o) (n : ∀ ks, o ≠ .dK ks) : a ∉ ds := fun hm => by
  obtain ⟨j, hj⟩ := List.getElem?_of_mem hm
  have hl := (List.getElem?_eq_some_iff.mp hj).1
  obtain ⟨rows, hr⟩ : ∃ rows, rss[j]? = some rows := ⟨_, List.getElem?_eq_getElem (by rw [← h.1]; exact hl)⟩
  obtain ⟨vs, h1, _⟩ := h.2 j a rows hj hr
  rw [ha] at h1
  exact n _ (Option.some.inj h1)
theorem FDs.there {H : Hp} {ds : List Addr} {rss : List (List Row)} {a : Addr} (h : FDs H ds rss) (hm : a ∈ ds) : H a ≠ none := by
  obtain ⟨j, hj⟩ := List.getElem?_of_mem hm
  have hl := (List.getElem?_eq_some_iff.mp hj).1
  obtain ⟨rows, hr⟩ : ∃ rows, rss[j]? = some rows := ⟨_, List.getElem?_eq_getElem (by rw [← h.1]; exact hl)⟩
  obtain ⟨vs, h1, _⟩ := h.2 j a rows hj hr
  rw [h1]
  intro z; cases z
theorem ts_lst {H : Hp} {d : Addr} {ks : List V} {o : HO} (h : H d = some (.lst ks)) : TS H (upd H d o) := fun b xs e => by
  rw [upd_ne (ne_of e h (by intro z; cases z))]
  exact e
/-- four forests in a list -/
structure Fors (is : List (List Nat)) (H0 H : Hp) (L : Addr) (ds : List Addr) (rss : List (List Row)) : Prop where
  l : H L = some (.lst (ds.map V.ref))
  f : FDs H ds rss
  nd : ds.Nodup
  nw : ∀ d ∈ ds, H0 d = none
  bn : (blss rss).Nodup
  bl : ∀ b ∈ blss rss, b < is.length
theorem Fors.same {is : List (List Nat)} {H0 H H' : Hp} {L : Addr} {ds : List Addr} {rss : List (List Row)} (h : Fors is H0 H L ds rss) (s : Same H H') : Fors is H0 H' L ds rss := ⟨s _ _ h.l, h.f.same s, h.nd, h.nw, h.bn, h.bl⟩
def AllQ (is : List (List Nat)) (H : Hp) (Q : VK) : Prop :=
  (∀ (w : Str) (b : Nat) (t : Addr) (H' : Hp), Same H H' → allE is = .inl (w, b) → H' t = some (.tup [.str w, .int (b : Int)]) → Q (.ref t) H') ∧
  (∀ (rss : List (List Row)) (t L : Addr) (ds : List Addr) (H' : Hp), Same H H' → allE is = .inr rss → Fors is H H' L ds rss → H L = none → H' t = some (.tup [.str "ok", .ref L]) → Q (.ref t) H')
def spForests (C : Addr) : Sp := fun vs H Q _ => ∃ (img x L R : Addr) (is : List (List Nat)) (rs : List Nat), vs = [.ref img, .ref x] ∧ ImgAt H img is ∧ 4 ≤ is.length ∧ Ty C H x L R is.length PS rs ∧ AllQ is H Q
section
variable {P : Program} {w : World} {K : PySem.W.Frag} {mg : Str → Option Value} {base : Heap} {C_Types C_NotValid : Addr}
abbrev s_forests : Stmt := topS 36
abbrev ns_forests : List Str := ["image", "types", "found", "elder", "environment", "forest", "fault", "block"]
theorem sc_forests : FnScope ns_forests ["image", "types"] (defScope s_forests) := ⟨rfl, rfl, rfl, by decide +kernel, rfl, by decide +kernel, by decide +kernel⟩

theorem ok_forests {f : Addr} {fd : FuncData} (F : Fun K "forests" "forests" s_forests f fd) (T : Txt K mg C_Types C_NotValid) (D_grown : Dfn P w K mg base CX0 7 "grown" ["starts", "table", "types", "elder"] (spGrown C_Types)) : FnOk P w K mg base CX0 8 f fd ["image", "types"] (spForests C_Types) := by
  refine F.ok sc_forests (fun vs H Q E h => ?_) (fun cdv A outer s H vs Q E hr h => ?_)
  · obtain ⟨img, x, L, R, is, rs, rfl, _⟩ := h
    rfl
  · obtain ⟨img, x, L, R, is, rs, rfl, him, h4, ty, kb, kg⟩ := h
    refine ⟨_, (pss_cons (ps_set (i := 2) sc_forests.nd rfl (Or.inl rfl) (pe_lst pa_nil))
  (pss_cons (ps_set (i := 3) sc_forests.nd rfl (Or.inl rfl) pe_dnewK)
  (pss_cons (ps_for PassesOwn.never (by rfl) (pi_range1 (by rfl) T.b_range (pa_cons (pe_gint (by rfl) T.c_ENVIRONMENTS) pa_nil)) (pg_name (i := 4) sc_forests.nd rfl (Or.inl rfl)) (pss_cons (ps_asg (pe_dcall D_grown (hr.mono (by decide)) (by rfl) pass0 (pa_cons (pe_lst (pa_cons (pe_tup (pa_cons (pv 4) (pa_cons (pe_gint (by rfl) T.c_ROOT) pa_nil))) pa_nil)) (pa_cons (pv 0) (pa_cons (pv 1) (pa_cons (pv 3) pa_nil))))) (kpgT K (n := 2) (by rfl) (pgs_cons (pg_name (i := 5) sc_forests.nd rfl (Or.inl rfl)) (pgs_cons (pg_name (i := 6) sc_forests.nd rfl (Or.inl rfl)) pgs_nil))))
  (pss_cons (ps_if (pt_cmpR op_notN (pv 6) pe_non (nomark _)) (pss_one (ps_ret (pv 6))) pss_nil)
  (pss_cons (ps_expr (kBM K PySem.F.plainAttrs_list PySem.F.slot_list_append PySem.F.type_list_append mt_append (pv 2) (pa_cons (pv 5) pa_nil)))
  (pss_one (ps_expr (kBM K PySem.F.plainAttrs_dict PySem.F.slot_dict_update PySem.F.type_dict_update mt_update (pv 3) (pa_cons (pe_lock (pe_dc (own := [("block", 7)]) (by rfl) sc_forests.nd (pi_keys (pv 5)) (blkOk_by (N := ns_forests) (sc := defScope s_forests) (by decide +kernel)) (fun _ _ _ _ _ => (pg_name (i := 7) sc_forests.nd rfl (Or.inl rfl))) (fun _ _ _ _ _ => pts_nil) (fun _ _ _ _ _ => (pv 7)) (fun _ _ _ _ _ => pe_bl))) pa_nil))))))))
  (pss_one (ps_ret (pe_tup (pa_cons pe_str (pa_cons (pv 2) pa_nil)))))))), ?_⟩
    refine ⟨szl rfl, fun Lf hLf => ?_⟩
    walk_at "run"
    refine fun el hel => ?_
    have s0 : Same H (upd H Lf (.lst [])) := Same.new hLf
    have s00 : Same H (upd (upd H Lf (.lst [])) el (.dK [])) := s0.trans (Same.new hel)
    have hel0 : H el = none := s0.free hel
    have lf1 : upd (upd H Lf (.lst [])) el (.dK []) Lf = some (.lst []) := Same.new hel _ _ upd_same
    have el1 : upd (upd H Lf (.lst [])) el (.dK []) el = some (.dK []) := upd_same
    generalize upd (upd H Lf (.lst [])) el (.dK []) = G at s00 lf1 el1
    walk_at "run"
    refine ⟨by decide, by decide, ?_⟩
    show ∃ W : Nat → Nat → L2.St → Hp → Prop, _
    refine for_range (fun i σ H1 => ∃ (o4 o5 o6 : Option V) (seen : List Nat) (acc : List (List Row)) (ds : List Addr), σ = [some (.ref img), some (.ref x), some (.ref Lf), some (.ref el), o4, o5, o6, none] ∧ EI is i seen acc ∧ H1 Lf = some (.lst (ds.map V.ref)) ∧ FDs H1 ds acc ∧ ds.Nodup ∧ (∀ d ∈ ds, H d = none) ∧ H1 el = some (.dK (elD seen)) ∧ el ∉ ds ∧ Same H H1) ?_ ?_ ?_
    · exact ⟨none, none, none, [], [], [], rfl, EI.start is, lf1, FDs.nil _, .nil, fun _ h => (by cases h), el1, (by simp), s00⟩
    · rintro i σ H1 hi ⟨o4, o5, o6, seen, acc, ds, rfl, J, hl, hf, hnd, hnw, hel1, nes, s1⟩
      have hi4 : i < 4 := hi
      walk_at "run"
      refine ⟨szl rfl, fun st hst => ⟨szl rfl, fun S hS => ?_⟩⟩
      have sS := (Same.new hst).trans (Same.new (o := .lst [.ref st]) hS)
      have hst3 := Same.new (o := .lst [.ref st]) hS _ _ (upd_same (H := H1) (a := st) (o := .tup [.int (0 + (i : Int)), .int 1]))
      have hS3 := upd_same (H := upd H1 st (.tup [.int (0 + (i : Int)), .int 1])) (a := S) (o := .lst [.ref st])
      generalize upd (upd H1 st (.tup [.int (0 + (i : Int)), .int 1])) S (.lst [.ref st]) = G3 at sS hst3 hS3
      rw [Int.zero_add] at hst3
      have s13 := s1.trans sS
      walk_at "run"
      refine ⟨S, st, img, x, el, L, R, is, rs, seen, i, rfl, hS3, hst3, him.same s13, ty.same s13, sS _ _ hel1, by omega, J.nd, J.sl, ?_, ?_⟩
      · intro w b t d f G4 s4 hw ht hf
        refine ⟨t, _, rfl, SqT.of ht, rfl, _, _, rfl, _, _, rfl, rfl, ?_⟩
        walk_at "run"
        exact kb w b f G4 (s13.trans s4) (J.bad hi4 hw) hf
      · intro rows t d G4 s4 hw nd ok ht hfd hdn
        refine ⟨t, _, rfl, SqT.of ht, rfl, _, _, rfl, _, _, rfl, rfl, ?_⟩
        walk_at "run"
        have s14 := s13.trans s4
        have hl4 := s4 _ _ (sS _ _ hl)
        have hf4 := (hf.same sS).same s4
        have el4 := s4 _ _ (sS _ _ hel1)
        have al : ds.length = i := by rw [hf.1, J.al]
        have dn : d ∉ ds := fun hm => (hf.same sS).there hm hdn
        have nLd : Lf ≠ d := ne_of_none (sS _ _ hl) hdn
        have ned : el ≠ d := ne_of_none (sS _ _ hel1) hdn
        have neL : el ≠ Lf := ne_of hel1 hl (by intro z; cases z)
        have nLds : Lf ∉ ds := hf.notLst hl (by intro ks z; cases z)
        refine ⟨.inl ⟨rfl, _, SqL.of hl4⟩, ?_⟩
        walk_at "run"
        refine ⟨_, _, _, rfl, rfl, hl4, szt (by rw [List.length_map]; omega), ?_⟩
        have tsL := ts_lst (o := .lst (ds.map V.ref ++ [.ref d])) hl4
        have hl5 : upd G4 Lf (.lst (ds.map V.ref ++ [.ref d])) Lf = some (.lst ((ds ++ [d]).map V.ref)) := by rw [upd_same, List.map_append]; rfl
        have hf5 : FDs (upd G4 Lf (.lst (ds.map V.ref ++ [.ref d]))) (ds ++ [d]) (acc ++ [rows]) := (hf4.ups nLds tsL).snoc (hfd.ups nLd tsL)
        have el5 : upd G4 Lf (.lst (ds.map V.ref ++ [.ref d])) el = some (.dK (elD seen)) := by rw [upd_ne neL]; exact el4
        have hfd5 := hfd.ups nLd tsL
        have s15 : Same H (upd G4 Lf (.lst (ds.map V.ref ++ [.ref d]))) := Same.mut s14 hLf
        generalize upd G4 Lf (.lst (ds.map V.ref ++ [.ref d])) = G5 at hl5 hf5 el5 hfd5 s15
        walk_at "run"
        refine ⟨.inr (.inr (.inl ⟨rfl, .inl ⟨_, el5⟩⟩)), ?_⟩
        obtain ⟨vs, hd5, hvs5⟩ := id hfd5
        have vl : vs.length = rows.length := by rw [hvs5.len, List.length_map]
        have blen : (bls rows).length = rows.length := by unfold bls; rw [List.length_map]
        have ndr : (bls rows).Nodup := (List.nodup_append.mp nd).2.1
        have rl : rows.length ≤ 40 := by
          have q := pigeon is.length (bls rows) ndr fun b hb => by
            obtain ⟨r, hr, rfl⟩ := List.mem_map.mp hb
            exact ok r hr
          have := him.2.2
          omega
        have sl40 : seen.length ≤ 40 := by
          have q := pigeon is.length seen J.nd J.sl
          have := him.2.2
          omega
        refine ⟨d, _, hd5, True.intro, fun od => ?_⟩
        walk_at "run"
        refine ⟨d, od, rfl, .inl ⟨_, upd_same, fun D hD => ?_⟩⟩
        have elG : upd G5 d (.frz od (.dK (entD rows vs))) el = some (.dK (elD seen)) := by rw [upd_ne ned]; exact el5
        have nDd : d ≠ D := ne_of_none (upd_same (H := G5) (a := d) (o := .frz od (.dK (entD rows vs)))) hD
        have nDe : el ≠ D := ne_of_none elG hD
        refine ⟨fun j m Hx => m = rows.length - j ∧ j ≤ rows.length ∧ Hx D = some (.dK (elD ((bls rows).take j))) ∧ Same (upd G5 d (.frz od (.dK (entD rows vs)))) Hx, ⟨_, rfl, Nat.zero_le _, upd_same, Same.new hD⟩, ?_⟩
        rintro j m Hx ⟨rfl, hj, hxD, sx⟩
        have hxd := sx d _ upd_same
        by_cases hlt : j < rows.length
        · refine .inr ⟨⟨hxd, by rw [entD_len vl]; exact hlt⟩, fun H' => H' D = some (.dK (elD ((bls rows).take (j + 1)))) ∧ Same (upd G5 d (.frz od (.dK (entD rows vs)))) H', fun H' ⟨h1, h2⟩ => ⟨rows.length - (j + 1), by omega, rfl, hlt, h1, h2⟩, ?_⟩
          rintro y H' ⟨rfl, k, v, hk, rfl⟩
          obtain ⟨r, hr, rfl⟩ := entD_at vl hk
          have hbr : (bls rows)[j]? = some r.1 := by unfold bls; rw [List.getElem?_map, hr]; rfl
          have nin : r.1 ∉ (bls rows).take j := by
            have q : ((bls rows).take (j + 1)).Nodup := ndr.sublist (List.take_sublist _ _)
            rw [← take_snoc hbr] at q
            exact fun hm => (List.nodup_append.mp q).2.2 _ hm _ (List.mem_singleton.mpr rfl) rfl
          refine ⟨rfl, ?_⟩
          walk_at "run"
          refine ⟨_, .inl (r.1 : Int), rfl, hxD, ?_, ?_, ?_⟩
          · unfold elD
            rw [List.length_map, List.length_take]
            exact szt (by omega)
          · rw [put_el nin, take_snoc hbr]; exact upd_same
          · exact Same.mut sx hD
        · have ej : j = rows.length := by omega
          subst ej
          rw [← blen, List.take_length] at hxD
          refine .inl ⟨⟨hxd, by rw [entD_len vl]; exact Nat.le_refl _⟩, hxd, ?_⟩
          have s56 : Same G5 (upd Hx d (.dK (entD rows vs))) := same_lock hd5 sx
          have hxD' : upd Hx d (.dK (entD rows vs)) D = some (.dK (elD (bls rows))) := by rw [upd_ne nDd.symm]; exact hxD
          generalize upd Hx d (.dK (entD rows vs)) = G6 at s56 hxD'
          have ell : (elD seen).length = seen.length := by unfold elD; rw [List.length_map]
          have elb : (elD (bls rows)).length = rows.length := by unfold elD; rw [List.length_map, blen]
          have el6 := s56 _ _ el5
          refine ⟨el, D, _, _, rfl, rfl, nDe, el6, hxD', szn (by omega), ?_⟩
          rw [merge_el nd]
          have hds' : el ∉ ds ++ [d] := fun hm => by
            rcases List.mem_append.mp hm with h | h
            · exact nes h
            · exact ned (List.mem_singleton.mp h)
          refine ⟨_, _, _, seen ++ bls rows, acc ++ [rows], ds ++ [d], rfl, J.next hi4 hw nd ok, ?_, (hf5.same s56).ups hds' (ts_dK el6), ?_, ?_, upd_same, hds', Same.mut (s15.trans s56) hel0⟩
          · rw [upd_ne neL.symm]; exact s56 _ _ hl5
          · exact List.nodup_append.mpr ⟨hnd, by simp, fun a ha b hb e => dn (by rw [List.mem_singleton.mp hb] at e; rw [← e]; exact ha)⟩
          · intro a ha
            rcases List.mem_append.mp ha with h | h
            · exact hnw a h
            · rw [List.mem_singleton.mp h]; exact s13.free hdn
    · rintro σ H1 ⟨o4, o5, o6, seen, acc, ds, rfl, J, hl, hf, hnd, hnw, hel1, nes, s1⟩
      walk_at "run"
      refine ⟨szl rfl, fun t ht => ?_⟩
      have se := J.se
      refine kg acc t Lf ds _ (s1.trans (Same.new ht)) J.fin (Fors.same ⟨hl, hf, hnd, hnw, by rw [← se]; exact J.nd, by rw [← se]; exact J.sl⟩ (Same.new ht)) hLf upd_same
end
end My

namespace My
open PySem L2
local macro_rules | `(tactic| walk_at "ne") => `(tactic| first | assumption | exact Ne.symm (by assumption) | exact ne_of_none (by assumption) (by assumption) | exact Ne.symm (ne_of_none (by assumption) (by assumption)))
local macro_rules | `(tactic| walk_at "hp") => `(tactic| first | assumption | with_reducible exact upd_same | (with_reducible refine Eq.trans (upd_ne ?_) ?_; rotate_left; walk_at "hp"; walk_at "ne"))
local macro_rules | `(tactic| walk_at "cnd") => `(tactic| first | omega | (show (0 : Int) < _; omega) | exact ⟨by omega, by omega⟩ | exact Or.inl ⟨by omega, by omega⟩ | exact Or.inr ⟨by omega, by omega⟩ | exact ⟨by omega, by omega, by decide⟩ | exact ⟨by omega, by omega, by omega⟩)
local macro_rules | `(tactic| walk_at "at") => `(tactic| first | exact atC 0 rfl rfl | exact atC 1 rfl rfl | exact atC 2 rfl rfl | exact atC 3 rfl rfl | exact atC 4 rfl rfl | exact atC 5 rfl rfl | exact atC 6 rfl rfl | exact atC 7 rfl rfl)
local macro_rules | `(tactic| walk_at "ix") => `(tactic| first | exact ixC 0 rfl (Nat.le_of_ble_eq_true rfl) | exact ixC 1 rfl (Nat.le_of_ble_eq_true rfl) | exact ixC 2 rfl (Nat.le_of_ble_eq_true rfl) | exact ixC 3 rfl (Nat.le_of_ble_eq_true rfl) | exact ixC 4 rfl (Nat.le_of_ble_eq_true rfl) | exact ixC 5 rfl (Nat.le_of_ble_eq_true rfl))
local macro_rules | `(tactic| walk_at "st") => `(tactic| first
  | refine ⟨_, rfl, ?_⟩
  | refine ⟨_, _, rfl, rfl, (by walk_at "cnd" : (_ : Prop)), ?_⟩
  | refine ⟨_, _, rfl, rfl, ?_⟩
  | refine ⟨rfl, ?_⟩
  | refine Or.inl ⟨_, rfl, ?_⟩
  | refine ⟨_, _, _, _, rfl, rfl, by exact SqL.of (by walk_at "hp"), by walk_at "at", ?_⟩
  | refine ⟨_, _, _, _, rfl, rfl, by exact SqT.of (by walk_at "hp"), by walk_at "at", ?_⟩
  | refine ⟨_, _, _, _, rfl, rfl, by walk_at "hp", by walk_at "ix", ?_⟩
  | refine ⟨_, _, rfl, Or.inl (by exact SqL.of (by walk_at "hp")), ?_⟩
  | refine ⟨_, _, rfl, Or.inr (by exact SqT.of (by walk_at "hp")), ?_⟩)
local macro_rules | `(tactic| walk_at "so") => `(tactic| first
  | refine ⟨_, _, _, _, _, rfl, by walk_at "hp", by assumption, by assumption, rfl, ?_⟩
  | refine ⟨_, _, _, _, rfl, by walk_at "hp", by assumption, by assumption, Nat.le_of_ble_eq_true rfl, ?_⟩
  | refine ⟨_, _, _, rfl, by walk_at "hp", rfl, ?_⟩
  | walk_at "st")
local macro_rules | `(tactic| walk_at "ro") => `(tactic| repeat walk_at "so")
local macro_rules | `(tactic| walk_at "run") => `(tactic| repeat walk_at "st")

def spWalk : Sp := fun vs H Q _ => ∃ (img : Addr) (is : List (List Nat)), vs = [.ref img] ∧ ImgAt H img is ∧ 4 ≤ is.length ∧ AllQ is H Q
theorem bls_snoc {rows : List Row} {i : Nat} {r : Row} (h : rows[i]? = some r) : bls (rows.take (i + 1)) = bls (rows.take i) ++ [r.1] := by
  unfold bls
  rw [← take_snoc h, List.map_append]; rfl
section
variable {P : Program} {w : World} {K : PySem.W.Frag} {mg : Str → Option Value} {base : Heap} {C_Types C_NotValid : Addr}
abbrev s_law_walk : Stmt := topS 42
abbrev ns_law_walk : List Str := ["image", "led", "seen", "e", "found", "rows", "turn", "block", "owner", "kind", "owned", "one"]
theorem sc_law_walk : FnScope ns_law_walk ["image"] (defScope s_law_walk) := ⟨rfl, rfl, rfl, by decide +kernel, rfl, by decide +kernel, by decide +kernel⟩

theorem ok_law_walk {f : Addr} {fd : FuncData} (F : Fun K "_law_walk" "_law_walk" s_law_walk f fd) (T : Txt K mg C_Types C_NotValid) (D_law_owns : Dfn P w K mg base CX0 1 "_law_owns" ["kind", "words", "many"] spLOwns) : FnOk P w K mg base CX0 2 f fd ["image"] spWalk := by
  refine F.ok sc_law_walk (fun vs H Q E h => ?_) (fun cdv A outer s H vs Q E hr h => ?_)
  · obtain ⟨img, is, rfl, _⟩ := h
    rfl
  · obtain ⟨img, is, rfl, him, h4, kb, kg⟩ := h
    refine ⟨_, (pss_cons (ps_set (i := 1) sc_law_walk.nd rfl (Or.inl rfl) (pe_lst pa_nil))
  (pss_cons (ps_set (i := 2) sc_law_walk.nd rfl (Or.inl rfl) (pe_lst pa_nil))
  (pss_cons (ps_for PassesOwn.never (by rfl) (pi_range1 (by rfl) T.b_range (pa_cons pe_int pa_nil)) (pg_name (i := 3) sc_law_walk.nd rfl (Or.inl rfl)) (pss_cons (ps_set (i := 4) sc_law_walk.nd rfl (Or.inl rfl) pe_dnewK)
  (pss_cons (ps_set (i := 5) sc_law_walk.nd rfl (Or.inl rfl) (pe_lst (pa_cons (pe_tup (pa_cons (pv 3) (pa_cons pe_non (pa_cons pe_int pa_nil)))) pa_nil)))
  (pss_cons (ps_for PassesOwn.never (by rfl) (pi_range1 (by rfl) T.b_range (pa_cons pe_int pa_nil)) (pg_name (i := 6) sc_law_walk.nd rfl (Or.inl rfl)) (pss_one (ps_if (pt_cmpR op_lt (pv 6) (pe_callB (kLen K) (by rfl) T.b_len (by decide +kernel) (pa_cons (pv 5) pa_nil)) (nomark _)) (pss_cons (ps_asg (pe_ix (kIxL K) (pv 5) (pv 6) (fun _ _ => rfl)) (kpgT K (n := 3) (by rfl) (pgs_cons (pg_name (i := 7) sc_law_walk.nd rfl (Or.inr rfl)) (pgs_cons (pg_name (i := 8) sc_law_walk.nd rfl (Or.inl rfl)) (pgs_cons (pg_name (i := 9) sc_law_walk.nd rfl (Or.inl rfl)) pgs_nil)))))
  (pss_cons (ps_if (pt_cmpR (kIn K) (pv 7) (pv 2) (by rfl)) (pss_one (ps_ret (pe_tup (pa_cons pe_str (pa_cons (pv 7) pa_nil))))) pss_nil)
  (pss_cons (ps_set (i := 10) sc_law_walk.nd rfl (Or.inl rfl) (pe_dcall D_law_owns (hr.mono (by decide)) (by rfl) pass0 (pa_cons (pv 9) (pa_cons (pe_ix (kIxL K) (pv 0) (pv 7) (fun _ _ => rfl)) (pa_cons (pe_callB (kLen K) (by rfl) T.b_len (by decide +kernel) (pa_cons (pv 0) pa_nil)) pa_nil)))))
  (pss_cons (ps_if (pt_cmpR op_isN (pv 10) pe_non (nomark _)) (pss_one (ps_ret (pe_tup (pa_cons pe_str (pa_cons (pv 7) pa_nil))))) pss_nil)
  (pss_cons (ps_expr (kBM K PySem.F.plainAttrs_list PySem.F.slot_list_append PySem.F.type_list_append mt_append (pv 2) (pa_cons (pv 7) pa_nil)))
  (pss_cons (ps_dput (units1 hr) (pv 4) (pv 7) (pe_tup (pa_cons (pv 8) (pa_cons (pv 9) pa_nil))) rfl)
  (pss_one (ps_set (i := 5) sc_law_walk.nd rfl (Or.inl rfl) (pe_op op_cat (pv 5) (pe_lc (own := [("one", 11)]) (by rfl) sc_law_walk.nd (kpiL K (pv 10)) (blkOk_by (N := ns_law_walk) (sc := defScope s_law_walk) (by decide +kernel)) (fun _ _ _ _ _ => (pg_name (i := 11) sc_law_walk.nd rfl (Or.inl rfl))) (fun _ _ _ _ _ => pts_nil) (fun _ _ _ _ _ => (pe_tup (pa_cons (pe_ix (kIxT K) (pv 11) pe_int (fun _ _ => rfl)) (pa_cons (pv 7) (pa_cons (pe_ix (kIxT K) (pv 11) pe_int (fun _ _ => rfl)) pa_nil))))))))))))))) pss_nil)))
  (pss_one (ps_expr (kBM K PySem.F.plainAttrs_list PySem.F.slot_list_append PySem.F.type_list_append mt_append (pv 1) (pa_cons (pv 4) pa_nil))))))))
  (pss_one (ps_ret (pe_tup (pa_cons pe_str (pa_cons (pv 1) pa_nil)))))))), ?_⟩
    refine ⟨szl rfl, fun Lf hLf => ?_⟩
    walk_at "run"
    refine ⟨szl rfl, fun sn hsn => ?_⟩
    have s0 : Same H (upd H Lf (.lst [])) := Same.new hLf
    have s00 : Same H (upd (upd H Lf (.lst [])) sn (.lst [])) := s0.trans (Same.new hsn)
    have hsn0 : H sn = none := s0.free hsn
    have lf1 : upd (upd H Lf (.lst [])) sn (.lst []) Lf = some (.lst []) := Same.new hsn _ _ upd_same
    have sn1 : upd (upd H Lf (.lst [])) sn (.lst []) sn = some (.lst []) := upd_same
    have nLs : Lf ≠ sn := ne_of_none (upd_same (H := H) (a := Lf) (o := .lst [])) hsn
    generalize upd (upd H Lf (.lst [])) sn (.lst []) = G at s00 lf1 sn1
    walk_at "run"
    refine ⟨by decide, by decide, ?_⟩
    show ∃ W : Nat → Nat → L2.St → Hp → Prop, _
    refine for_range (fun i σ H1 => ∃ (o3 o4 o5 o6 o7 o8 o9 o10 : Option V) (seen : List Nat) (acc : List (List Row)) (ds : List Addr), σ = [some (.ref img), some (.ref Lf), some (.ref sn), o3, o4, o5, o6, o7, o8, o9, o10, none] ∧ EI is i seen acc ∧ H1 Lf = some (.lst (ds.map V.ref)) ∧ FDs H1 ds acc ∧ ds.Nodup ∧ (∀ d ∈ ds, H d = none) ∧ H1 sn = some (.lst (seen.map vN)) ∧ Same H H1) ?_ ?_ ?_
    · exact ⟨none, none, none, none, none, none, none, none, [], [], [], rfl, EI.start is, lf1, FDs.nil _, .nil, fun _ h => (by cases h), sn1, s00⟩
    · rintro e σ H1 hi ⟨o3, o4, o5, o6, o7, o8, o9, o10, seen, acc, ds, rfl, J, hl, hf, hnd, hnw, hsn1, s1⟩
      have hi4 : e < 4 := hi
      walk_at "run"
      refine fun d hd => ?_
      have sd := Same.new (o := .dK []) hd
      walk_at "run"
      refine ⟨szl rfl, fun t0 ht0 => ⟨szl rfl, fun A0 hA0 => ?_⟩⟩
      have nA0 : A0 ≠ sn := (ne_of_none ((sd.trans (Same.new (o := .tup [.int (0 + (e : Int)), .non, .int 1]) ht0)) _ _ hsn1) hA0).symm
      have sA := (sd.trans (Same.new (o := .tup [.int (0 + (e : Int)), .non, .int 1]) ht0)).trans (Same.new (o := .lst [.ref t0]) hA0)
      have hd3 := ((Same.new (o := .tup [.int (0 + (e : Int)), .non, .int 1]) ht0).trans (Same.new (o := .lst [.ref t0]) hA0)) _ _ (upd_same (H := H1) (a := d) (o := .dK []))
      have hA3 := upd_same (H := upd (upd H1 d (.dK [])) t0 (.tup [.int (0 + (e : Int)), .non, .int 1])) (a := A0) (o := .lst [.ref t0])
      have ht3 := (Same.new (o := .lst [.ref t0]) hA0) _ _ (upd_same (H := upd H1 d (.dK [])) (a := t0) (o := .tup [.int (0 + (e : Int)), .non, .int 1]))
      generalize upd (upd (upd H1 d (.dK [])) t0 (.tup [.int (0 + (e : Int)), .non, .int 1])) A0 (.lst [.ref t0]) = G3 at sA hd3 hA3 ht3
      rw [Int.zero_add] at ht3
      have hda3 : DtAll G3 [.ref t0] (([(e, none, 1)] : List Row).map rwD) := .cons (.tup ht3 (.cons (.int _) (.cons .non (.cons (.int _) .nil)))) .nil
      have hd0 : H d = none := s1.free hd
      have dn : d ∉ ds := fun hm => hf.there hm hd
      have nLd : Lf ≠ d := ne_of_none hl hd
      have nsd : sn ≠ d := ne_of_none hsn1 hd
      generalize hR : gr is seen 300 [(e, none, 1)] 0 = R'
      have W0 : WI is seen R' 300 [(e, none, 1)] 0 := by rw [← hR]; exact WI.start (by omega) J.nd J.sl
      have s13 := s1.trans sA
      walk_at "run"
      refine ⟨by decide, by decide, ?_⟩
      show ∃ W : Nat → Nat → L2.St → Hp → Prop, _
      refine for_range (fun t σ H2 => ∃ (o6 o7 o8 o9 o10 : Option V) (A : Addr) (i fu : Nat) (rows : List Row) (vs ac : List V), σ = [some (.ref img), some (.ref Lf), some (.ref sn), some (.int (0 + (e : Int))), some (.ref d), some (.ref A), o6, o7, o8, o9, o10, none] ∧ ((i = t ∧ fu = 300 - t) ∨ (i ≤ t ∧ rows.length ≤ i)) ∧ WI is seen R' fu rows i ∧ H2 d = some (.dK (entD (rows.take i) vs)) ∧ DtAll H2 vs ((rows.take i).map rvD) ∧ H2 A = some (.lst ac) ∧ DtAll H2 ac (rows.map rwD) ∧ H2 sn = some (.lst ((seen ++ bls (rows.take i)).map vN)) ∧ H2 Lf = some (.lst (ds.map V.ref)) ∧ FDs H2 ds acc ∧ A ≠ sn ∧ Same H H2) ?_ ?_ ?_
      · exact ⟨_, _, _, _, _, A0, 0, 300, _, [], _, rfl, .inl ⟨rfl, rfl⟩, W0, hd3, .nil, hA3, hda3, by show G3 sn = some (.lst ((seen ++ []).map vN)); rw [List.append_nil]; exact sA _ _ hsn1, sA _ _ hl, hf.same sA, nA0, s13⟩
      · rintro t σ H2 ht ⟨o6, o7, o8, o9, o10, A, i, fu, rows, vs, ac, rfl, hit, I, hdk, hvs, hac, hda, hsn2, hl2, hf2, nAs, s2⟩
        have ht : t < 300 := ht
        obtain ⟨⟨ivs, hi1, hi2⟩, h8, h40⟩ := him.same s2
        have lim := I.lim
        have acl : ac.length = rows.length := by rw [hda.len, List.length_map]
        have vsl : vs.length = (rows.take i).length := by rw [hvs.len, List.length_map]
        walk_at "run"
        refine iteD (fun hlt => ?_) (fun hge => ?_)
        · have hir : t < rows.length := by omega
          obtain ⟨rfl, rfl⟩ : i = t ∧ fu = 300 - t := by
            rcases hit with h | h
            · exact h
            · exact absurd hir (by omega)
          obtain ⟨f', hf'⟩ : ∃ f', 300 - i = f' + 1 := ⟨299 - i, by omega⟩
          rw [hf'] at I
          obtain ⟨r, hr⟩ : ∃ r, rows[i]? = some r := ⟨_, List.getElem?_eq_getElem hir⟩
          obtain ⟨v, hv, hvd⟩ := row_at hda hr
          obtain ⟨t1, u, rfl, ht1, hu⟩ := rwD_open hvd
          obtain ⟨rb, rk⟩ := I.ok r (List.mem_of_getElem? hr)
          walk_at "run"
          refine ⟨_, _, _, _, rfl, rfl, SqL.of hac, atC i (by omega) hv, ?_⟩
          refine ⟨t1, _, rfl, SqT.of ht1, rfl, _, _, rfl, _, _, rfl, _, _, rfl, rfl, ?_⟩
          walk_at "run"
          refine ⟨vN_flat _, _, rfl, ?_⟩
          show if inV (.int (r.1 : Int)) ((seen ++ bls (rows.take i)).map vN) = true then _ else _
          rw [inV_nat]
          have fault : ∀ (wd : Str) (G4 : Hp), Same H G4 → R' = .bad wd r.1 → ∀ p, G4 p = none → Q (.ref p) (upd G4 p (.tup [.str wd, .int (r.1 : Int)])) := by
            intro wd G4 sG hw p hp
            exact kb wd r.1 p _ (sG.trans (Same.new hp)) (J.bad hi4 (hR.trans hw)) upd_same
          refine iteD (fun hin => ?_) (fun hnin => ?_)
          · walk_at "run"
            exact ⟨szl rfl, fun p hp => fault "twice" _ s2 (I.twice hr (List.mem_append.mp hin)) p hp⟩
          · have hno : ¬ (r.1 ∈ seen ∨ r.1 ∈ bls (rows.take i)) := fun q => hnin (List.mem_append.mpr q)
            have hnb : r.1 ∉ bls (rows.take i) := fun q => hno (.inr q)
            obtain ⟨vw, hw1, hw2⟩ := img_at hi2 rb
            have ivl : ivs.length = is.length := by rw [hi2.len, List.length_map]
            walk_at "run"
            refine ⟨_, _, _, _, rfl, rfl, SqL.of hi1, atC r.1 rfl hw1, ?_⟩
            walk_at "run"
            refine ⟨r.2.2, is.length, vw, is.getD r.1 [], by rw [ivl]; rfl, rk, hw2, img_8 h8 rb, fun v H3 s3 hv3 hvn => ?_⟩
            cases ho : ownO r.2.2 (is.getD r.1 []) is.length with
            | none =>
              rw [ho] at hv3
              cases hv3
              walk_at "run"
              exact ⟨szl rfl, fun p hp => fault "ill" _ (s2.trans s3) (I.ill hr hno ho) p hp⟩
            | some l =>
              rw [ho] at hv3
              obtain ⟨l4, lo⟩ := ownO_ok rk ho
              have I' := I.step hr hno ho
              cases hv3 with
              | @lst oa oxs ods hoa hos =>
                have oxl : oxs.length = l.length := by rw [hos.len, List.length_map]
                have noa : oa ≠ sn := fun z => by
                  have q := hvn oa rfl
                  rw [z, hsn2] at q
                  cases q
                have nds : d ≠ sn := fun z => nsd z.symm
                have nss : sn ∉ ds := hf2.notLst hsn2 (by intro ks z; cases z)
                have nLds : Lf ∉ ds := hf2.notLst hl2 (by intro ks z; cases z)
                have hsn3 := s3 _ _ hsn2
                have nAd : A ≠ d := ne_of hac hdk (by intro z; cases z)
                walk_at "run"
                refine ⟨.inl ⟨rfl, _, SqL.of hsn3⟩, ?_⟩
                walk_at "run"
                have slen : (seen ++ bls (rows.take i)).length ≤ 40 := by
                  rw [List.length_append]
                  unfold bls
                  rw [List.length_map, List.length_take]
                  omega
                refine ⟨_, _, _, rfl, rfl, hsn3, szt (by rw [List.length_map]; omega), ?_⟩
                have tsS := ts_lst (o := .lst ((seen ++ bls (rows.take i)).map vN ++ [.int (r.1 : Int)])) hsn3
                have sn4 : upd H3 sn (.lst ((seen ++ bls (rows.take i)).map vN ++ [.int (r.1 : Int)])) sn = some (.lst ((seen ++ bls (rows.take (i + 1))).map vN)) := by
                  rw [upd_same, bls_snoc hr, ← List.append_assoc, List.map_append (l₂ := [r.1])]; rfl
                have hdk4 : upd H3 sn (.lst ((seen ++ bls (rows.take i)).map vN ++ [.int (r.1 : Int)])) d = some (.dK (entD (rows.take i) vs)) := by rw [upd_ne nds]; exact s3 _ _ hdk
                have hvs4 := (hvs.same s3).ts tsS (rvs_tonly _)
                have hac4 : upd H3 sn (.lst ((seen ++ bls (rows.take i)).map vN ++ [.int (r.1 : Int)])) A = some (.lst ac) := by rw [upd_ne nAs]; exact s3 _ _ hac
                have hda4 := (hda.same s3).ts tsS (rws_tonly _)
                have hl4 : upd H3 sn (.lst ((seen ++ bls (rows.take i)).map vN ++ [.int (r.1 : Int)])) Lf = some (.lst (ds.map V.ref)) := by rw [upd_ne nLs]; exact s3 _ _ hl2
                have hf4 := (hf2.same s3).ups nss tsS
                have hoa4 : upd H3 sn (.lst ((seen ++ bls (rows.take i)).map vN ++ [.int (r.1 : Int)])) oa = some (.lst oxs) := by rw [upd_ne noa]; exact hoa
                have hos4 := hos.ts tsS (os_tonly _)
                have s4 : Same H (upd H3 sn (.lst ((seen ++ bls (rows.take i)).map vN ++ [.int (r.1 : Int)]))) := Same.mut (s2.trans s3) hsn0
                generalize upd H3 sn (.lst ((seen ++ bls (rows.take i)).map vN ++ [.int (r.1 : Int)])) = H4 at sn4 hdk4 hvs4 hac4 hda4 hl4 hf4 hoa4 hos4 s4
                walk_at "run"
                refine ⟨szl rfl, fun p hp => ?_⟩
                have sp := Same.new (o := .tup [u, .int (r.2.2 : Int)]) hp
                have s5 := s4.trans sp
                have sn5 := sp _ _ sn4
                have hdk5 := sp _ _ hdk4
                have hvs5 := hvs4.same sp
                have hac5 := sp _ _ hac4
                have hda5 := hda4.same sp
                have hl5 := sp _ _ hl4
                have hf5 := hf4.same sp
                have hoa5 := sp _ _ hoa4
                have hos5 := hos4.same sp
                have hpv : Dt (upd H4 p (.tup [u, .int (r.2.2 : Int)])) (.ref p) (rvD r) := .tup upd_same (.cons (hu _) (.cons (.int _) .nil))
                generalize upd H4 p (.tup [u, .int (r.2.2 : Int)]) = H5 at sp s5 sn5 hdk5 hvs5 hac5 hda5 hl5 hf5 hoa5 hos5 hpv
                walk_at "run"
                refine ⟨d, _, rfl, DPut.k (k := .inl (r.1 : Int)) hdk5 (by rw [entD_len vsl, List.length_take]; exact szt (by omega)), ?_⟩
                rw [putK_new _ (valV_ent_none vsl hnb), ← entD_snoc vsl]
                have tsG := ts_dK (o := .dK (entD (rows.take i ++ [r]) (vs ++ [.ref p]))) hdk5
                have hdk6 : upd H5 d (.dK (entD (rows.take i ++ [r]) (vs ++ [.ref p]))) d = some (.dK (entD (rows.take i ++ [r]) (vs ++ [.ref p]))) := upd_same
                have hac6 : upd H5 d (.dK (entD (rows.take i ++ [r]) (vs ++ [.ref p]))) A = some (.lst ac) := by rw [upd_ne nAd]; exact hac5
                have hvs6 : DtAll (upd H5 d (.dK (entD (rows.take i ++ [r]) (vs ++ [.ref p])))) (vs ++ [.ref p]) ((rows.take i ++ [r]).map rvD) := by
                  rw [List.map_append]
                  exact (hvs5.append (.cons hpv .nil)).ts tsG (by rw [← List.map_append (f := rvD) (l₂ := [r])]; exact rvs_tonly _)
                have hda6 := hda5.ts tsG (rws_tonly _)
                have hoa6 : upd H5 d (.dK (entD (rows.take i ++ [r]) (vs ++ [.ref p]))) oa = some (.lst oxs) := by rw [upd_ne (ne_of hoa5 hdk5 (by intro z; cases z))]; exact hoa5
                have hos6 := hos5.ts tsG (os_tonly _)
                have sn6 : upd H5 d (.dK (entD (rows.take i ++ [r]) (vs ++ [.ref p]))) sn = some (.lst ((seen ++ bls (rows.take (i + 1))).map vN)) := by rw [upd_ne nsd]; exact sn5
                have hl6 : upd H5 d (.dK (entD (rows.take i ++ [r]) (vs ++ [.ref p]))) Lf = some (.lst (ds.map V.ref)) := by rw [upd_ne nLd]; exact hl5
                have hf6 := hf5.ups dn tsG
                have s6 : Same H (upd H5 d (.dK (entD (rows.take i ++ [r]) (vs ++ [.ref p])))) := Same.mut s5 hd0
                generalize upd H5 d (.dK (entD (rows.take i ++ [r]) (vs ++ [.ref p]))) = H6 at tsG hdk6 hac6 hvs6 hda6 hoa6 hos6 sn6 hl6 hf6 s6
                walk_at "run"
                refine ⟨⟨_, SqL.of hoa6⟩, fun D hD => ?_⟩
                refine lc_list (K := K) (xs := oxs) (fun j H7 => ∃ bc, H7 D = some (.lst bc) ∧ DtAll H7 bc ((kids r.1 (l.take j)).map rwD) ∧ bc.length ≤ j ∧ Same H6 H7) ⟨_, upd_same, .nil, Nat.le_refl _, Same.new hD⟩ (fun j H7 _ h => by obtain ⟨_, _, _, _, h⟩ := h; exact SqL.of (h _ _ hoa6)) ?_ ?_
                · rintro j y H7 hy ⟨bc, hbc, hbd, hbl, s7⟩
                  obtain ⟨dd, hdd, hyd⟩ := hos6.getV hy
                  obtain ⟨o, ho', rfl⟩ : ∃ o, l[j]? = some o ∧ dd = oD o := by
                    rw [List.getElem?_map] at hdd
                    cases e : l[j]? with
                    | none => rw [e] at hdd; cases hdd
                    | some o => rw [e] at hdd; exact ⟨o, rfl, (Option.some.inj hdd).symm⟩
                  obtain ⟨t', rfl, ht'⟩ := oD_open (hyd.same s7)
                  have hj : j < l.length := (List.getElem?_eq_some_iff.mp ho').1
                  refine ⟨rfl, ?_⟩
                  walk_at "run"
                  refine ⟨szl rfl, fun q hq => ?_⟩
                  have nDq : D ≠ q := ne_of_none hbc hq
                  refine ⟨_, Eq.trans (upd_ne nDq) hbc, szt (by omega), bc ++ [.ref q], upd_same, ?_, by rw [List.length_append]; show _ + 1 ≤ _; omega, Same.mut (s7.trans (Same.new hq)) hD⟩
                  rw [kids_snoc ho', List.map_append]
                  exact snoc_t hbd (rws_tonly _) hbc hq (ys := [.int (o.1 : Int), .int (r.1 : Int), .int (o.2 : Int)]) (es := [.int (o.1 : Int), .int (r.1 : Int), .int (o.2 : Int)]) (.cons (.int _) (.cons (.int _) (.cons (.int _) .nil))) rfl
                · rintro H7 ⟨bc, hbc, hbd, hbl, s7⟩
                  rw [oxl, List.take_length] at hbd
                  have rl := I.ln
                  have hac7 := s7 _ _ hac6
                  refine ⟨_, _, _, _, rfl, rfl, hac7, hbc, szn (by omega), fun A' hA' => ?_⟩
                  have e1 : (rows ++ kids r.1 l).take (i + 1) = rows.take i ++ [r] := by rw [List.take_append_of_le_length (by omega), take_snoc hr]
                  have e2 : rows.take i ++ [r] = rows.take (i + 1) := take_snoc hr
                  have sq := Same.new (o := .lst (ac ++ bc)) hA'
                  have s78 := s7.trans sq
                  have nA' : A' ≠ sn := (ne_of_none (s7 _ _ sn6) hA').symm
                  refine ⟨_, _, _, _, _, A', i + 1, f', rows ++ kids r.1 l, vs ++ [.ref p], ac ++ bc, rfl, .inl ⟨rfl, by omega⟩, I', ?_, ?_, upd_same, ?_, ?_, s78 _ _ hl6, hf6.same s78, nA', s6.trans s78⟩
                  · rw [e1]; exact s78 _ _ hdk6
                  · rw [e1]; exact hvs6.same s78
                  · rw [List.map_append]; exact ((hda6.same s7).append hbd).same sq
                  · rw [e1, e2]; exact s78 _ _ sn6
        · have hil : rows.length ≤ i := by
            rcases hit with ⟨h, _⟩ | ⟨_, h⟩
            · omega
            · exact h
          exact ⟨_, _, _, _, _, A, i, fu, rows, vs, ac, rfl, .inr ⟨by rcases hit with ⟨h, _⟩ | ⟨h, _⟩ <;> omega, hil⟩, I, hdk, hvs, hac, hda, hsn2, hl2, hf2, nAs, s2⟩
      · rintro σ H2 ⟨o6, o7, o8, o9, o10, A, i, fu, rows, vs, ac, rfl, hit, I, hdk, hvs, hac, hda, hsn2, hl2, hf2, nAs, s2⟩
        have lim := I.lim
        have h40 := him.2.2
        have hil : rows.length ≤ i := by
          rcases hit with ⟨h, _⟩ | ⟨_, h⟩
          · have h : i = 300 := h
            omega
          · exact h
        obtain ⟨f1, f2⟩ := I.fin hil
        have et : rows.take i = rows := List.take_of_length_le hil
        rw [et] at hdk hvs hsn2
        have al : ds.length = e := by rw [hf.1, J.al]
        have nLds : Lf ∉ ds := hf.notLst hl (by intro ks z; cases z)
        walk_at "run"
        refine ⟨.inl ⟨rfl, _, SqL.of hl2⟩, ?_⟩
        walk_at "run"
        refine ⟨_, _, _, rfl, rfl, hl2, szt (by rw [List.length_map]; omega), ?_⟩
        have tsL := ts_lst (o := .lst (ds.map V.ref ++ [.ref d])) hl2
        refine ⟨_, _, _, _, _, _, _, _, seen ++ bls rows, acc ++ [rows], ds ++ [d], rfl, J.next hi4 (hR.trans f1) f2 (fun r hr => (I.ok r hr).1), by rw [upd_same, List.map_append]; rfl, (hf2.ups nLds tsL).snoc (FD.ups ⟨vs, hdk, hvs⟩ nLd tsL), ?_, ?_, ?_, Same.mut s2 hLf⟩
        · exact List.nodup_append.mpr ⟨hnd, by simp, fun a ha b hb e => dn (by rw [List.mem_singleton.mp hb] at e; rw [← e]; exact ha)⟩
        · intro a ha
          rcases List.mem_append.mp ha with h | h
          · exact hnw a h
          · rw [List.mem_singleton.mp h]; exact hd0
        · rw [upd_ne nLs.symm]; exact hsn2
    · rintro σ H1 ⟨o3, o4, o5, o6, o7, o8, o9, o10, seen, acc, ds, rfl, J, hl, hf, hnd, hnw, hsn1, s1⟩
      walk_at "run"
      refine ⟨szl rfl, fun t ht => ?_⟩
      have se := J.se
      refine kg acc t Lf ds _ (s1.trans (Same.new ht)) J.fin (Fors.same ⟨hl, hf, hnd, hnw, by rw [← se]; exact J.nd, by rw [← se]; exact J.sl⟩ (Same.new ht)) hLf upd_same
end
end My

namespace My
open PySem L2
local macro_rules | `(tactic| walk_at "ne") => `(tactic| first | assumption | exact Ne.symm (by assumption) | exact ne_of_none (by assumption) (by assumption) | exact Ne.symm (ne_of_none (by assumption) (by assumption)))
local macro_rules | `(tactic| walk_at "hp") => `(tactic| first | assumption | with_reducible exact upd_same | (with_reducible refine Eq.trans (upd_ne ?_) ?_; rotate_left; walk_at "hp"; walk_at "ne"))
local macro_rules | `(tactic| walk_at "cnd") => `(tactic| first | omega | (show (0 : Int) < _; omega) | exact ⟨by omega, by omega⟩ | exact Or.inl ⟨by omega, by omega⟩ | exact Or.inr ⟨by omega, by omega⟩ | exact ⟨by omega, by omega, by decide⟩ | exact ⟨by omega, by omega, by omega⟩)
local macro_rules | `(tactic| walk_at "at") => `(tactic| first | exact atC 0 rfl rfl | exact atC 1 rfl rfl | exact atC 2 rfl rfl | exact atC 3 rfl rfl | exact atC 4 rfl rfl | exact atC 5 rfl rfl | exact atC 6 rfl rfl | exact atC 7 rfl rfl)
local macro_rules | `(tactic| walk_at "ix") => `(tactic| first | exact ixC 0 rfl (Nat.le_of_ble_eq_true rfl) | exact ixC 1 rfl (Nat.le_of_ble_eq_true rfl) | exact ixC 2 rfl (Nat.le_of_ble_eq_true rfl) | exact ixC 3 rfl (Nat.le_of_ble_eq_true rfl) | exact ixC 4 rfl (Nat.le_of_ble_eq_true rfl) | exact ixC 5 rfl (Nat.le_of_ble_eq_true rfl))
local macro_rules | `(tactic| walk_at "st") => `(tactic| first
  | refine ⟨_, rfl, ?_⟩
  | refine ⟨_, _, rfl, rfl, (by walk_at "cnd" : (_ : Prop)), ?_⟩
  | refine ⟨_, _, rfl, rfl, ?_⟩
  | refine ⟨rfl, ?_⟩
  | refine Or.inl ⟨_, rfl, ?_⟩
  | refine ⟨_, _, _, _, rfl, rfl, by exact SqL.of (by walk_at "hp"), by walk_at "at", ?_⟩
  | refine ⟨_, _, _, _, rfl, rfl, by exact SqT.of (by walk_at "hp"), by walk_at "at", ?_⟩
  | refine ⟨_, _, _, _, rfl, rfl, by walk_at "hp", by walk_at "ix", ?_⟩
  | refine ⟨_, _, rfl, Or.inl (by exact SqL.of (by walk_at "hp")), ?_⟩
  | refine ⟨_, _, rfl, Or.inr (by exact SqT.of (by walk_at "hp")), ?_⟩)
local macro_rules | `(tactic| walk_at "so") => `(tactic| first
  | refine ⟨_, _, _, _, _, rfl, by walk_at "hp", by assumption, by assumption, rfl, ?_⟩
  | refine ⟨_, _, _, _, rfl, by walk_at "hp", by assumption, by assumption, Nat.le_of_ble_eq_true rfl, ?_⟩
  | refine ⟨_, _, _, rfl, by walk_at "hp", rfl, ?_⟩
  | walk_at "st")
local macro_rules | `(tactic| walk_at "ro") => `(tactic| repeat walk_at "so")
local macro_rules | `(tactic| walk_at "run") => `(tactic| repeat walk_at "st")

/-! ### many dicts, unlocked again -/
theorem freeAll_at : ∀ {ds : List AK} {H : Hp}, (ds.map (·.1)).Nodup → ∀ p ∈ ds, freeAll H ds p.1 = some (.dK p.2)
  | [], _, _, p, h => by cases h
  | (d, kvs) :: ds, H, nd, p, h => by
    rw [List.map_cons, List.nodup_cons] at nd
    rcases List.mem_cons.mp h with rfl | h
    · show freeAll (upd H d _) ds d = _
      rw [freeAll_other nd.1, upd_same]
    · exact freeAll_at nd.2 p h
theorem same_free {ds : List AK} {ods : List Obj} {H H' : Hp} (nd : (ds.map (·.1)).Nodup) (hds : ∀ p ∈ ds, H p.1 = some (.dK p.2)) (s : Same (lockAll H ds ods) H') : Same H (freeAll H' ds) := fun b o e => by
  by_cases hb : b ∈ ds.map (·.1)
  · obtain ⟨p, hp, rfl⟩ := List.mem_map.mp hb
    rw [freeAll_at nd p hp, ← hds p hp]
    exact e
  · rw [freeAll_other hb]
    exact s b o (by rw [lockAll_other hb]; exact e)
theorem aks_of {H : Hp} : ∀ {ds : List Addr} {rss : List (List Row)}, FDs H ds rss → ∃ aks : List AK, aks.map (·.1) = ds ∧ (∀ p ∈ aks, H p.1 = some (.dK p.2)) ∧ ∀ (j : Nat) (rows : List Row), rss[j]? = some rows → ∃ d vs, aks[j]? = some (d, entD rows vs) ∧ vs.length = rows.length
  | [], rss, h => by
    have e : rss = [] := List.length_eq_zero_iff.mp h.1.symm
    subst e
    exact ⟨[], rfl, fun _ h => (by cases h), fun j rows h => by simp at h⟩
  | d :: ds, [], h => by cases h.1
  | d :: ds, rows :: rss, h => by
    obtain ⟨aks, h1, h2, h3⟩ := aks_of (ds := ds) (rss := rss) ⟨by simpa using h.1, fun j d' rows' a b => h.2 (j + 1) d' rows' (by simpa using a) (by simpa using b)⟩
    obtain ⟨vs, e1, e2⟩ := h.2 0 d rows rfl rfl
    refine ⟨(d, entD rows vs) :: aks, by rw [List.map_cons, h1], fun p hp => ?_, fun j rows' hr => ?_⟩
    · rcases List.mem_cons.mp hp with rfl | hp
      · exact e1
      · exact h2 p hp
    · cases j with
      | zero =>
        have e : rows = rows' := Option.some.inj hr
        subst e
        exact ⟨d, vs, rfl, by rw [e2.len, List.length_map]⟩
      | succ j => simpa using h3 j rows' (by simpa using hr)
/-! ### what is not reached -/
def restT (bs : List Nat) (n : Nat) : List Nat := ((List.range n).map (4 + ·)).filter fun b => !decide (b ∈ bs)
theorem restT_snoc (bs : List Nat) (n : Nat) : restT bs (n + 1) = restT bs n ++ (if 4 + n ∈ bs then [] else [4 + n]) := by
  unfold restT
  rw [List.range_succ, List.map_append, List.filter_append]
  congr 1
  by_cases h : 4 + n ∈ bs
  · rw [if_pos h]; simp [h]
  · rw [if_neg h]; simp [h]
theorem restT_len (bs : List Nat) (n : Nat) : (restT bs n).length ≤ n := by
  refine Nat.le_trans (List.length_filter_le _ _) ?_
  rw [List.length_map, List.length_range]
  exact Nat.le_refl _
theorem blss_snoc {rss : List (List Row)} {i : Nat} {rows : List Row} (h : rss[i]? = some rows) : blss (rss.take (i + 1)) = blss (rss.take i) ++ bls rows := by
  unfold blss
  rw [← take_snoc h, List.flatMap_append]
  simp
def iL (ns : List Nat) : PyData := .list (ns.map fun n : Nat => PyData.int (n : Int))
def spUnr (C : Addr) : Sp := fun vs H Q _ => ∃ (img x L R : Addr) (is : List (List Nat)) (rs : List Nat) (rss : List (List Row)), vs = [.ref img, .ref x] ∧ ImgAt H img is ∧ 4 ≤ is.length ∧ Ty C H x L R is.length PS rs ∧ allE is = .inr rss ∧ ∀ v H', Same H H' → Dt H' v (iL (restT (blss rss) (is.length - 4))) → Q v H'
section
variable {P : Program} {w : World} {K : PySem.W.Frag} {mg : Str → Option Value} {base : Heap} {C_Types C_NotValid : Addr}
abbrev s_unreached : Stmt := topS 37
abbrev ns_unreached : List Str := ["image", "types", "reached", "forest", "block"]
theorem sc_unreached : FnScope ns_unreached ["image", "types"] (defScope s_unreached) := ⟨rfl, rfl, rfl, by decide +kernel, rfl, by decide +kernel, by decide +kernel⟩

theorem ok_unreached {f : Addr} {fd : FuncData} (F : Fun K "unreached" "unreached" s_unreached f fd) (T : Txt K mg C_Types C_NotValid) (D_forests : Dfn P w K mg base CX0 8 "forests" ["image", "types"] (spForests C_Types)) : FnOk P w K mg base CX0 9 f fd ["image", "types"] (spUnr C_Types) := by
  refine F.ok sc_unreached (fun vs H Q E h => ?_) (fun cdv A outer s H vs Q E hr h => ?_)
  · obtain ⟨img, x, L, R, is, rs, rss, rfl, _⟩ := h
    rfl
  · obtain ⟨img, x, L, R, is, rs, rss, rfl, him, h4, ty, hall, k⟩ := h
    refine ⟨_, (pss_cons (ps_set (i := 2) sc_unreached.nd rfl (Or.inr rfl) (pe_unl (pe_lc2 (own := [("forest", 3), ("block", 4)]) (vs1 := [4]) (by rfl) sc_unreached.nd (kpiLL K (pe_ix (kIxT K) (pe_dcall D_forests (hr.mono (by decide)) (by rfl) pass0 (pa_cons (pv 0) (pa_cons (pv 1) pa_nil))) pe_int (fun _ _ => rfl))) (blkOk_by (N := ns_unreached) (sc := defScope s_unreached) (by decide +kernel)) (by decide) (fun _ _ _ _ _ => (pg_name (i := 3) sc_unreached.nd rfl (Or.inl rfl))) (fun _ _ _ _ _ => pts_nil) (fun _ _ _ _ _ => (pi_keys (pv 3))) (fun _ _ _ _ _ => (pg_name (i := 4) sc_unreached.nd rfl (Or.inl rfl))) (fun _ _ _ _ _ => pts_nil) (fun _ _ _ _ _ => (pv 4)))))
  (pss_one (ps_ret (pe_lc (own := [("block", 4)]) (by rfl) sc_unreached.nd (pi_range2 (by rfl) T.b_range (pa_cons (pe_gint (by rfl) T.c_ROOT_BLOCKS) (pa_cons (pe_callB (kLen K) (by rfl) T.b_len (by decide +kernel) (pa_cons (pv 0) pa_nil)) pa_nil))) (blkOk_by (N := ns_unreached) (sc := defScope s_unreached) (by decide +kernel)) (fun _ _ _ _ _ => (pg_name (i := 4) sc_unreached.nd rfl (Or.inl rfl))) (fun _ _ _ _ _ => (pts_one (pt_cmpR (kNotIn K) (pv 4) (pv 2) (by rfl)))) (fun _ _ _ _ _ => (pv 4)))))), ?_⟩
    refine ⟨_, rfl, _, rfl, img, x, L, R, is, rs, rfl, him, h4, ty, ?_, ?_⟩
    · intro w b t H' _ e
      rw [hall] at e
      cases e
    intro rss' t Lf ds H1 s1 e fo hLf ht
    rw [hall] at e
    cases e
    refine ⟨_, _, _, _, rfl, rfl, SqT.of ht, atC 1 rfl rfl, ?_⟩
    obtain ⟨aks, a1, a2, a3⟩ := aks_of fo.f
    have and : (aks.map (·.1)).Nodup := by rw [a1]; exact fo.nd
    have nLf : Lf ∉ aks.map (·.1) := by rw [a1]; exact fo.f.notLst fo.l (by intro ks z; cases z)
    refine ⟨Lf, aks, rfl, SqL.of (by rw [fo.l, ← a1, List.map_map]; rfl), nLf, and, a2, fun ods ol => ?_⟩
    have hLL : lockAll H1 aks ods Lf = some (.lst (ds.map V.ref)) := by rw [lockAll_other nLf]; exact fo.l
    have hlk := lockAll_at (H := H1) and ol
    have sfr : ∀ {H'}, Same (lockAll H1 aks ods) H' → Same H1 (freeAll H' aks) := same_free and a2
    generalize lockAll H1 aks ods = HL at hLL hlk sfr
    refine fun D hD => ?_
    have b40 : (blss rss).length ≤ 40 := by
      have q := pigeon is.length _ fo.bn fo.bl
      have := him.2.2
      omega
    have dl : ds.length = rss.length := fo.f.1
    refine ⟨fun i m Hx => m = ds.length - i ∧ i ≤ ds.length ∧ Hx D = some (.lst ((blss (rss.take i)).map vN)) ∧ Same HL Hx, ⟨_, rfl, Nat.zero_le _, upd_same, Same.new hD⟩, ?_⟩
    rintro i m Hx ⟨rfl, hi, hxD, sx⟩
    have hq : SqL K Hx Lf (ds.map V.ref) := SqL.of (sx _ _ hLL)
    by_cases hlt : i < ds.length
    · obtain ⟨rows, hr⟩ : ∃ rows, rss[i]? = some rows := ⟨_, List.getElem?_eq_getElem (by omega)⟩
      obtain ⟨d, vs, had, vl⟩ := a3 i rows hr
      have hdi : (ds.map V.ref)[i]? = some (.ref d) := by
        rw [← a1, List.map_map, List.getElem?_map, had]; rfl
      refine .inr ⟨⟨_, _, hq, hdi⟩, fun H' => H' D = some (.lst ((blss (rss.take (i + 1))).map vN)) ∧ Same HL H', fun H' ⟨h1, h2⟩ => ⟨ds.length - (i + 1), by omega, rfl, hlt, h1, h2⟩, ?_⟩
      rintro y H' ⟨rfl, hy⟩
      have ey : y = .ref d := Option.some.inj ((hy _ hq).symm.trans hdi)
      subst ey
      refine ⟨rfl, ?_⟩
      obtain ⟨od, hfz⟩ := hlk _ (List.mem_of_getElem? had)
      have hfz1 := sx _ _ hfz
      walk_at "run"
      refine ⟨d, od, rfl, .inl ⟨_, hfz1, ?_⟩⟩
      have sub : (blss (rss.take i) ++ bls rows).length ≤ 40 := by
        have e : blss rss = blss (rss.take (i + 1)) ++ blss (rss.drop (i + 1)) := by
          conv => lhs; rw [← List.take_append_drop (i + 1) rss]
          unfold blss
          rw [List.flatMap_append]
        rw [e, List.length_append] at b40
        rw [← blss_snoc hr]
        omega
      have blen : (bls rows).length = rows.length := by unfold bls; rw [List.length_map]
      refine ⟨fun j m Hy => m = rows.length - j ∧ j ≤ rows.length ∧ Hy D = some (.lst ((blss (rss.take i) ++ (bls rows).take j).map vN)) ∧ Same HL Hy, ⟨_, rfl, Nat.zero_le _, by rw [List.take_zero, List.append_nil]; exact hxD, sx⟩, ?_⟩
      rintro j m Hy ⟨rfl, hj, hyD, sy⟩
      have hfz2 := sy _ _ hfz
      by_cases hlt2 : j < rows.length
      · refine .inr ⟨⟨hfz2, by rw [entD_len vl]; exact hlt2⟩, fun H' => H' D = some (.lst ((blss (rss.take i) ++ (bls rows).take (j + 1)).map vN)) ∧ Same HL H', fun H' ⟨h1, h2⟩ => ⟨rows.length - (j + 1), by omega, rfl, hlt2, h1, h2⟩, ?_⟩
        rintro z H' ⟨rfl, k', v, hk, rfl⟩
        obtain ⟨r, hr', rfl⟩ := entD_at vl hk
        have hbr : (bls rows)[j]? = some r.1 := by unfold bls; rw [List.getElem?_map, hr']; rfl
        refine ⟨rfl, ?_⟩
        walk_at "run"
        refine ⟨_, hyD, ?_, ?_, Same.mut sy hD⟩
        · rw [List.length_append, blen] at sub
          rw [List.length_map, List.length_append, List.length_take]
          exact szt (by omega)
        · rw [upd_same, ← take_snoc hbr, ← List.append_assoc, List.map_append (l₂ := [r.1])]; rfl
      · have ej : j = rows.length := by omega
        subst ej
        rw [← blen, List.take_length] at hyD
        exact .inl ⟨⟨hfz2, by rw [entD_len vl]; exact Nat.le_refl _⟩, by rw [blss_snoc hr]; exact hyD, sy⟩
    · have ei : i = ds.length := by omega
      subst ei
      rw [dl, List.take_length] at hxD
      refine .inl ⟨⟨_, hq, by rw [List.length_map]; exact Nat.le_refl _⟩, aks, and, fun p hp => ⟨?_, ?_⟩, ?_⟩
      · exact fo.nw _ (by rw [← a1]; exact List.mem_map_of_mem (f := fun p : AK => p.1) hp)
      · obtain ⟨od, e⟩ := hlk p hp
        exact ⟨od, sx _ _ e⟩
      have s1f := sfr sx
      have nD : D ∉ aks.map (·.1) := fun hm => by
        obtain ⟨p, hp, e⟩ := List.mem_map.mp hm
        obtain ⟨od, e2⟩ := hlk p hp
        have e : p.1 = D := e
        rw [e, hD] at e2
        cases e2
      have hfD : freeAll Hx aks D = some (.lst ((blss rss).map vN)) := by rw [freeAll_other nD]; exact hxD
      generalize freeAll Hx aks = H2 at s1f hfD
      have s2 := s1.trans s1f
      obtain ⟨⟨ivs, hi1, hi2⟩, h8, h40⟩ := him.same s2
      have ivl : ivs.length = is.length := by rw [hi2.len, List.length_map]
      walk_at "run"
      refine ⟨_, _, rfl, ⟨by decide, by decide, by omega, by omega⟩, fun D2 hD2 => ?_⟩
      have en : ((ivs.length : Int) - 4).toNat = is.length - 4 := by omega
      refine lc_range (lo := 4) (n := ((ivs.length : Int) - 4).toNat) (fun j Hx => Hx D2 = some (.lst ((restT (blss rss) j).map vN)) ∧ Same H2 Hx) ⟨upd_same, Same.new hD2⟩ ?_ ?_
      · rintro j Hx hj ⟨hx1, sx⟩
        have hfD' := sx _ _ hfD
        have rl := restT_len (blss rss) j
        refine ⟨rfl, ?_⟩
        walk_at "run"
        refine ⟨vN_flat _, _, rfl, ?_⟩
        show if (!inV (.int ((4 + j : Nat) : Int)) ((blss rss).map vN)) = true then _ else _
        rw [inV_nat]
        refine iteDn (fun hno => ?_) (fun hin => ?_)
        · walk_at "run"
          refine ⟨_, hx1, szt (by rw [List.length_map]; omega), ?_, Same.mut sx hD2⟩
          rw [upd_same, restT_snoc, if_neg hno, List.map_append]; rfl
        · refine ⟨?_, sx⟩
          rw [restT_snoc, if_pos hin, List.append_nil]
          exact hx1
      · rintro Hx ⟨hx1, sx⟩
        refine k _ _ (s2.trans sx) ?_
        rw [en] at hx1
        exact .lst hx1 ints_mk
end
end My

namespace My
open PySem L2
local macro_rules | `(tactic| walk_at "ne") => `(tactic| first | assumption | exact Ne.symm (by assumption) | exact ne_of_none (by assumption) (by assumption) | exact Ne.symm (ne_of_none (by assumption) (by assumption)))
local macro_rules | `(tactic| walk_at "hp") => `(tactic| first | assumption | with_reducible exact upd_same | (with_reducible refine Eq.trans (upd_ne ?_) ?_; rotate_left; walk_at "hp"; walk_at "ne"))
local macro_rules | `(tactic| walk_at "cnd") => `(tactic| first | omega | (show (0 : Int) < _; omega) | exact ⟨by omega, by omega⟩ | exact Or.inl ⟨by omega, by omega⟩ | exact Or.inr ⟨by omega, by omega⟩ | exact ⟨by omega, by omega, by decide⟩ | exact ⟨by omega, by omega, by omega⟩)
local macro_rules | `(tactic| walk_at "at") => `(tactic| first | exact atC 0 rfl rfl | exact atC 1 rfl rfl | exact atC 2 rfl rfl | exact atC 3 rfl rfl | exact atC 4 rfl rfl | exact atC 5 rfl rfl | exact atC 6 rfl rfl | exact atC 7 rfl rfl)
local macro_rules | `(tactic| walk_at "ix") => `(tactic| first | exact ixC 0 rfl (Nat.le_of_ble_eq_true rfl) | exact ixC 1 rfl (Nat.le_of_ble_eq_true rfl) | exact ixC 2 rfl (Nat.le_of_ble_eq_true rfl) | exact ixC 3 rfl (Nat.le_of_ble_eq_true rfl) | exact ixC 4 rfl (Nat.le_of_ble_eq_true rfl) | exact ixC 5 rfl (Nat.le_of_ble_eq_true rfl))
local macro_rules | `(tactic| walk_at "st") => `(tactic| first
  | refine ⟨_, rfl, ?_⟩
  | refine ⟨_, _, rfl, rfl, (by walk_at "cnd" : (_ : Prop)), ?_⟩
  | refine ⟨_, _, rfl, rfl, ?_⟩
  | refine ⟨rfl, ?_⟩
  | refine Or.inl ⟨_, rfl, ?_⟩
  | refine ⟨_, _, _, _, rfl, rfl, by exact SqL.of (by walk_at "hp"), by walk_at "at", ?_⟩
  | refine ⟨_, _, _, _, rfl, rfl, by exact SqT.of (by walk_at "hp"), by walk_at "at", ?_⟩
  | refine ⟨_, _, _, _, rfl, rfl, by walk_at "hp", by walk_at "ix", ?_⟩
  | refine ⟨_, _, rfl, Or.inl (by exact SqL.of (by walk_at "hp")), ?_⟩
  | refine ⟨_, _, rfl, Or.inr (by exact SqT.of (by walk_at "hp")), ?_⟩)
local macro_rules | `(tactic| walk_at "so") => `(tactic| first
  | refine ⟨_, _, _, _, _, rfl, by walk_at "hp", by assumption, by assumption, rfl, ?_⟩
  | refine ⟨_, _, _, _, rfl, by walk_at "hp", by assumption, by assumption, Nat.le_of_ble_eq_true rfl, ?_⟩
  | refine ⟨_, _, _, rfl, by walk_at "hp", rfl, ?_⟩
  | walk_at "st")
local macro_rules | `(tactic| walk_at "ro") => `(tactic| repeat walk_at "so")
local macro_rules | `(tactic| walk_at "run") => `(tactic| repeat walk_at "st")

def spTypes (C : Addr) : Sp := fun vs H Q _ => ∃ (B : Nat), vs = [.int (B : Int)] ∧ ∀ x L R rs H', Ty C H' x L R B PS rs → Same H H' → Q (.ref x) H'
def D1 : PyData := .tuple [.tuple [.tuple [], .int 0, .int 2, .str "own"], .tuple [.tuple [], .int 2, .int 2, .int 0]]
def D2 : PyData := .tuple [.tuple [.tuple [.tuple [.int 7, .int 255, .int 1]], .int 0, .int 4, .int 0]]
def Q1 : List Cl := [([], 0, .inl 2, none), ([], 2, .inl 2, some 0)]
def Q2 : List Cl := [([(7, 255, 1)], 0, .inl 4, some 0)]
theorem D1_is : D1 = pgD Q1 := rfl
theorem D2_is : D2 = pgD Q2 := rfl
theorem pg1 : isPg ((2 + ([] : List (List Cl)).length : Nat) : Int) (pgD Q1) = true := by decide +kernel
theorem pg2 : isPg ((2 + [Q1].length : Nat) : Int) (pgD Q2) = true := by decide +kernel
theorem in2 : isIn [Q1] (pgD Q2) = false := by decide +kernel
theorem go_all {ta : TA} {ds : List PyData} {σ : L2.St} {H : Hp} {Q : List V → Hp → Prop} (h : LitAll ta ds) (k : ∀ vs H', Same H H' → DtAll H' vs ds → Q vs H') : ta σ H Q := h σ H Q k
section
variable {P : Program} {w : World} {K : PySem.W.Frag} {mg : Str → Option Value} {base : Heap} {C_Types C_NotValid : Addr}
abbrev s_law_types : Stmt := topS 40
abbrev ns_law_types : List Str := ["many", "types"]
theorem sc_law_types : FnScope ns_law_types ["many"] (defScope s_law_types) := ⟨rfl, rfl, rfl, by decide +kernel, rfl, by decide +kernel, by decide +kernel⟩

theorem ok_law_types {f : Addr} {fd : FuncData} (F : Fun K "_law_types" "_law_types" s_law_types f fd) (T : Txt K mg C_Types C_NotValid) (M_Types : Mkr P w K mg base CX0 1 "Types" C_Types ["self", "blocks"] (spTInit C_Types)) (D_Types_add : Mth P w K mg base (L2.CX P w) 7 C_Types "add" ["self", "program", "environment"] (spAdd C_Types)) : FnOk P w K mg base CX0 8 f fd ["many"] (spTypes C_Types) := by
  refine F.ok sc_law_types (fun vs H Q E h => ?_) (fun cdv A outer s H vs Q E hr h => ?_)
  · obtain ⟨B, rfl, _⟩ := h
    rfl
  · obtain ⟨B, rfl, k⟩ := h
    refine ⟨_, (pss_cons (ps_set (i := 1) sc_law_types.nd rfl (Or.inl rfl) (pe_dmake M_Types (hr.mono (by decide)) (by rfl) pass0 (pa_cons (pv 0) pa_nil)))
  (pss_cons (ps_expr (pe_dmeth (pv 1) D_Types_add (hr.mono (by decide)) passL (pa_cons (pe_tup (pa_cons (pe_tup (pa_cons (pe_tup pa_nil) (pa_cons pe_int (pa_cons pe_int (pa_cons pe_str pa_nil))))) (pa_cons (pe_tup (pa_cons (pe_tup pa_nil) (pa_cons pe_int (pa_cons pe_int (pa_cons pe_int pa_nil))))) pa_nil))) (pa_cons pe_int pa_nil))))
  (pss_cons (ps_expr (pe_dmeth (pv 1) D_Types_add (hr.mono (by decide)) passL (pa_cons (pe_tup (pa_cons (pe_tup (pa_cons (pe_tup (pa_cons (pe_tup (pa_cons pe_int (pa_cons pe_int (pa_cons pe_int pa_nil)))) pa_nil)) (pa_cons pe_int (pa_cons pe_int (pa_cons pe_int pa_nil))))) pa_nil)) (pa_cons pe_int pa_nil))))
  (pss_one (ps_ret (pv 1)))))), ?_⟩
    walk_at "run"
    refine fun x dx hx hdx ne => ?_
    have s1 : Same H (upd (upd H dx (.own x)) x (.ins C_Types dx [])) := (Same.new hdx).trans (Same.new (by rw [upd_ne ne.symm]; exact hx))
    refine ⟨x, dx, B, rfl, upd_same, fun L R H2 ty hL hR c2 => ⟨rfl, ?_⟩⟩
    have hL0 : H L = none := s1.free hL
    have hR0 : H R = none := s1.free hR
    have s2 : Same H H2 := fun b o e => c2 b o (ne_of_none e hx) (s1 b o e)
    clear c2 s1 hL hR ne
    obtain ⟨dx2, h2⟩ := ty.ins
    walk_at "run"
    refine ⟨x, dx2, _, rfl, h2, rfl, ?_⟩
    refine go_all (ds := [D1, .int 0]) (by repeat first | exact lit_nil | refine lit_cons ?_ ?_ | exact lit_int _ | exact lit_str _ | refine lit_tup ?_) fun vs H3 s3 dv => ?_
    cases dv with
    | @cons v _ _ _ dv1 dv => cases dv with
      | cons dv2 dv =>
        cases dv; cases dv2
        have ty3 := ty.same s3
        have s13 := s2.trans s3
        refine ⟨x, L, R, B, [], [0, 0, 0, 0], v, pgD Q1, 0, rfl, ty3, dv1, by decide, rfl, by decide, fun ds e c hc => ?_, fun z => ?_, fun _ => ⟨Q1, rfl, fun z => ?_, fun _ z => ?_, fun _ _ H4 ty4 c4 => ?_⟩⟩
        · cases e
          obtain ⟨c', _, rfl⟩ := List.mem_map.mp hc
          exact clD_fit c'
        · rw [pg1] at z; cases z
        · exact absurd z (by decide +kernel)
        · exact absurd z (by decide)
        · have s4 : Same H H4 := fun b o e => c4 b o (ne_of_none e hL0) (ne_of_none e hR0) (s13 b o e)
          obtain ⟨dx4, h4⟩ := ty4.ins
          walk_at "run"
          refine ⟨x, dx4, _, rfl, h4, rfl, ?_⟩
          refine go_all (ds := [D2, .int 1]) (by repeat first | exact lit_nil | refine lit_cons ?_ ?_ | exact lit_int _ | exact lit_str _ | refine lit_tup ?_) fun vs H5 s5 dv => ?_
          cases dv with
          | @cons v2 _ _ _ dv1 dv => cases dv with
            | cons dv2 dv =>
              cases dv; cases dv2
              have ty5 := ty4.same s5
              have s15 := s4.trans s5
              refine ⟨x, L, R, B, [Q1], [1, 0, 0, 0], v2, pgD Q2, 1, rfl, ty5, dv1, by decide, rfl, by decide, fun ds e c hc => ?_, fun z => ?_, fun _ => ⟨Q2, rfl, fun z => ?_, fun _ z => ?_, fun _ _ H6 ty6 c6 => ?_⟩⟩
              · cases e
                obtain ⟨c', _, rfl⟩ := List.mem_map.mp hc
                exact clD_fit c'
              · rw [pg2] at z; cases z
              · rw [in2] at z; cases z
              · exact absurd z (by decide)
              · walk_at "run"
                exact k x L R _ H6 ty6 fun b o e => c6 b o (ne_of_none e hL0) (ne_of_none e hR0) (s15 b o e)
end
end My

namespace My
open PySem L2
local macro_rules | `(tactic| walk_at "ne") => `(tactic| first | assumption | exact Ne.symm (by assumption) | exact ne_of_none (by assumption) (by assumption) | exact Ne.symm (ne_of_none (by assumption) (by assumption)))
local macro_rules | `(tactic| walk_at "hp") => `(tactic| first | assumption | with_reducible exact upd_same | (with_reducible refine Eq.trans (upd_ne ?_) ?_; rotate_left; walk_at "hp"; walk_at "ne"))
local macro_rules | `(tactic| walk_at "cnd") => `(tactic| first | omega | (show (0 : Int) < _; omega) | exact ⟨by omega, by omega⟩ | exact Or.inl ⟨by omega, by omega⟩ | exact Or.inr ⟨by omega, by omega⟩ | exact ⟨by omega, by omega, by decide⟩ | exact ⟨by omega, by omega, by omega⟩)
local macro_rules | `(tactic| walk_at "at") => `(tactic| first | exact atC 0 rfl rfl | exact atC 1 rfl rfl | exact atC 2 rfl rfl | exact atC 3 rfl rfl | exact atC 4 rfl rfl | exact atC 5 rfl rfl | exact atC 6 rfl rfl | exact atC 7 rfl rfl)
local macro_rules | `(tactic| walk_at "ix") => `(tactic| first | exact ixC 0 rfl (Nat.le_of_ble_eq_true rfl) | exact ixC 1 rfl (Nat.le_of_ble_eq_true rfl) | exact ixC 2 rfl (Nat.le_of_ble_eq_true rfl) | exact ixC 3 rfl (Nat.le_of_ble_eq_true rfl) | exact ixC 4 rfl (Nat.le_of_ble_eq_true rfl) | exact ixC 5 rfl (Nat.le_of_ble_eq_true rfl))
local macro_rules | `(tactic| walk_at "st") => `(tactic| first
  | refine ⟨_, rfl, ?_⟩
  | refine ⟨_, _, rfl, rfl, (by walk_at "cnd" : (_ : Prop)), ?_⟩
  | refine ⟨_, _, rfl, rfl, ?_⟩
  | refine ⟨rfl, ?_⟩
  | refine Or.inl ⟨_, rfl, ?_⟩
  | refine ⟨_, _, _, _, rfl, rfl, by exact SqL.of (by walk_at "hp"), by walk_at "at", ?_⟩
  | refine ⟨_, _, _, _, rfl, rfl, by exact SqT.of (by walk_at "hp"), by walk_at "at", ?_⟩
  | refine ⟨_, _, _, _, rfl, rfl, by walk_at "hp", by walk_at "ix", ?_⟩
  | refine ⟨_, _, rfl, Or.inl (by exact SqL.of (by walk_at "hp")), ?_⟩
  | refine ⟨_, _, rfl, Or.inr (by exact SqT.of (by walk_at "hp")), ?_⟩)
local macro_rules | `(tactic| walk_at "so") => `(tactic| first
  | refine ⟨_, _, _, _, _, rfl, by walk_at "hp", by assumption, by assumption, rfl, ?_⟩
  | refine ⟨_, _, _, _, rfl, by walk_at "hp", by assumption, by assumption, Nat.le_of_ble_eq_true rfl, ?_⟩
  | refine ⟨_, _, _, rfl, by walk_at "hp", rfl, ?_⟩
  | walk_at "st")
local macro_rules | `(tactic| walk_at "ro") => `(tactic| repeat walk_at "so")
local macro_rules | `(tactic| walk_at "run") => `(tactic| repeat walk_at "st")

def spDrawn : Sp := fun vs H Q _ => ∃ (a t : Addr) (m : Nat), vs = [.ref a, .int (m : Int)] ∧ 24 ≤ m ∧ m ≤ 40 ∧ Tape H a t ∧ ∀ (I : Addr) (is : List (List Nat)) (H' : Hp), is.length = m → ImgAt H' I is → Tape H' a t → Chg a H H' → Q (.ref I) H'
theorem pickN {ns : List Nat} {z : Int} (h0 : 0 ≤ z) (h1 : z < ns.length) : ∃ n : Nat, atI (ns.map vN) z = some (.int (n : Int)) := by
  obtain ⟨z', rfl⟩ := Int.eq_ofNat_of_zero_le h0
  exact ⟨_, atC z' rfl (getVN (by omega))⟩
abbrev iDs (ns : List Nat) : List PyData := ns.map fun n : Nat => PyData.int (n : Int)
theorem I7.setL {H0 H : Hp} {a t L : Addr} {xs : List V} {ds : List PyData} (I : I7 H0 a t L xs ds H) (zs : List Nat) : I7 H0 a t L (zs.map vN) (iDs zs) (upd H L (.lst (zs.map vN))) :=
  ⟨upd_same, ints_mk, ints_tonly zs, I.tp.upd I.La I.Lt, Chg.mut I.ch I.nL, I.La, I.Lt, I.nL⟩
theorem I7.pushN {H0 H : Hp} {a t L : Addr} {ns : List Nat} (I : I7 H0 a t L (ns.map vN) (iDs ns) H) (n : Nat) : I7 H0 a t L ((ns ++ [n]).map vN) (iDs (ns ++ [n])) (upd H L (.lst (ns.map vN ++ [.int (n : Int)]))) := by
  have q := I.setL (ns ++ [n])
  have e : (ns ++ [n]).map vN = ns.map vN ++ [.int (n : Int)] := by rw [List.map_append]; rfl
  rw [e] at q ⊢
  exact q
theorem ImgAt.of7 {H0 H : Hp} {a t I : Addr} {ivs : List V} {is : List (List Nat)} (h : I7 H0 a t I ivs (is.map pD) H) (h8 : ∀ ws ∈ is, ws.length = 8) (h40 : is.length ≤ 40) : ImgAt H I is := ⟨⟨ivs, h.hL, h.dL⟩, h8, h40⟩
section
variable {P : Program} {w : World} {K : PySem.W.Frag} {mg : Str → Option Value} {base : Heap} {C_Types C_NotValid : Addr}
abbrev s_law_drawn : Stmt := topS 43
abbrev ns_law_drawn : List Str := ["tape", "many", "image", "block", "words", "k"]
theorem sc_law_drawn : FnScope ns_law_drawn ["tape", "many"] (defScope s_law_drawn) := ⟨rfl, rfl, rfl, by decide +kernel, rfl, by decide +kernel, by decide +kernel⟩

theorem ok_law_drawn {f : Addr} {fd : FuncData} (F : Fun K "_law_drawn" "_law_drawn" s_law_drawn f fd) (T : Txt K mg C_Types C_NotValid) (D_law_next : Dfn P w K mg base CX0 1 "_law_next" ["tape", "many"] spNext) : FnOk P w K mg base CX0 2 f fd ["tape", "many"] spDrawn := by
  refine F.ok sc_law_drawn (fun vs H Q E h => ?_) (fun cdv A outer s H vs Q E hr h => ?_)
  · obtain ⟨a, t, m, rfl, _⟩ := h
    rfl
  · obtain ⟨a, t, m, rfl, m24, m40, t0, k⟩ := h
    refine ⟨_, (pss_cons (ps_set (i := 2) sc_law_drawn.nd rfl (Or.inl rfl) (pe_lst pa_nil))
  (pss_cons (ps_for PassesOwn.never (by rfl) (pi_range1 (by rfl) T.b_range (pa_cons (pv 1) pa_nil)) (pg_name (i := 3) sc_law_drawn.nd rfl (Or.inl rfl)) (pss_cons (ps_setLc (i := 4) (own := [("k", 5)]) (by rfl) sc_law_drawn.nd rfl rfl (sw_true rfl rfl rfl (by decide +kernel)) (pi_range1 (by rfl) T.b_range (pa_cons pe_int pa_nil)) (blkOk_by (N := ns_law_drawn) (sc := defScope s_law_drawn) (by decide +kernel)) (fun _ _ _ _ _ => (pg_name (i := 5) sc_law_drawn.nd rfl (Or.inl rfl))) (fun _ _ _ _ _ => pts_nil) (fun _ _ _ _ _ => (pe_ix (kIxL K) (pe_lst (pa_cons pe_int (pa_cons pe_int (pa_cons pe_int (pa_cons (pe_op op_add pe_int (pe_dcall D_law_next (hr.mono (by decide)) (by rfl) pass0 (pa_cons (pv 0) (pa_cons (pe_op op_sub (pv 1) pe_int) pa_nil)))) (pa_cons (pe_dcall D_law_next (hr.mono (by decide)) (by rfl) pass0 (pa_cons (pv 0) (pa_cons (pe_op op_add (pv 1) pe_int) pa_nil))) pa_nil)))))) (pe_dcall D_law_next (hr.mono (by decide)) (by rfl) pass0 (pa_cons (pv 0) (pa_cons pe_int pa_nil))) (fun _ _ => rfl))))
  (C8.pss_cut (ps_if (pt_cmpR op_lt (pv 3) pe_int (nomark _)) (pss_one (ps_asg (pe_ix (kIxL K) (pe_lst (pa_cons pe_int (pa_cons pe_int (pa_cons pe_int (pa_cons pe_int (pa_cons pe_int (pa_cons pe_int pa_nil))))))) (pe_dcall D_law_next (hr.mono (by decide)) (by rfl) pass0 (pa_cons (pv 0) (pa_cons pe_int pa_nil))) (fun _ _ => rfl)) (pg_sub (pv 4) pe_int set_list))) pss_nil)
  (pss_one (ps_expr (kBM K PySem.F.plainAttrs_list PySem.F.slot_list_append PySem.F.type_list_append mt_append (pv 2) (pa_cons (pe_callTy (kTupOf K) (by rfl) T.b_tuple (by decide +kernel) (pa_cons (pe_op op_cat (pv 4) (pe_lst (pa_cons pe_int (pa_cons pe_int (pa_cons pe_int (pa_cons (pe_ix (kIxL K) (pe_lst (pa_cons pe_int (pa_cons pe_int (pa_cons pe_int pa_nil)))) (pe_dcall D_law_next (hr.mono (by decide)) (by rfl) pass0 (pa_cons (pv 0) (pa_cons pe_int pa_nil))) (fun _ _ => rfl)) pa_nil)))))) pa_nil)) pa_nil)))))))
  (pss_one (ps_ret (pv 2))))), ?_⟩
    refine ⟨szl rfl, fun L hL => ?_⟩
    have I0 : I7 H a t L [] [] (upd H L (.lst [])) := ⟨upd_same, .nil, rfl, t0.same (Same.new hL), Same.chg (Same.new hL), t0.at hL, t0.at2 hL, hL⟩
    walk_at "run"
    refine ⟨by omega, by omega, ?_⟩
    show ∃ W : Nat → Nat → L2.St → Hp → Prop, _
    refine for_range (fun i σ H1 => ∃ (o3 o4 : Option V) (ivs : List V) (is : List (List Nat)), σ = [some (.ref a), some (.int (m : Int)), some (.ref L), o3, o4, none] ∧ is.length = i ∧ (∀ ws ∈ is, ws.length = 8) ∧ I7 H a t L ivs (is.map pD) H1) ?_ ?_ ?_
    · exact ⟨_, _, [], [], rfl, rfl, fun _ h => (by cases h), I0⟩
    · rintro i σ H1 hi ⟨o3, o4, ivs, is, rfl, il, h8, I⟩
      have hi : i < m := by have hi : i < ((m : Int) - 0).toNat := hi; omega
      walk_at "run"
      refine ⟨by decide, by decide, fun D hD => ?_⟩
      have D0 := none_of I.ch (I.tp.at hD) hD
      have g0 : I7 H a t D [] [] (upd H1 D (.lst [])) := ⟨upd_same, .nil, rfl, I.tp.same (Same.new hD), I.ch.trans (Same.chg (Same.new hD)), I.tp.at hD, I.tp.at2 hD, D0⟩
      have nLD : L ≠ D := ne_of_none I.hL hD
      refine lc_range (lo := 0) (n := ((4 : Int) - 0).toNat) (fun j H4 => ∃ ns : List Nat, ns.length = j ∧ I7 H a t D (ns.map vN) (iDs ns) H4 ∧ I7 H a t L ivs (is.map pD) H4) ⟨[], rfl, g0, I.same (Same.new hD)⟩ ?_ ?_
      · rintro j H4 hj ⟨ns, nl, g, I⟩
        have hj : j < 4 := hj
        refine ⟨rfl, ?_⟩
        walk_at "run"
        refine ⟨a, t, (m : Int) - 4, rfl, by omega, by omega, I.tp, fun x H5 x0 x1 t5 c5 => ?_⟩
        have I := I.next t5 c5
        have g := g.next t5 c5
        walk_at "run"
        refine ⟨a, t, (m : Int) + 2, rfl, by omega, by omega, I.tp, fun y H6 y0 y1 t6 c6 => ?_⟩
        have I := I.next t6 c6
        have g := g.next t6 c6
        obtain ⟨x', rfl⟩ := Int.eq_ofNat_of_zero_le x0
        obtain ⟨y', rfl⟩ := Int.eq_ofNat_of_zero_le y0
        refine ⟨szl rfl, fun p hp => ?_⟩
        have npa := I.tp.at hp
        have sp := Same.new (o := .lst (([0, 0, 0, 4 + x', y'] : List Nat).map vN)) hp
        have hpp : upd H6 p (.lst (([0, 0, 0, 4 + x', y'] : List Nat).map vN)) p = some (.lst (([0, 0, 0, 4 + x', y'] : List Nat).map vN)) := upd_same
        have I := I.same sp
        have g := g.same sp
        walk_at "run"
        refine ⟨a, t, 5, rfl, by decide, by decide, I.tp, fun z H7 z0 z1 t7 c7 => ?_⟩
        have hp7 := c7 p _ npa hpp
        have I := I.next t7 c7
        have g := g.next t7 c7
        obtain ⟨n, hat⟩ := pickN (ns := [0, 0, 0, 4 + x', y']) z0 z1
        refine ⟨_, _, _, _, rfl, rfl, SqL.of hp7, hat, ?_⟩
        refine ⟨_, g.hL, szt (by rw [List.length_map]; omega), ns ++ [n], by rw [List.length_append, nl]; rfl, g.pushN n, I.other g.hL g.La g.Lt nLD g.nL⟩
      · rintro H4 ⟨ns, nl, g, I⟩
        have nl : ns.length = 4 := nl
        walk_at "run"
        refine ⟨fun σ H' => ∃ (ns : List Nat), σ = [some (.ref a), some (.int (m : Int)), some (.ref L), some (.int (0 + (i : Int))), some (.ref D), none] ∧ ns.length = 4 ∧ I7 H a t D (ns.map vN) (iDs ns) H' ∧ I7 H a t L ivs (is.map pD) H', ?_, ?_⟩
        · walk_at "run"
          refine iteD (fun h4 => ?_) (fun h4 => ?_)
          · walk_at "run"
            refine ⟨szl rfl, fun p hp => ?_⟩
            have npa := I.tp.at hp
            have sp := Same.new (o := .lst (([0, 2, 3, 2, 1, 7] : List Nat).map vN)) hp
            have hpp : upd H4 p (.lst (([0, 2, 3, 2, 1, 7] : List Nat).map vN)) p = some (.lst (([0, 2, 3, 2, 1, 7] : List Nat).map vN)) := upd_same
            have I := I.same sp
            have g := g.same sp
            walk_at "run"
            refine ⟨a, t, 6, rfl, by decide, by decide, I.tp, fun z H7 z0 z1 t7 c7 => ?_⟩
            have hp7 := c7 p _ npa hpp
            have I := I.next t7 c7
            have g := g.next t7 c7
            obtain ⟨n, hat⟩ := pickN (ns := [0, 2, 3, 2, 1, 7]) z0 z1
            refine ⟨_, _, _, _, rfl, rfl, SqL.of hp7, hat, ?_⟩
            walk_at "run"
            refine ⟨_, _, _, 1, rfl, rfl, g.hL, ixC 1 rfl (by rw [List.length_map]; omega), ?_⟩
            have e : (ns.map vN).set 1 (.int (n : Int)) = (ns.set 1 n).map vN := by rw [List.map_set]; rfl
            rw [e]
            exact ⟨ns.set 1 n, rfl, by rw [List.length_set]; exact nl, g.setL _, I.other g.hL g.La g.Lt nLD g.nL⟩
          · exact ⟨ns, rfl, nl, g, I⟩
        · rintro σ H5 ⟨ns, rfl, nl, g, I⟩
          have ivl : ivs.length = is.length := by rw [I.dL.len, List.length_map]
          walk_at "run"
          refine ⟨.inl ⟨rfl, _, SqL.of I.hL⟩, ?_⟩
          walk_at "run"
          refine ⟨szl rfl, fun p hp => ?_⟩
          have npa := I.tp.at hp
          have sp := Same.new (o := .lst (([0, 1, 257] : List Nat).map vN)) hp
          have hpp : upd H5 p (.lst (([0, 1, 257] : List Nat).map vN)) p = some (.lst (([0, 1, 257] : List Nat).map vN)) := upd_same
          have I := I.same sp
          have g := g.same sp
          walk_at "run"
          refine ⟨a, t, 3, rfl, by decide, by decide, I.tp, fun z H7 z0 z1 t7 c7 => ?_⟩
          have hp7 := c7 p _ npa hpp
          have I := I.next t7 c7
          have g := g.next t7 c7
          obtain ⟨n, hat⟩ := pickN (ns := [0, 1, 257]) z0 z1
          refine ⟨_, _, _, _, rfl, rfl, SqL.of hp7, hat, ?_⟩
          refine ⟨szl rfl, fun q hq => ?_⟩
          have sq := Same.new (o := .lst (([0, 0, 0, n] : List Nat).map vN)) hq
          have hqq : upd H7 q (.lst (([0, 0, 0, n] : List Nat).map vN)) q = some (.lst (([0, 0, 0, n] : List Nat).map vN)) := upd_same
          have I := I.same sq
          have g := g.same sq
          refine ⟨_, _, _, _, rfl, rfl, g.hL, hqq, szn (by rw [List.length_map, List.length_map]; show _ + 4 ≤ _; omega), fun c hc => ?_⟩
          have sc := Same.new (o := .lst (ns.map vN ++ ([0, 0, 0, n] : List Nat).map vN)) hc
          have I := I.same sc
          refine ⟨c, _, rfl, .inl ⟨SqL.of upd_same, fun u hu => ?_⟩⟩
          have su := Same.new (o := .tup (ns.map vN ++ ([0, 0, 0, n] : List Nat).map vN)) hu
          have du : ∀ {G : Hp}, G u = some (.tup (ns.map vN ++ ([0, 0, 0, n] : List Nat).map vN)) → Dt G (.ref u) (pD (ns ++ [0, 0, 0, n])) := fun h => pD_mk (by rw [h, List.map_append])
          have I := I.same su
          refine ⟨_, _, _, rfl, rfl, I.hL, szt (by omega), _, _, ivs ++ [.ref u], is ++ [ns ++ [0, 0, 0, n]], rfl, by rw [List.length_append, il]; rfl, ?_, ?_⟩
          · intro ws hw
            rcases List.mem_append.mp hw with h | h
            · exact h8 ws h
            · rw [List.mem_singleton.mp h, List.length_append, nl]; rfl
          · rw [List.map_append]
            exact I.pushV (du upd_same) (pD_tonly _)
    · rintro σ H1 ⟨o3, o4, ivs, is, rfl, il, h8, I⟩
      have il : is.length = m := by have il : is.length = ((m : Int) - 0).toNat := il; omega
      walk_at "run"
      exact k L is H1 il (ImgAt.of7 I h8 (by omega)) I.tp I.ch
end
end My

namespace My
open PySem L2
local macro_rules | `(tactic| walk_at "ne") => `(tactic| first | assumption | exact Ne.symm (by assumption) | exact ne_of_none (by assumption) (by assumption) | exact Ne.symm (ne_of_none (by assumption) (by assumption)))
local macro_rules | `(tactic| walk_at "hp") => `(tactic| first | assumption | with_reducible exact upd_same | (with_reducible refine Eq.trans (upd_ne ?_) ?_; rotate_left; walk_at "hp"; walk_at "ne"))
local macro_rules | `(tactic| walk_at "cnd") => `(tactic| first | omega | (show (0 : Int) < _; omega) | exact ⟨by omega, by omega⟩ | exact Or.inl ⟨by omega, by omega⟩ | exact Or.inr ⟨by omega, by omega⟩ | exact ⟨by omega, by omega, by decide⟩ | exact ⟨by omega, by omega, by omega⟩)
local macro_rules | `(tactic| walk_at "at") => `(tactic| first | exact atC 0 rfl rfl | exact atC 1 rfl rfl | exact atC 2 rfl rfl | exact atC 3 rfl rfl | exact atC 4 rfl rfl | exact atC 5 rfl rfl | exact atC 6 rfl rfl | exact atC 7 rfl rfl)
local macro_rules | `(tactic| walk_at "ix") => `(tactic| first | exact ixC 0 rfl (Nat.le_of_ble_eq_true rfl) | exact ixC 1 rfl (Nat.le_of_ble_eq_true rfl) | exact ixC 2 rfl (Nat.le_of_ble_eq_true rfl) | exact ixC 3 rfl (Nat.le_of_ble_eq_true rfl) | exact ixC 4 rfl (Nat.le_of_ble_eq_true rfl) | exact ixC 5 rfl (Nat.le_of_ble_eq_true rfl))
local macro_rules | `(tactic| walk_at "st") => `(tactic| first
  | refine ⟨_, rfl, ?_⟩
  | refine ⟨_, _, rfl, rfl, (by walk_at "cnd" : (_ : Prop)), ?_⟩
  | refine ⟨_, _, rfl, rfl, ?_⟩
  | refine ⟨rfl, ?_⟩
  | refine Or.inl ⟨_, rfl, ?_⟩
  | refine ⟨_, _, _, _, rfl, rfl, by exact SqL.of (by walk_at "hp"), by walk_at "at", ?_⟩
  | refine ⟨_, _, _, _, rfl, rfl, by exact SqT.of (by walk_at "hp"), by walk_at "at", ?_⟩
  | refine ⟨_, _, _, _, rfl, rfl, by walk_at "hp", by walk_at "ix", ?_⟩
  | refine ⟨_, _, rfl, Or.inl (by exact SqL.of (by walk_at "hp")), ?_⟩
  | refine ⟨_, _, rfl, Or.inr (by exact SqT.of (by walk_at "hp")), ?_⟩)
local macro_rules | `(tactic| walk_at "so") => `(tactic| first
  | refine ⟨_, _, _, _, _, rfl, by walk_at "hp", by assumption, by assumption, rfl, ?_⟩
  | refine ⟨_, _, _, _, rfl, by walk_at "hp", by assumption, by assumption, Nat.le_of_ble_eq_true rfl, ?_⟩
  | refine ⟨_, _, _, rfl, by walk_at "hp", rfl, ?_⟩
  | walk_at "st")
local macro_rules | `(tactic| walk_at "ro") => `(tactic| repeat walk_at "so")
local macro_rules | `(tactic| walk_at "run") => `(tactic| repeat walk_at "st")

theorem dt_rep {H : Hp} {v : V} {d : PyData} (h : Dt H v d) : ∀ n, DtAll H (List.replicate n v) (List.replicate n d)
  | 0 => .nil
  | n + 1 => .cons h (dt_rep h n)
theorem img_tonly : ∀ is : List (List Nat), tonlyAll (is.map pD) = true
  | [] => rfl
  | ws :: is => by show (tonly (pD ws) && tonlyAll (is.map pD)) = true; rw [pD_tonly, img_tonly is]; rfl
theorem DtAll.put {H : Hp} {v : V} {d : PyData} (h : Dt H v d) : ∀ {xs : List V} {ds : List PyData} (k : Nat), DtAll H xs ds → DtAll H (xs.set k v) (ds.set k d)
  | _, _, _, .nil => .nil
  | _, _, 0, .cons _ h2 => .cons h h2
  | _, _, k + 1, .cons h1 h2 => .cons h1 (DtAll.put h k h2)
theorem I7.setI {H0 H : Hp} {a t L : Addr} {xs : List V} {is : List (List Nat)} (I : I7 H0 a t L xs (is.map pD) H) (k : Nat) {v : V} {w : List Nat} (h : Dt H v (pD w)) : I7 H0 a t L (xs.set k v) ((is.set k w).map pD) (upd H L (.lst (xs.set k v))) := by
  have e : (is.map pD).set k (pD w) = (is.set k w).map pD := by rw [List.map_set]
  have q : DtAll H (xs.set k v) ((is.set k w).map pD) := by rw [← e]; exact DtAll.put h k I.dL
  exact ⟨upd_same, q.ts (Chg.upd.ts I.hL) (img_tonly _), img_tonly _, I.tp.upd I.La I.Lt, Chg.mut I.ch I.nL, I.La, I.Lt, I.nL⟩
theorem set_8 {is : List (List Nat)} {k : Nat} {w : List Nat} (h8 : ∀ ws ∈ is, ws.length = 8) (hw : w.length = 8) : ∀ ws ∈ is.set k w, ws.length = 8 := fun ws h => by
  rcases List.mem_or_eq_of_mem_set h with h | rfl
  · exact h8 ws h
  · exact hw
def ordN (m : Nat) : List Nat := (List.range (m - 4)).map (4 + ·)
theorem ordN_len (m : Nat) : (ordN m).length = m - 4 := by unfold ordN; rw [List.length_map, List.length_range]
theorem ordN_at {m k : Nat} (h : k < m - 4) : (ordN m).getD k 0 = 4 + k := by
  unfold ordN
  rw [List.getD_eq_getElem?_getD, List.getElem?_map, List.getElem?_range h]; rfl
theorem rgV_is {m : Nat} (h : 4 ≤ m) : rgV 4 (m : Int) = (ordN m).map vN := by
  unfold rgV ordN
  rw [show ((m : Int) - 4).toNat = m - 4 by omega, List.map_map]
  congr 1
structure CI (H : Hp) (a t L O : Addr) (m : Nat) (ivs : List V) (is : List (List Nat)) (H' : Hp) : Prop where
  il : is.length = m
  h8 : ∀ ws ∈ is, ws.length = 8
  i : I7 H a t L ivs (is.map pD) H'
  o : I7 H a t O ((ordN m).map vN) (iDs (ordN m)) H'
namespace CI
variable {H H1 H2 : Hp} {a t L O : Addr} {m : Nat} {ivs : List V} {is : List (List Nat)}
theorem same (c : CI H a t L O m ivs is H1) (s : Same H1 H2) : CI H a t L O m ivs is H2 := ⟨c.il, c.h8, c.i.same s, c.o.same s⟩
theorem next (c : CI H a t L O m ivs is H1) (t' : Tape H2 a t) (s : Chg a H1 H2) : CI H a t L O m ivs is H2 := ⟨c.il, c.h8, c.i.next t' s, c.o.next t' s⟩
theorem put (c : CI H a t L O m ivs is H1) (n : O ≠ L) (k : Nat) {v : V} {w : List Nat} (hw : w.length = 8) (h : Dt H1 v (pD w)) : CI H a t L O m (ivs.set k v) (is.set k w) (upd H1 L (.lst (ivs.set k v))) :=
  ⟨by rw [List.length_set]; exact c.il, set_8 c.h8 hw, c.i.setI k h, c.o.other c.i.hL c.i.La c.i.Lt n c.i.nL⟩
theorem other (c : CI H a t L O m ivs is H1) {G : Addr} {gs : List V} {o : HO} (hG : H1 G = some (.lst gs)) (n1 : G ≠ a) (n2 : G ≠ t) (n3 : L ≠ G) (n4 : O ≠ G) (hn : H G = none) : CI H a t L O m ivs is (upd H1 G o) :=
  ⟨c.il, c.h8, c.i.other hG n1 n2 n3 hn, c.o.other hG n1 n2 n4 hn⟩
theorem vl (c : CI H a t L O m ivs is H1) : ivs.length = m := by rw [c.i.dL.len, List.length_map, c.il]
end CI
def Z8 : List Nat := [0, 0, 0, 0, 0, 0, 0, 0]
section
variable {P : Program} {w : World} {K : PySem.W.Frag} {mg : Str → Option Value} {base : Heap} {C_Types C_NotValid : Addr}
abbrev s_law_chain : Stmt := topS 44
abbrev ns_law_chain : List Str := ["tape", "many", "image", "order", "k", "words", "turn", "block"]
theorem sc_law_chain : FnScope ns_law_chain ["tape", "many"] (defScope s_law_chain) := ⟨rfl, rfl, rfl, by decide +kernel, rfl, by decide +kernel, by decide +kernel⟩

theorem ok_law_chain {f : Addr} {fd : FuncData} (F : Fun K "_law_chain" "_law_chain" s_law_chain f fd) (T : Txt K mg C_Types C_NotValid) (D_law_next : Dfn P w K mg base CX0 1 "_law_next" ["tape", "many"] spNext) : FnOk P w K mg base CX0 2 f fd ["tape", "many"] spDrawn := by
  refine F.ok sc_law_chain (fun vs H Q E h => ?_) (fun cdv A outer s H vs Q E hr h => ?_)
  · obtain ⟨a, t, m, rfl, _⟩ := h
    rfl
  · obtain ⟨a, t, m, rfl, m24, m40, t0, k⟩ := h
    refine ⟨_, (pss_cons (ps_set (i := 2) sc_law_chain.nd rfl (Or.inl rfl) (pe_op op_rep (pe_lst (pa_cons (pe_op op_repT (pe_tup (pa_cons pe_int pa_nil)) pe_int) pa_nil)) (pv 1)))
  (pss_cons (ps_set (i := 3) sc_law_chain.nd rfl (Or.inl rfl) (pe_listRg (by rfl) (by rfl) T.b_list (prg_2 (by rfl) T.b_range pe_int (pv 1))))
  (pss_cons (ps_asg (pe_op (kCatT K) (pe_tup (pa_cons pe_int (pa_cons pe_int pa_nil))) (pe_op op_repT (pe_tup (pa_cons pe_int pa_nil)) pe_int)) (pg_sub (pv 2) (pe_dcall D_law_next (hr.mono (by decide)) (by rfl) pass0 (pa_cons (pv 0) (pa_cons pe_int pa_nil))) set_list))
  (pss_cons (ps_for PassesOwn.never (by rfl) (pi_range1 (by rfl) T.b_range (pa_cons (pe_dcall D_law_next (hr.mono (by decide)) (by rfl) pass0 (pa_cons (pv 0) (pa_cons (pe_op op_sub (pe_callB (kLen K) (by rfl) T.b_len (by decide +kernel) (pa_cons (pv 3) pa_nil)) pe_int) pa_nil))) pa_nil)) (pg_name (i := 4) sc_law_chain.nd rfl (Or.inl rfl)) (pss_cons (ps_set (i := 5) sc_law_chain.nd rfl (Or.inl rfl) (pe_lst (pa_cons (pe_ix (kIxL K) (pv 3) (pe_op op_add (pv 4) pe_int) (fun _ _ => rfl)) (pa_cons pe_int (pa_cons pe_int (pa_cons pe_int (pa_cons pe_int (pa_cons pe_int (pa_cons pe_int (pa_cons pe_int pa_nil))))))))))
  (pss_one (ps_asg (pe_callTy (kTupOf K) (by rfl) T.b_tuple (by decide +kernel) (pa_cons (pv 5) pa_nil)) (pg_sub (pv 2) (pe_ix (kIxL K) (pv 3) (pv 4) (fun _ _ => rfl)) set_list)))))
  (pss_cons (ps_for PassesOwn.never (by rfl) (pi_range1 (by rfl) T.b_range (pa_cons (pe_dcall D_law_next (hr.mono (by decide)) (by rfl) pass0 (pa_cons (pv 0) (pa_cons pe_int pa_nil))) pa_nil)) (pg_name (i := 6) sc_law_chain.nd rfl (Or.inl rfl)) (pss_cons (ps_set (i := 7) sc_law_chain.nd rfl (Or.inl rfl) (pe_dcall D_law_next (hr.mono (by decide)) (by rfl) pass0 (pa_cons (pv 0) (pa_cons (pv 1) pa_nil))))
  (pss_cons (ps_set (i := 5) sc_law_chain.nd rfl (Or.inl rfl) (pe_callTy (kListOf K) (by rfl) T.b_list (by decide +kernel) (pa_cons (pe_ix (kIxL K) (pv 2) (pv 7) (fun _ _ => rfl)) pa_nil)))
  (pss_cons (ps_asg (pe_ix (kIxL K) (pe_lst (pa_cons pe_int (pa_cons (pe_op op_add pe_int (pe_dcall D_law_next (hr.mono (by decide)) (by rfl) pass0 (pa_cons (pv 0) (pa_cons (pe_op op_sub (pv 1) pe_int) pa_nil)))) (pa_cons (pv 1) (pa_cons pe_int pa_nil))))) (pe_dcall D_law_next (hr.mono (by decide)) (by rfl) pass0 (pa_cons (pv 0) (pa_cons pe_int pa_nil))) (fun _ _ => rfl)) (pg_sub (pv 5) (pe_dcall D_law_next (hr.mono (by decide)) (by rfl) pass0 (pa_cons (pv 0) (pa_cons pe_int pa_nil))) set_list))
  (pss_one (ps_asg (pe_callTy (kTupOf K) (by rfl) T.b_tuple (by decide +kernel) (pa_cons (pv 5) pa_nil)) (pg_sub (pv 2) (pv 7) set_list)))))))
  (pss_one (ps_ret (pv 2)))))))), ?_⟩
    refine ⟨szl rfl, fun p hp => ?_⟩
    refine ⟨p, 8, [.int 0], rfl, rfl, SqT.of upd_same, by simp, by decide, by decide, by decide, fun z hz => ?_⟩
    refine ⟨szl rfl, fun q hq => ?_⟩
    have sz := (Same.new (o := .tup [.int 0]) hp).trans (Same.new (o := .tup (List.replicate (Int.toNat 8) [V.int 0]).flatten) hz)
    have hz1 : upd (upd H p (.tup [.int 0])) z (.tup (List.replicate (Int.toNat 8) [V.int 0]).flatten) z = some (.tup (Z8.map vN)) := by rw [upd_same]; rfl
    have sq := Same.new (o := .lst [.ref z]) hq
    have hz2 := sq _ _ hz1
    have s0 := sz.trans sq
    walk_at "run"
    refine ⟨q, (m : Int), [.ref z], rfl, rfl, upd_same, by omega, by omega, by rw [List.length_singleton, Nat.one_mul, Int.toNat_natCast]; exact szn (by omega), fun L hL => ?_⟩
    have eF : (List.replicate (Int.toNat (m : Int)) [V.ref z]).flatten = List.replicate m (.ref z) := by rw [Int.toNat_natCast, List.flatten_replicate_singleton]
    rw [eF]
    generalize upd (upd (upd H p (.tup [.int 0])) z (.tup (List.replicate (Int.toNat 8) [V.int 0]).flatten)) q (.lst [.ref z]) = G at s0 hz2 hL
    have tG := t0.same s0
    have sL := Same.new (o := .lst (List.replicate m (.ref z))) hL
    have I0 : I7 H a t L (List.replicate m (.ref z)) ((List.replicate m Z8).map pD) (upd G L (.lst (List.replicate m (.ref z)))) := by
      refine ⟨upd_same, ?_, img_tonly _, tG.same sL, Same.chg (s0.trans sL), tG.at hL, tG.at2 hL, s0.free hL⟩
      rw [List.map_replicate]
      exact dt_rep (pD_mk (sL _ _ hz2)) m
    have il0 : (List.replicate m Z8).length = m := List.length_replicate
    have h80 : ∀ ws ∈ List.replicate m Z8, ws.length = 8 := fun ws h => by rw [(List.mem_replicate.mp h).2]; rfl
    generalize List.replicate m Z8 = is0 at I0 il0 h80
    generalize List.replicate m (V.ref z) = ivs0 at I0
    generalize upd G L (.lst ivs0) = G1 at I0
    walk_at "run"
    refine fun O hO => ?_
    rw [rgV_is (by omega)]
    have sO := Same.new (o := .lst ((ordN m).map vN)) hO
    have o0 : I7 H a t O ((ordN m).map vN) (iDs (ordN m)) (upd G1 O (.lst ((ordN m).map vN))) := ⟨upd_same, ints_mk, ints_tonly _, I0.tp.same sO, I0.ch.trans (Same.chg sO), I0.tp.at hO, I0.tp.at2 hO, none_of I0.ch (I0.tp.at hO) hO⟩
    have nOL : O ≠ L := (ne_of_none I0.hL hO).symm
    have I0 := I0.same sO
    generalize upd G1 O (.lst ((ordN m).map vN)) = G2 at I0 o0
    have c0 : CI H a t L O m ivs0 is0 G2 := ⟨il0, h80, I0, o0⟩
    clear I0 o0 il0 h80 sO hO sL tG hL hz2 s0
    walk_at "run"
    refine ⟨szl rfl, fun p1 hp1 => ?_⟩
    have d1 : Dt (upd G2 p1 (.tup [.int 4, .int 2])) (.ref p1) (.tuple [.int 4, .int 2]) := Dt.new (.cons (.int 4) (.cons (.int 2) .nil)) hp1
    have c0 := c0.same (Same.new (o := .tup [.int 4, .int 2]) hp1)
    generalize upd G2 p1 (.tup [.int 4, .int 2]) = G3 at d1 c0
    refine ⟨szl rfl, fun p2 hp2 => ?_⟩
    refine ⟨p2, 6, [.int 0], rfl, rfl, SqT.of upd_same, by simp, by decide, by decide, by decide, fun p3 hp3 => ?_⟩
    have s23 := (Same.new (o := .tup [.int 0]) hp2).trans (Same.new (o := .tup (List.replicate (Int.toNat 6) [V.int 0]).flatten) hp3)
    have d3 : Dt (upd (upd G3 p2 (.tup [.int 0])) p3 (.tup (List.replicate (Int.toNat 6) [V.int 0]).flatten)) (.ref p3) (.tuple [.int 0, .int 0, .int 0, .int 0, .int 0, .int 0]) := .tup upd_same (.cons (.int 0) (.cons (.int 0) (.cons (.int 0) (.cons (.int 0) (.cons (.int 0) (.cons (.int 0) .nil))))))
    have d1 := d1.same s23
    have c0 := c0.same s23
    generalize upd (upd G3 p2 (.tup [.int 0])) p3 (.tup (List.replicate (Int.toNat 6) [V.int 0]).flatten) = G4 at d1 c0 d3
    refine r_catD d1 d3 (by decide) fun v G5 s5 dv => ?_
    have c0 := c0.same s5
    have dv : Dt G5 v (pD [4, 2, 0, 0, 0, 0, 0, 0]) := dv
    walk_at "run"
    refine ⟨a, t, 4, rfl, by decide, by decide, c0.i.tp, fun x G6 x0 x1 t6 c6 => ?_⟩
    have dv := dv.ts (c0.i.tp.ts c6) (pD_tonly _)
    have c0 := c0.next t6 c6
    obtain ⟨x', rfl⟩ := Int.eq_ofNat_of_zero_le x0
    refine ⟨_, _, _, x', rfl, rfl, c0.i.hL, ixC x' rfl (by rw [c0.vl]; omega), ?_⟩
    have c0 := c0.put nOL x' (w := [4, 2, 0, 0, 0, 0, 0, 0]) rfl dv
    generalize ivs0.set x' v = ivs0 at c0
    generalize is0.set x' [4, 2, 0, 0, 0, 0, 0, 0] = is0 at c0
    generalize upd G6 L (.lst ivs0) = G7 at c0
    clear dv d1 d3 t6 c6
    have hO0 := c0.o.hL
    have ol : ((ordN m).map vN).length = m - 4 := by rw [List.length_map, ordN_len]
    walk_at "run"
    refine ⟨a, t, (((ordN m).map vN).length : Int) - 2, rfl, by omega, by omega, c0.i.tp, fun n G8 n0 n1 t8 c8 => ?_⟩
    have c0 := c0.next t8 c8
    obtain ⟨n', rfl⟩ := Int.eq_ofNat_of_zero_le n0
    walk_at "run"
    refine ⟨by omega, by omega, ?_⟩
    show ∃ W : Nat → Nat → L2.St → Hp → Prop, _
    refine for_range (fun i σ H1 => ∃ (o4 o5 : Option V) (ivs : List V) (is : List (List Nat)), σ = [some (.ref a), some (.int (m : Int)), some (.ref L), some (.ref O), o4, o5, none, none] ∧ CI H a t L O m ivs is H1) ?_ ?_ ?_
    · exact ⟨none, none, _, _, rfl, c0⟩
    · rintro i σ H1 hi ⟨o4, o5, ivs, is, rfl, c⟩
      have hi : i < n' := by have hi : i < ((n' : Int) - 0).toNat := hi; omega
      have hO1 := c.o.hL
      have ga := getVN (ws := ordN m) (i := i + 1) (by rw [ordN_len]; omega)
      have gb := getVN (ws := ordN m) (i := i) (by rw [ordN_len]; omega)
      rw [ordN_at (by omega)] at ga gb
      walk_at "run"
      refine ⟨_, _, _, _, rfl, rfl, SqL.of hO1, atC (i + 1) (by omega) ga, ?_⟩
      refine ⟨szl rfl, fun W hW => ?_⟩
      have hWW : upd H1 W (.lst (([4 + (i + 1), 0, 0, 0, 0, 0, 0, 0] : List Nat).map vN)) W = some (.lst (([4 + (i + 1), 0, 0, 0, 0, 0, 0, 0] : List Nat).map vN)) := upd_same
      have c := c.same (Same.new (o := .lst (([4 + (i + 1), 0, 0, 0, 0, 0, 0, 0] : List Nat).map vN)) hW)
      walk_at "run"
      refine ⟨W, _, rfl, .inl ⟨SqL.of hWW, fun u hu => ?_⟩⟩
      have c := c.same (Same.new (o := .tup (([4 + (i + 1), 0, 0, 0, 0, 0, 0, 0] : List Nat).map vN)) hu)
      have hO2 := c.o.hL
      walk_at "run"
      refine ⟨_, _, _, _, rfl, rfl, SqL.of hO2, atC i (by omega) gb, ?_⟩
      refine ⟨_, _, _, 4 + i, rfl, rfl, c.i.hL, ixC (4 + i) rfl (by rw [c.vl]; omega), ?_⟩
      exact ⟨_, _, _, _, rfl, c.put nOL (4 + i) (w := [4 + (i + 1), 0, 0, 0, 0, 0, 0, 0]) rfl (pD_mk upd_same)⟩
    · rintro σ H1 ⟨o4, o5, ivs, is, rfl, c⟩
      walk_at "run"
      refine ⟨a, t, 3, rfl, by decide, by decide, c.i.tp, fun y H2 y0 y1 t2 c2 => ?_⟩
      have c := c.next t2 c2
      obtain ⟨y', rfl⟩ := Int.eq_ofNat_of_zero_le y0
      walk_at "run"
      refine ⟨by omega, by omega, ?_⟩
      show ∃ W : Nat → Nat → L2.St → Hp → Prop, _
      refine for_range (fun i σ H1 => ∃ (o5 o6 o7 : Option V) (ivs : List V) (is : List (List Nat)), σ = [some (.ref a), some (.int (m : Int)), some (.ref L), some (.ref O), o4, o5, o6, o7] ∧ CI H a t L O m ivs is H1) ?_ ?_ ?_
      · exact ⟨_, _, _, _, _, rfl, c⟩
      · rintro i σ H3 hi ⟨o5, o6, o7, ivs, is, rfl, c⟩
        walk_at "run"
        refine ⟨a, t, (m : Int), rfl, by omega, by omega, c.i.tp, fun b H4 b0 b1 t4 c4 => ?_⟩
        have c := c.next t4 c4
        obtain ⟨b', rfl⟩ := Int.eq_ofNat_of_zero_le b0
        have hbl : b' < is.length := by rw [c.il]; omega
        obtain ⟨vw, hw1, hw2⟩ := img_at c.i.dL hbl
        obtain ⟨ba, rfl, hba⟩ := pD_open hw2
        have hw8 := img_8 c.h8 hbl
        generalize is.getD b' [] = ws at hba hw8 hw2
        walk_at "run"
        refine ⟨_, _, _, _, rfl, rfl, SqL.of c.i.hL, atC b' rfl hw1, ?_⟩
        refine ⟨ba, _, rfl, .inr (SqT.of hba), fun W hW => ?_⟩
        have W0 := none_of c.i.ch (c.i.tp.at hW) hW
        have g : I7 H a t W (ws.map vN) (iDs ws) (upd H4 W (.lst (ws.map vN))) := ⟨upd_same, ints_mk, ints_tonly _, c.i.tp.same (Same.new hW), c.i.ch.trans (Same.chg (Same.new hW)), c.i.tp.at hW, c.i.tp.at2 hW, W0⟩
        have nLW : L ≠ W := ne_of_none c.i.hL hW
        have nOW : O ≠ W := ne_of_none c.o.hL hW
        have c := c.same (Same.new (o := .lst (ws.map vN)) hW)
        generalize upd H4 W (.lst (ws.map vN)) = H5 at g c
        walk_at "run"
        refine ⟨a, t, (m : Int) - 4, rfl, by omega, by omega, c.i.tp, fun x H6 x0 x1 t6 c6 => ?_⟩
        have c := c.next t6 c6
        have g := g.next t6 c6
        obtain ⟨x', rfl⟩ := Int.eq_ofNat_of_zero_le x0
        walk_at "run"
        refine ⟨szl rfl, fun p hp => ?_⟩
        have npa := c.i.tp.at hp
        have sp := Same.new (o := .lst (([0, 4 + x', m, 3] : List Nat).map vN)) hp
        have hpp : upd H6 p (.lst (([0, 4 + x', m, 3] : List Nat).map vN)) p = some (.lst (([0, 4 + x', m, 3] : List Nat).map vN)) := upd_same
        have c := c.same sp
        have g := g.same sp
        walk_at "run"
        refine ⟨a, t, 4, rfl, by decide, by decide, c.i.tp, fun z H7 z0 z1 t7 c7 => ?_⟩
        have hp7 := c7 p _ npa hpp
        have c := c.next t7 c7
        have g := g.next t7 c7
        obtain ⟨n, hat⟩ := pickN (ns := [0, 4 + x', m, 3]) z0 z1
        refine ⟨_, _, _, _, rfl, rfl, SqL.of hp7, hat, ?_⟩
        walk_at "run"
        refine ⟨a, t, 4, rfl, by decide, by decide, c.i.tp, fun e H8 e0 e1 t8 c8 => ?_⟩
        have c := c.next t8 c8
        have g := g.next t8 c8
        obtain ⟨e', rfl⟩ := Int.eq_ofNat_of_zero_le e0
        refine ⟨_, _, _, e', rfl, rfl, g.hL, ixC e' rfl (by rw [List.length_map]; omega), ?_⟩
        have ee : (ws.map vN).set e' (.int (n : Int)) = (ws.set e' n).map vN := by rw [List.map_set]; rfl
        rw [ee]
        have c := c.other (o := .lst ((ws.set e' n).map vN)) g.hL g.La g.Lt nLW nOW g.nL
        have hWW := upd_same (H := H8) (a := W) (o := .lst ((ws.set e' n).map vN))
        have w8 : (ws.set e' n).length = 8 := by rw [List.length_set]; exact hw8
        generalize ws.set e' n = ws2 at c hWW w8
        generalize upd H8 W (.lst (ws2.map vN)) = H9 at c hWW
        walk_at "run"
        refine ⟨W, _, rfl, .inl ⟨SqL.of hWW, fun u hu => ?_⟩⟩
        have c := c.same (Same.new (o := .tup (ws2.map vN)) hu)
        walk_at "run"
        refine ⟨_, _, _, b', rfl, rfl, c.i.hL, ixC b' rfl (by rw [c.vl]; omega), ?_⟩
        exact ⟨_, _, _, _, _, rfl, c.put nOL b' w8 (pD_mk upd_same)⟩
      · rintro σ H3 ⟨o5, o6, o7, ivs, is, rfl, c⟩
        walk_at "run"
        exact k L is H3 c.il (ImgAt.of7 c.i c.h8 (by rw [c.il]; omega)) c.i.tp c.i.ch
end
end My

namespace My
open PySem L2
local macro_rules | `(tactic| walk_at "ne") => `(tactic| first | assumption | exact Ne.symm (by assumption) | exact ne_of_none (by assumption) (by assumption) | exact Ne.symm (ne_of_none (by assumption) (by assumption)))
local macro_rules | `(tactic| walk_at "hp") => `(tactic| first | assumption | with_reducible exact upd_same | (with_reducible refine Eq.trans (upd_ne ?_) ?_; rotate_left; walk_at "hp"; walk_at "ne"))
local macro_rules | `(tactic| walk_at "cnd") => `(tactic| first | omega | (show (0 : Int) < _; omega) | exact ⟨by omega, by omega⟩ | exact Or.inl ⟨by omega, by omega⟩ | exact Or.inr ⟨by omega, by omega⟩ | exact ⟨by omega, by omega, by decide⟩ | exact ⟨by omega, by omega, by omega⟩)
local macro_rules | `(tactic| walk_at "at") => `(tactic| first | exact atC 0 rfl rfl | exact atC 1 rfl rfl | exact atC 2 rfl rfl | exact atC 3 rfl rfl | exact atC 4 rfl rfl | exact atC 5 rfl rfl | exact atC 6 rfl rfl | exact atC 7 rfl rfl)
local macro_rules | `(tactic| walk_at "ix") => `(tactic| first | exact ixC 0 rfl (Nat.le_of_ble_eq_true rfl) | exact ixC 1 rfl (Nat.le_of_ble_eq_true rfl) | exact ixC 2 rfl (Nat.le_of_ble_eq_true rfl) | exact ixC 3 rfl (Nat.le_of_ble_eq_true rfl) | exact ixC 4 rfl (Nat.le_of_ble_eq_true rfl) | exact ixC 5 rfl (Nat.le_of_ble_eq_true rfl))
local macro_rules | `(tactic| walk_at "st") => `(tactic| first
  | refine ⟨_, rfl, ?_⟩
  | refine ⟨_, _, rfl, rfl, (by walk_at "cnd" : (_ : Prop)), ?_⟩
  | refine ⟨_, _, rfl, rfl, ?_⟩
  | refine ⟨rfl, ?_⟩
  | refine Or.inl ⟨_, rfl, ?_⟩
  | refine ⟨_, _, _, _, rfl, rfl, by exact SqL.of (by walk_at "hp"), by walk_at "at", ?_⟩
  | refine ⟨_, _, _, _, rfl, rfl, by exact SqT.of (by walk_at "hp"), by walk_at "at", ?_⟩
  | refine ⟨_, _, _, _, rfl, rfl, by walk_at "hp", by walk_at "ix", ?_⟩
  | refine ⟨_, _, rfl, Or.inl (by exact SqL.of (by walk_at "hp")), ?_⟩
  | refine ⟨_, _, rfl, Or.inr (by exact SqT.of (by walk_at "hp")), ?_⟩)
local macro_rules | `(tactic| walk_at "so") => `(tactic| first
  | refine ⟨_, _, _, _, _, rfl, by walk_at "hp", by assumption, by assumption, rfl, ?_⟩
  | refine ⟨_, _, _, _, rfl, by walk_at "hp", by assumption, by assumption, Nat.le_of_ble_eq_true rfl, ?_⟩
  | refine ⟨_, _, _, rfl, by walk_at "hp", rfl, ?_⟩
  | walk_at "st")
local macro_rules | `(tactic| walk_at "ro") => `(tactic| repeat walk_at "so")
local macro_rules | `(tactic| walk_at "run") => `(tactic| repeat walk_at "st")

theorem gr_word {img : List (List Nat)} {seen : List Nat} {w : Str} {b : Nat} : ∀ (f : Nat) (rows : List Row) (i : Nat), gr img seen f rows i = .bad w b → w = "twice" ∨ w = "ill"
  | 0, rows, i, h => by cases h
  | f + 1, rows, i, h => by
    unfold gr at h
    split at h
    · cases h
    · split at h
      · cases h; exact .inl rfl
      · split at h
        · cases h; exact .inr rfl
        · exact gr_word f _ _ h
theorem goE_word {img : List (List Nat)} {w : Str} {b : Nat} : ∀ (es seen : List Nat) (acc : List (List Row)), goE img es seen acc = .inl (w, b) → w = "twice" ∨ w = "ill"
  | [], seen, acc, h => by cases h
  | e :: es, seen, acc, h => by
    unfold goE at h
    split at h
    · rename_i w' b' hg
      cases h
      exact gr_word _ _ _ hg
    · exact goE_word es _ _ h
theorem sh_word {w : Str} (h : w = "twice" ∨ w = "ill") (b : Int) : SeqAt.shaped (.tuple [.str w, .int b]) = true := by
  refine (Sh.tup (n := 1) fun d hd => ?_).ok
  simp only [List.mem_cons, List.not_mem_nil, or_false] at hd
  rcases hd with rfl | rfl
  · rcases h with rfl | rfl <;> exact ⟨by decide +kernel, by decide +kernel⟩
  · exact Sh.int _ _
theorem sh_rv (r : Row) : SeqAt.shaped (rvD r) = true := by
  refine (Sh.tup (n := 1) fun d hd => ?_).ok
  simp only [List.mem_cons, List.not_mem_nil, or_false] at hd
  rcases hd with rfl | rfl
  · cases r.2.1
    · exact Sh.none _
    · exact Sh.int _ _
  · exact Sh.int _ _
theorem sh_iL (ns : List Nat) : SeqAt.shaped (iL ns) = true := by
  refine (Sh.lst (n := 1) fun d hd => ?_).ok
  obtain ⟨n, _, rfl⟩ := List.mem_map.mp hd
  exact Sh.int _ _
theorem sh_img (is : List (List Nat)) : SeqAt.shaped (.list (is.map pD)) = true := by
  refine (Sh.lst (n := 2) fun d hd => ?_).ok
  obtain ⟨ws, _, rfl⟩ := List.mem_map.mp hd
  refine Sh.tup (n := 1) fun d hd => ?_
  obtain ⟨n, _, rfl⟩ := List.mem_map.mp hd
  exact Sh.int _ _
theorem fd_eq {K : PySem.W.Frag} {H : Hp} {d d' : Addr} {rows : List Row} (h : FD H d rows) (h' : FD H d' rows) (nd : (bls rows).Nodup) : EqR K H (LfV K H) (.ref d) (.ref d') := by
  obtain ⟨vs, h1, h2⟩ := h
  obtain ⟨us, h3, h4⟩ := h'
  have vl : vs.length = rows.length := by rw [h2.len, List.length_map]
  have ul : us.length = rows.length := by rw [h4.len, List.length_map]
  refine .inr ⟨d, d', _, _, rfl, rfl, h1, h3, by rw [entD_len vl, entD_len ul], fun p hp => ?_⟩
  obtain ⟨j, hj⟩ := List.getElem?_of_mem hp
  obtain ⟨k, v⟩ := p
  obtain ⟨r, hr, rfl⟩ := entD_at vl hj
  have hv : vs[j]? = some v := by
    unfold entD at hj
    rw [List.getElem?_map] at hj
    cases e : (rows.zip vs)[j]? with
    | none => rw [e] at hj; cases hj
    | some q =>
      rw [e] at hj
      have hj : ((.inl (q.1.1 : Int) : Key), q.2) = ((.inl (r.1 : Int) : Key), v) := Option.some.inj hj
      have e2 := (List.getElem?_zip_eq_some.mp e).2
      injection hj with _ hj
      rw [e2, hj]
  have hd : (rows.map rvD)[j]? = some (rvD r) := by rw [List.getElem?_map, hr]; rfl
  obtain ⟨u, hu, hud⟩ := h4.get hd
  obtain ⟨dd, hdd, hvd⟩ := h2.getV hv
  rw [hd] at hdd
  cases hdd
  exact ⟨u, valV_ent_at nd hr hu, rvD r, hvd.dp, hud.dp, sh_rv r⟩
theorem fds_eq {K : PySem.W.Frag} {H : Hp} : ∀ {ds ds' : List Addr} {rss : List (List Row)}, FDs H ds rss → FDs H ds' rss → (∀ rows ∈ rss, (bls rows).Nodup) → Paired (EqR K H (LfV K H)) (ds.map V.ref) (ds'.map V.ref)
  | [], ds', rss, h, h', _ => by
    have e : rss = [] := List.length_eq_zero_iff.mp h.1.symm
    subst e
    have e : ds' = [] := List.length_eq_zero_iff.mp h'.1
    subst e
    exact .nil
  | d :: ds, [], rss, h, h', _ => by
    have := h.1.trans h'.1.symm
    cases this
  | d :: ds, d' :: ds', [], h, _, _ => by cases h.1
  | d :: ds, d' :: ds', rows :: rss, h, h', nd => by
    refine .cons (fd_eq (h.2 0 d rows rfl rfl) (h'.2 0 d' rows rfl rfl) (nd rows List.mem_cons_self)) (fds_eq (rss := rss) ⟨by simpa using h.1, fun j d rows a b => h.2 (j + 1) d rows (by simpa using a) (by simpa using b)⟩ ⟨by simpa using h'.1, fun j d rows a b => h'.2 (j + 1) d rows (by simpa using a) (by simpa using b)⟩ fun rows hr => nd rows (List.mem_cons_of_mem _ hr))
theorem bls_nd {rss : List (List Row)} (nd : (blss rss).Nodup) : ∀ rows ∈ rss, (bls rows).Nodup := fun rows h => by
  obtain ⟨i, hi⟩ := List.getElem?_of_mem h
  have e : blss rss = blss (rss.take (i + 1)) ++ blss (rss.drop (i + 1)) := by
    conv => lhs; rw [← List.take_append_drop (i + 1) rss]
    unfold blss
    rw [List.flatMap_append]
  rw [e] at nd
  have q := (List.nodup_append.mp nd).1
  rw [blss_snoc hi] at q
  exact (List.nodup_append.mp q).2.1
theorem ent_keys : ∀ {rows : List Row} {vs : List V}, vs.length = rows.length → ((entD rows vs).map fun kv => kV kv.1) = (bls rows).map vN
  | [], _, _ => rfl
  | r :: rows, [], h => by cases h
  | r :: rows, v :: vs, h => by
    show vN r.1 :: ((entD rows vs).map fun kv => kV kv.1) = vN r.1 :: (bls rows).map vN
    rw [ent_keys (by simpa using h)]
theorem Ty.nextT {C : Addr} {H H' : Hp} {x L R a t : Addr} {B : Nat} {ps : List (List Cl)} {rs : List Nat} (ty : Ty C H x L R B ps rs) (hp : ps.length ≤ 2) (tp : Tape H a t) (c : Chg a H H') : Ty C H' x L R B ps rs := by
  have ts := tp.ts c
  obtain ⟨ns, i, r, z, ha, _⟩ := tp
  obtain ⟨⟨dx, h1⟩, ⟨xs, h2, h3⟩, h4, h5⟩ := ty
  have nx : x ≠ a := ne_of h1 ha (by intro z; cases z)
  have nL : L ≠ a := ne_of h2 ha (by
    intro z
    injection z with z
    have q := h3.len
    rw [z, List.length_map] at q
    have q : 4 = ps.length := q
    omega)
  have nR : R ≠ a := ne_of h4 ha (by
    intro z
    injection z with z
    cases rs with
    | nil => cases z
    | cons r rs => injection z with z _; cases z)
  exact ⟨⟨dx, c _ _ nx h1⟩, ⟨xs, c _ _ nL h2, h3.ts ts (pgs_tonly _)⟩, c _ _ nR h4, h5⟩
theorem ImgAt.nextT {H H' : Hp} {I a t : Addr} {is : List (List Nat)} (h : ImgAt H I is) (hl : 5 ≤ is.length) (tp : Tape H a t) (c : Chg a H H') : ImgAt H' I is := by
  have ts := tp.ts c
  obtain ⟨ns, i, r, z, ha, _⟩ := tp
  obtain ⟨⟨ivs, h1, h2⟩, h3⟩ := h
  have nI : I ≠ a := ne_of h1 ha (by
    intro z
    injection z with z
    have q := h2.len
    rw [z, List.length_map] at q
    have q : 4 = is.length := q
    omega)
  exact ⟨⟨ivs, c _ _ nI h1, h2.ts ts (img_tonly _)⟩, h3⟩
def spLaw (K : PySem.W.Frag) : Sp := fun vs H Q _ => ∃ (a : Addr) (ns : List Int), vs = [.ref a] ∧ SqL K H a (ns.map V.int) ∧ ∀ H', Q (.bl true) H'
section
variable {P : Program} {w : World} {K : PySem.W.Frag} {mg : Str → Option Value} {base : Heap} {C_Types C_NotValid : Addr}
abbrev s_law : Stmt := topS 45
abbrev ns_law : List Str := ["script", "tape", "many", "types", "turn", "image", "kept", "due", "reached", "found", "block"]
theorem sc_law : FnScope ns_law ["script"] (defScope s_law) := ⟨rfl, rfl, rfl, by decide +kernel, rfl, by decide +kernel, by decide +kernel⟩

theorem ok_law {f : Addr} {fd : FuncData} (F : Fun K "law" "law" s_law f fd) (T : Txt K mg C_Types C_NotValid) (D_law_next : Dfn P w K mg base CX0 1 "_law_next" ["tape", "many"] spNext) (D_law_types : Dfn P w K mg base CX0 8 "_law_types" ["many"] (spTypes C_Types)) (D_law_drawn : Dfn P w K mg base CX0 2 "_law_drawn" ["tape", "many"] spDrawn) (D_law_chain : Dfn P w K mg base CX0 2 "_law_chain" ["tape", "many"] spDrawn) (D_law_walk : Dfn P w K mg base CX0 2 "_law_walk" ["image"] spWalk)
    (D_forests : Dfn P w K mg base CX0 8 "forests" ["image", "types"] (spForests C_Types)) (D_unreached : Dfn P w K mg base CX0 9 "unreached" ["image", "types"] (spUnr C_Types)) : FnOk P w K mg base CX0 10 f fd ["script"] (spLaw K) := by
  refine F.ok sc_law (fun vs H Q E h => ?_) (fun cdv A outer s H vs Q E hr h => ?_)
  · obtain ⟨a, ns, rfl, _⟩ := h
    rfl
  · obtain ⟨a, ns, rfl, hS, k⟩ := h
    refine ⟨_, (pss_cons (ps_set (i := 1) sc_law.nd rfl (Or.inl rfl) (pe_lst (pa_cons (pe_callTy (kListOf K) (by rfl) T.b_list (by decide +kernel) (pa_cons (pv 0) pa_nil)) (pa_cons pe_int (pa_cons pe_int (pa_cons pe_int pa_nil))))))
  (pss_cons (ps_set (i := 2) sc_law.nd rfl (Or.inl rfl) (pe_op op_add pe_int (pe_dcall D_law_next (hr.mono (by decide)) (by rfl) pass0 (pa_cons (pv 1) (pa_cons pe_int pa_nil)))))
  (pss_cons (ps_set (i := 3) sc_law.nd rfl (Or.inl rfl) (pe_dcall D_law_types (hr.mono (by decide)) (by rfl) pass0 (pa_cons (pv 2) pa_nil)))
  (pss_cons (ps_for PassesOwn.never (by rfl) (pi_range1 (by rfl) T.b_range (pa_cons pe_int pa_nil)) (pg_name (i := 4) sc_law.nd rfl (Or.inl rfl)) (pss_cons (ps_set (i := 5) sc_law.nd rfl (Or.inl rfl) (pe_dcall D_law_drawn (hr.mono (by decide)) (by rfl) pass0 (pa_cons (pv 1) (pa_cons (pv 2) pa_nil))))
  (C8.pss_cut (ps_if (pt_cmpR op_eq (pe_dcall D_law_next (hr.mono (by decide)) (by rfl) pass0 (pa_cons (pv 1) (pa_cons pe_int pa_nil))) pe_int (nomark _)) (pss_one (ps_set (i := 5) sc_law.nd rfl (Or.inl rfl) (pe_dcall D_law_chain (hr.mono (by decide)) (by rfl) pass0 (pa_cons (pv 1) (pa_cons (pv 2) pa_nil))))) pss_nil)
  (pss_cons (ps_set (i := 6) sc_law.nd rfl (Or.inl rfl) (pe_callTy (kListOf K) (by rfl) T.b_list (by decide +kernel) (pa_cons (pv 5) pa_nil)))
  (pss_cons (ps_set (i := 7) sc_law.nd rfl (Or.inl rfl) (pe_dcall D_law_walk (hr.mono (by decide)) (by rfl) pass0 (pa_cons (pv 5) pa_nil)))
  (pss_cons (ps_if (PW.pt (pw_or (pt_cmpR (kNeF K (units71 hr)) (pe_dcall D_forests (hr.mono (by decide)) (by rfl) pass0 (pa_cons (pv 5) (pa_cons (pv 3) pa_nil))) (pv 7) (nomark _)) (pw_or1 (pt_cmpR (kNeF K (units71 hr)) (pv 5) (pv 6) (nomark _))))) (pss_one (ps_ret pe_bl)) pss_nil)
  (pss_one (ps_if (pt_cmpR op_eq (pe_ix (kIxT K) (pv 7) pe_int (fun _ _ => rfl)) pe_str (nomark _)) (pss_cons (ps_set (i := 8) sc_law.nd rfl (Or.inr rfl) (pe_lst pa_nil))
  (pss_cons (ps_for PassesOwn.never (by rfl) (kpiL K (pe_ix (kIxT K) (pv 7) pe_int (fun _ _ => rfl))) (pg_name (i := 9) sc_law.nd rfl (Or.inl rfl)) (pss_one (ps_set (i := 8) sc_law.nd rfl (Or.inr rfl) (pe_op op_cat (pv 8) (pe_callTy (call_list_dK (by rfl)) (by rfl) T.b_list (by decide +kernel) (pa_cons (pv 9) pa_nil))))))
  (pss_one (ps_if (pt_cmpR (kNeF K (units71 hr)) (pe_dcall D_unreached (hr.mono (by decide)) (by rfl) pass0 (pa_cons (pv 5) (pa_cons (pv 3) pa_nil))) (pe_lc (own := [("block", 10)]) (by rfl) sc_law.nd (pi_range2 (by rfl) T.b_range (pa_cons pe_int (pa_cons (pv 2) pa_nil))) (blkOk_by (N := ns_law) (sc := defScope s_law) (by decide +kernel)) (fun _ _ _ _ _ => (pg_name (i := 10) sc_law.nd rfl (Or.inl rfl))) (fun _ _ _ _ _ => (pts_one (pt_cmpR (kNotIn K) (pv 10) (pv 8) (by rfl)))) (fun _ _ _ _ _ => (pv 10))) (nomark _)) (pss_one (ps_ret pe_bl)) pss_nil)))) pss_nil))))))))
  (pss_one (ps_ret pe_bl)))))), ?_⟩
    refine ⟨_, rfl, _, _, rfl, .inl hS, fun p hp => ⟨szl rfl, fun tp htp => ?_⟩⟩
    have T0 : Tape (upd (upd H p (.lst (ns.map V.int))) tp (.lst [.ref p, .int 0, .int 0, .int 19])) tp p :=
      ⟨ns, 0, 0, 19, upd_same, Same.new htp _ _ upd_same, by decide, by decide, by decide, by decide⟩
    generalize upd (upd H p (.lst (ns.map V.int))) tp (.lst [.ref p, .int 0, .int 0, .int 19]) = G0 at T0
    walk_at "run"
    refine ⟨tp, p, 17, rfl, by decide, by decide, T0, fun b0 H1 b00 b01 t1 c1 => ?_⟩
    obtain ⟨b', rfl⟩ := Int.eq_ofNat_of_zero_le b00
    walk_at "run"
    refine fun x L R rs H2 ty2 s2 => ?_
    have t2 := t1.same s2
    have m40 : 24 + b' ≤ 40 := by omega
    have m24 : 24 ≤ 24 + b' := by omega
    walk_at "run"
    refine ⟨by decide, by decide, ?_⟩
    show ∃ W : Nat → Nat → L2.St → Hp → Prop, _
    refine for_range (fun i σ H1 => ∃ (o4 o5 o6 o7 o8 o9 : Option V), σ = [some (.ref a), some (.ref tp), some (.int ((24 + b' : Nat) : Int)), some (.ref x), o4, o5, o6, o7, o8, o9, none] ∧ Tape H1 tp p ∧ Ty C_Types H1 x L R (24 + b') PS rs) ?_ ?_ ?_
    · exact ⟨_, _, _, _, _, _, rfl, t2, ty2⟩
    · rintro i σ H3 hi ⟨o4, o5, o6, o7, o8, o9, rfl, t3, ty3⟩
      walk_at "run"
      refine ⟨tp, p, 24 + b', rfl, m24, m40, t3, fun I is H4 il him t4 c4 => ?_⟩
      have ty4 := ty3.nextT (by decide) t3 c4
      walk_at "run"
      refine ⟨fun σ H' => ∃ (I : Addr) (is : List (List Nat)), σ = [some (.ref a), some (.ref tp), some (.int ((24 + b' : Nat) : Int)), some (.ref x), some (.int (0 + (i : Int))), some (.ref I), o6, o7, o8, o9, none] ∧ is.length = 24 + b' ∧ ImgAt H' I is ∧ Tape H' tp p ∧ Ty C_Types H' x L R (24 + b') PS rs, ?_, ?_⟩
      · walk_at "run"
        refine ⟨tp, p, 2, rfl, by decide, by decide, t4, fun z H5 z0 z1 t5 c5 => ?_⟩
        have ty5 := ty4.nextT (by decide) t4 c5
        have him5 := him.nextT (by omega) t4 c5
        walk_at "run"
        refine iteD (fun e => ?_) (fun e => ?_)
        · walk_at "run"
          refine ⟨tp, p, 24 + b', rfl, m24, m40, t5, fun I is H6 il him t6 c6 => ?_⟩
          exact ⟨I, is, rfl, il, him, t6, ty5.nextT (by decide) t5 c6⟩
        · exact ⟨I, is, rfl, il, him5, t5, ty5⟩
      · rintro σ H5 ⟨I, is, rfl, il, him, t5, ty5⟩
        rw [← il] at ty5
        obtain ⟨⟨ivs, hi1, hi2⟩, h8, h40⟩ := id him
        walk_at "run"
        refine fun kp hkp => ?_
        have sk := Same.new (o := .lst ivs) hkp
        have hkk : upd H5 kp (.lst ivs) kp = some (.lst ivs) := upd_same
        have him := him.same sk
        have hi1 := sk _ _ hi1
        have hi2 := hi2.same sk
        have t6 := t5.same sk
        have ty6 := ty5.same sk
        generalize upd H5 kp (.lst ivs) = H6 at hkk him hi1 hi2 t6 ty6
        have shi := sh_img is
        walk_at "run"
        refine ⟨I, is, rfl, him, by omega, fun w b t H7 s7 hw ht => ?_, fun rss t Ld ds H7 s7 hw fo _ ht => ?_⟩
        · have hww := goE_word _ _ _ hw
          walk_at "run"
          refine ⟨I, x, L, R, is, rs, rfl, him.same s7, by omega, ty6.same s7, fun w' b' t' H8 s8 hw' ht' => ?_, fun rss' t' Ld' ds' H8 s8 hw' _ _ _ => ?_⟩
          · rw [hw] at hw'
            cases hw'
            have s78 := s7.trans s8
            walk_at "run"
            refine ⟨.inl ⟨.tuple [.str w, .int (b : Int)], (Dt.tup ht' (.cons (.str _) (.cons (.int _) .nil))).dp, (Dt.tup (s8 _ _ ht) (.cons (.str _) (.cons (.int _) .nil))).dp, sh_word hww _⟩, ?_⟩
            refine ⟨_, rfl, ?_⟩
            refine iteF ?_
            have kk8 := s78 _ _ hkk
            have hi18 := s78 _ _ hi1
            have hi28 := hi2.same s78
            walk_at "run"
            refine ⟨.inl ⟨_, (Dt.lst hi18 hi28).dp, (Dt.lst kk8 hi28).dp, shi⟩, ?_⟩
            refine ⟨_, rfl, ?_⟩
            refine iteF ?_
            have ht8 := s8 _ _ ht
            rw [il] at ty6
            rcases hww with rfl | rfl
            · walk_at "run"
              exact ⟨_, _, _, _, _, _, rfl, t6.same s78, ty6.same s78⟩
            · walk_at "run"
              exact ⟨_, _, _, _, _, _, rfl, t6.same s78, ty6.same s78⟩
          · rw [hw] at hw'
            cases hw'
        · walk_at "run"
          refine ⟨I, x, L, R, is, rs, rfl, him.same s7, by omega, ty6.same s7, fun w' b' t' H8 s8 hw' ht' => ?_, fun rss' t' Ld' ds' H8 s8 hw' fo' _ ht' => ?_⟩
          · rw [hw] at hw'
            cases hw'
          · rw [hw] at hw'
            cases hw'
            have s78 := s7.trans s8
            have fo8 := fo.same s8
            have nds := bls_nd fo.bn
            walk_at "run"
            refine ⟨.inr ⟨t', t, "ok", .ref Ld', .ref Ld, rfl, rfl, SqT.of ht', SqT.of (s8 _ _ ht), .inl ⟨Ld', Ld, _, _, rfl, rfl, SqL.of fo'.l, SqL.of fo8.l, fds_eq fo'.f fo8.f nds⟩⟩, ?_⟩
            refine ⟨_, rfl, ?_⟩
            refine iteF ?_
            have kk8 := s78 _ _ hkk
            have hi18 := s78 _ _ hi1
            have hi28 := hi2.same s78
            walk_at "run"
            refine ⟨.inl ⟨_, (Dt.lst hi18 hi28).dp, (Dt.lst kk8 hi28).dp, shi⟩, ?_⟩
            refine ⟨_, rfl, ?_⟩
            refine iteF ?_
            have ht8 := s8 _ _ ht
            have t8 := t6.same s78
            have ty8 := ty6.same s78
            have him8 := him.same s78
            walk_at "run"
            refine iteT ?_
            walk_at "run"
            refine ⟨szl rfl, fun r0 hr0 => ?_⟩
            have s9 := Same.new (o := .lst []) hr0
            have hr9 : upd H8 r0 (.lst []) r0 = some (.lst (([] : List Nat).map vN)) := upd_same
            generalize upd H8 r0 (.lst []) = H9 at s9 hr9
            have hfl := fo8.f
            have b40 : (blss rss).length ≤ 40 := by
              have q := pigeon is.length _ fo.bn fo.bl
              omega
            have dl : ds.length = rss.length := hfl.1
            refine ⟨_, rfl, _, _, _, _, rfl, rfl, SqT.of (s9 _ _ ht8), atC 1 rfl rfl, ?_⟩
            refine ⟨Ld, rfl, ⟨_, SqL.of (s9 _ _ fo8.l)⟩, for_list (xs := ds.map V.ref) (fun j σ Hx => ∃ (v9 : Option V) (r : Addr), σ = [some (.ref a), some (.ref tp), some (.int ((24 + b' : Nat) : Int)), some (.ref x), some (.int (0 + (i : Int))), some (.ref I), some (.ref kp), some (.ref t), some (.ref r), v9, none] ∧ Hx r = some (.lst ((blss (rss.take j)).map vN)) ∧ Same H8 Hx) ?_ ?_ ?_ ?_⟩
            · exact ⟨_, r0, rfl, hr9, s9⟩
            · rintro j σ Hx _ ⟨v9, r, _, _, sx⟩
              exact SqL.of (sx _ _ fo8.l)
            · rintro j y σ Hx hy ⟨v9, r, rfl, hrx, sx⟩
              have hj : j < ds.length := by
                have := (List.getElem?_eq_some_iff.mp hy).1
                rw [List.length_map] at this
                exact this
              obtain ⟨d, hd⟩ : ∃ d, ds[j]? = some d := ⟨_, List.getElem?_eq_getElem hj⟩
              obtain ⟨rows, hrw⟩ : ∃ rows, rss[j]? = some rows := ⟨_, List.getElem?_eq_getElem (by omega)⟩
              have ey : y = .ref d := by
                rw [List.getElem?_map, hd] at hy
                exact (Option.some.inj hy).symm
              subst ey
              obtain ⟨vs, hdk, hvs⟩ := hfl.2 j d rows hd hrw
              have vl : vs.length = rows.length := by rw [hvs.len, List.length_map]
              have hdx := sx _ _ hdk
              have sub : (blss (rss.take j) ++ bls rows).length ≤ 40 := by
                have e : blss rss = blss (rss.take (j + 1)) ++ blss (rss.drop (j + 1)) := by
                  conv => lhs; rw [← List.take_append_drop (j + 1) rss]
                  unfold blss
                  rw [List.flatMap_append]
                rw [e, List.length_append] at b40
                rw [← blss_snoc hrw]
                omega
              rw [List.length_append] at sub
              walk_at "run"
              refine ⟨d, _, rfl, hdx, fun q hq => ?_⟩
              rw [ent_keys vl]
              have sq := Same.new (o := .lst ((bls rows).map vN)) hq
              refine ⟨r, q, _, _, rfl, rfl, sq _ _ hrx, upd_same, szn (by rw [List.length_map, List.length_map]; omega), fun r2 hr2 => ?_⟩
              exact ⟨_, r2, rfl, by rw [upd_same, blss_snoc hrw, List.map_append], (sx.trans sq).trans (Same.new hr2)⟩
            · rintro σ Hx ⟨v9, r, rfl, hrx, sx⟩
              rw [List.length_map, dl, List.take_length] at hrx
              walk_at "run"
              refine ⟨I, x, L, R, is, rs, rss, rfl, him8.same sx, by omega, ty8.same sx, hw, fun v Hy sy hv => ?_⟩
              walk_at "run"
              refine ⟨_, _, rfl, ⟨by decide, by decide, by omega, by omega⟩, fun D2 hD2 => ?_⟩
              have en : (((24 + b' : Nat) : Int) - 4).toNat = is.length - 4 := by omega
              have hry := sy _ _ hrx
              refine lc_range (lo := 4) (n := (((24 + b' : Nat) : Int) - 4).toNat) (fun j Hz => Hz D2 = some (.lst ((restT (blss rss) j).map vN)) ∧ Same Hy Hz) ⟨upd_same, Same.new hD2⟩ ?_ ?_
              · rintro j Hz hj ⟨hx1, sz⟩
                have hrz := sz _ _ hry
                have rl := restT_len (blss rss) j
                refine ⟨rfl, ?_⟩
                walk_at "run"
                refine ⟨vN_flat _, _, rfl, ?_⟩
                show if (!inV (.int ((4 + j : Nat) : Int)) ((blss rss).map vN)) = true then _ else _
                rw [inV_nat]
                refine iteDn (fun hno => ?_) (fun hin => ?_)
                · walk_at "run"
                  refine ⟨_, hx1, szt (by rw [List.length_map]; omega), ?_, Same.mut sz hD2⟩
                  rw [upd_same, restT_snoc, if_neg hno, List.map_append]; rfl
                · refine ⟨?_, sz⟩
                  rw [restT_snoc, if_pos hin, List.append_nil]
                  exact hx1
              · rintro Hz ⟨hx1, sz⟩
                rw [en] at hx1
                refine ⟨.inl ⟨iL (restT (blss rss) (is.length - 4)), (hv.same sz).dp, (Dt.lst hx1 ints_mk).dp, sh_iL _⟩, ?_⟩
                refine ⟨_, rfl, ?_⟩
                refine iteF ?_
                have sF := (sx.trans sy).trans sz
                rw [il] at ty8
                exact ⟨_, _, _, _, _, _, rfl, t8.same sF, ty8.same sF⟩
    · rintro σ H3 ⟨o4, o5, o6, o7, o8, o9, rfl, t3, ty3⟩
      walk_at "run"
      exact k H3
end
end My

namespace My
open PySem L2
/-! ### what the top has written, and the end -/
/-- an error of the class at S is what an except of S names -/
theorem exm_self {K : PySem.W.Frag} {S : Addr} (h1 : PySem.W.subIn K (.ref S) (.type "BaseException") = some true) (h2 : PySem.W.isClsIn K S = true) (h3 : PySem.W.typeIn K (.ref S) = some (.type "type")) (h4 : PySem.W.subIn K (.ref S) (.ref S) = some true) : PySem.W.exmOne K (.ref S) (.ref S) = some true := by
  have e1 : (PySem.W.subIn K (.ref S) (.type "BaseException") == some true) = true := by rw [h1] <;> rfl
  have e2 : ((PySem.W.clsIn K S).isSome && PySem.W.typeIn K (.ref S) == some (.type "type")) = true := by
    have h2' : (PySem.W.clsIn K S).isSome = true := h2
    rw [h2', h3] <;> rfl
  unfold PySem.W.exmOne PySem.W.kitCls
  refine (if_pos e1).trans ((if_pos e2).trans ?_)
  exact h4
theorem all_mk {l : PySem.W.OpenLaw} {w : World} {K : PySem.W.Frag} {h : Heap} {mg : Str → Option Value} {fa : Addr} (X : K.In h) (G : h.Ns mainGlobals mg) (hfa : mg "law" = some (.ref fa))
    {C_Types C_NotValid : Addr}
    {f_law_next : Addr} {od_law_next an_law_next : Option Addr} {sl_law_next : Array (Option Value)} {oc_law_next kV_law_next dc_law_next pm_law_next cd_law_next ct_law_next : Value}
    {f_is_at_least : Addr} {od_is_at_least an_is_at_least : Option Addr} {sl_is_at_least : Array (Option Value)} {oc_is_at_least kV_is_at_least dc_is_at_least pm_is_at_least cd_is_at_least ct_is_at_least : Value}
    {f_is_between : Addr} {od_is_between an_is_between : Option Addr} {sl_is_between : Array (Option Value)} {oc_is_between kV_is_between dc_is_between pm_is_between cd_is_between ct_is_between : Value}
    {f_is_index : Addr} {od_is_index an_is_index : Option Addr} {sl_is_index : Array (Option Value)} {oc_is_index kV_is_index dc_is_index pm_is_index cd_is_index ct_is_index : Value}
    {f_is_word : Addr} {od_is_word an_is_word : Option Addr} {sl_is_word : Array (Option Value)} {oc_is_word kV_is_word dc_is_word pm_is_word cd_is_word ct_is_word : Value}
    {f_is_guard : Addr} {od_is_guard an_is_guard : Option Addr} {sl_is_guard : Array (Option Value)} {oc_is_guard kV_is_guard dc_is_guard pm_is_guard cd_is_guard ct_is_guard : Value}
    {f_is_many : Addr} {od_is_many an_is_many : Option Addr} {sl_is_many : Array (Option Value)} {oc_is_many kV_is_many dc_is_many pm_is_many cd_is_many ct_is_many : Value}
    {f_is_kind : Addr} {od_is_kind an_is_kind : Option Addr} {sl_is_kind : Array (Option Value)} {oc_is_kind kV_is_kind dc_is_kind pm_is_kind cd_is_kind ct_is_kind : Value}
    {f_is_clause : Addr} {od_is_clause an_is_clause : Option Addr} {sl_is_clause : Array (Option Value)} {oc_is_clause kV_is_clause dc_is_clause pm_is_clause cd_is_clause ct_is_clause : Value}
    {f_is_program : Addr} {od_is_program an_is_program : Option Addr} {sl_is_program : Array (Option Value)} {oc_is_program kV_is_program dc_is_program pm_is_program cd_is_program ct_is_program : Value}
    {f_let_pass : Addr} {od_let_pass an_let_pass : Option Addr} {sl_let_pass : Array (Option Value)} {oc_let_pass kV_let_pass dc_let_pass pm_let_pass cd_let_pass ct_let_pass : Value}
    {f_told : Addr} {od_told an_told : Option Addr} {sl_told : Array (Option Value)} {oc_told kV_told dc_told pm_told cd_told ct_told : Value}
    {f_can_be_owned : Addr} {od_can_be_owned an_can_be_owned : Option Addr} {sl_can_be_owned : Array (Option Value)} {oc_can_be_owned kV_can_be_owned dc_can_be_owned pm_can_be_owned cd_can_be_owned ct_can_be_owned : Value}
    {f_run_program : Addr} {od_run_program an_run_program : Option Addr} {sl_run_program : Array (Option Value)} {oc_run_program kV_run_program dc_run_program pm_run_program cd_run_program ct_run_program : Value}
    {f_Types_count : Addr} {od_Types_count an_Types_count : Option Addr} {sl_Types_count : Array (Option Value)} {oc_Types_count kV_Types_count dc_Types_count pm_Types_count cd_Types_count ct_Types_count : Value}
    {f_Types_is_known : Addr} {od_Types_is_known an_Types_is_known : Option Addr} {sl_Types_is_known : Array (Option Value)} {oc_Types_is_known kV_Types_is_known dc_Types_is_known pm_Types_is_known cd_Types_is_known ct_Types_is_known : Value}
    {f_Types_owned_by_root : Addr} {od_Types_owned_by_root an_Types_owned_by_root : Option Addr} {sl_Types_owned_by_root : Array (Option Value)} {oc_Types_owned_by_root kV_Types_owned_by_root dc_Types_owned_by_root pm_Types_owned_by_root cd_Types_owned_by_root ct_Types_owned_by_root : Value}
    {f_Types_owned : Addr} {od_Types_owned an_Types_owned : Option Addr} {sl_Types_owned : Array (Option Value)} {oc_Types_owned kV_Types_owned dc_Types_owned pm_Types_owned cd_Types_owned ct_Types_owned : Value}
    {f_Types_init : Addr} {od_Types_init an_Types_init : Option Addr} {sl_Types_init : Array (Option Value)} {oc_Types_init kV_Types_init dc_Types_init pm_Types_init cd_Types_init ct_Types_init : Value}
    {f_is_environment : Addr} {od_is_environment an_is_environment : Option Addr} {sl_is_environment : Array (Option Value)} {oc_is_environment kV_is_environment dc_is_environment pm_is_environment cd_is_environment ct_is_environment : Value}
    {f_Types_add : Addr} {od_Types_add an_Types_add : Option Addr} {sl_Types_add : Array (Option Value)} {oc_Types_add kV_Types_add dc_Types_add pm_Types_add cd_Types_add ct_Types_add : Value}
    {f_grown : Addr} {od_grown an_grown : Option Addr} {sl_grown : Array (Option Value)} {oc_grown kV_grown dc_grown pm_grown cd_grown ct_grown : Value}
    {f_law_owns : Addr} {od_law_owns an_law_owns : Option Addr} {sl_law_owns : Array (Option Value)} {oc_law_owns kV_law_owns dc_law_owns pm_law_owns cd_law_owns ct_law_owns : Value}
    {f_forests : Addr} {od_forests an_forests : Option Addr} {sl_forests : Array (Option Value)} {oc_forests kV_forests dc_forests pm_forests cd_forests ct_forests : Value}
    {f_law_walk : Addr} {od_law_walk an_law_walk : Option Addr} {sl_law_walk : Array (Option Value)} {oc_law_walk kV_law_walk dc_law_walk pm_law_walk cd_law_walk ct_law_walk : Value}
    {f_unreached : Addr} {od_unreached an_unreached : Option Addr} {sl_unreached : Array (Option Value)} {oc_unreached kV_unreached dc_unreached pm_unreached cd_unreached ct_unreached : Value}
    {f_law_types : Addr} {od_law_types an_law_types : Option Addr} {sl_law_types : Array (Option Value)} {oc_law_types kV_law_types dc_law_types pm_law_types cd_law_types ct_law_types : Value}
    {f_law_drawn : Addr} {od_law_drawn an_law_drawn : Option Addr} {sl_law_drawn : Array (Option Value)} {oc_law_drawn kV_law_drawn dc_law_drawn pm_law_drawn cd_law_drawn ct_law_drawn : Value}
    {f_law_chain : Addr} {od_law_chain an_law_chain : Option Addr} {sl_law_chain : Array (Option Value)} {oc_law_chain kV_law_chain dc_law_chain pm_law_chain cd_law_chain ct_law_chain : Value}
    {f_law : Addr} {od_law an_law : Option Addr} {sl_law : Array (Option Value)} {oc_law kV_law dc_law pm_law cd_law ct_law : Value}
    {t_DATA : Tok}
    {t_ENVIRONMENTS : Tok}
    {t_MOST_TYPES : Tok}
    {t_ROOT : Tok}
    {t_ROOT_BLOCKS : Tok}
    {t_TOP : Tok}
    {t_WORDS : Tok}
    {t__FIRST_OF_PROGRAMS : Tok}
    {t__MOST_CLAUSES : Tok}
    {t__MOST_GUARDS : Tok}
    (a_Types : PySem.W.nsIn K mainGlobals "Types" = some (some (.ref C_Types)))
    (g1_Types : PySem.W.plainGet K C_Types Str.empty = true)
    (g2_Types : PySem.W.hasDictIn K C_Types = true)
    (g3_Types : PySem.W.plainOver K C_Types = true)
    (g4_Types : PySem.W.findIn K (.ref C_Types) "__setattr__" = some (some (.builtin "object.__setattr__")))
    (m_Types : PySem.W.makesIn K C_Types = true)
    (k_Types : PySem.W.keepIn K (.ref C_Types) = true)
    (n_Types__blocks : PySem.W.findIn K (.ref C_Types) "_blocks" = some none)
    (n_Types__programs : PySem.W.findIn K (.ref C_Types) "_programs" = some none)
    (n_Types__registered : PySem.W.findIn K (.ref C_Types) "_registered" = some none)
    (a_NotValid : PySem.W.nsIn K mainGlobals "NotValid" = some (some (.ref C_NotValid)))
    (k_NotValid : PySem.W.keepIn K (.ref C_NotValid) = true)
    (x_NotValid : PySem.W.excIn K C_NotValid [.type "ValueError", .type "Exception", .type "BaseException", .type "object"] "ValueError.__new__" = true)
    (e1_NotValid : PySem.W.subIn K (.ref C_NotValid) (.type "BaseException") = some true)
    (e2_NotValid : PySem.W.isClsIn K C_NotValid = true)
    (e3_NotValid : PySem.W.typeIn K (.ref C_NotValid) = some (.type "type"))
    (e4_NotValid : PySem.W.subIn K (.ref C_NotValid) (.ref C_NotValid) = some true)
    (a_law_next : PySem.W.nsIn K mainGlobals "_law_next" = some (some (.ref f_law_next)))
    (l_law_next : K.lookup f_law_next = some ⟨oc_law_next, od_law_next, .func (PySem.W.fnOf "_law_next" "_law_next" (defArgs s_law_next) (defBody s_law_next) (defScope s_law_next) .none kV_law_next dc_law_next pm_law_next an_law_next cd_law_next ct_law_next), sl_law_next⟩)
    (q_law_next : PySem.W.codeIn K cd_law_next "_law_next" = true)
    (k_law_next : PySem.W.keepIn K (.ref f_law_next) = true)
    (a_is_at_least : PySem.W.nsIn K mainGlobals "is_at_least" = some (some (.ref f_is_at_least)))
    (l_is_at_least : K.lookup f_is_at_least = some ⟨oc_is_at_least, od_is_at_least, .func (PySem.W.fnOf "is_at_least" "is_at_least" (defArgs s_is_at_least) (defBody s_is_at_least) (defScope s_is_at_least) .none kV_is_at_least dc_is_at_least pm_is_at_least an_is_at_least cd_is_at_least ct_is_at_least), sl_is_at_least⟩)
    (q_is_at_least : PySem.W.codeIn K cd_is_at_least "is_at_least" = true)
    (k_is_at_least : PySem.W.keepIn K (.ref f_is_at_least) = true)
    (a_is_between : PySem.W.nsIn K mainGlobals "is_between" = some (some (.ref f_is_between)))
    (l_is_between : K.lookup f_is_between = some ⟨oc_is_between, od_is_between, .func (PySem.W.fnOf "is_between" "is_between" (defArgs s_is_between) (defBody s_is_between) (defScope s_is_between) .none kV_is_between dc_is_between pm_is_between an_is_between cd_is_between ct_is_between), sl_is_between⟩)
    (q_is_between : PySem.W.codeIn K cd_is_between "is_between" = true)
    (k_is_between : PySem.W.keepIn K (.ref f_is_between) = true)
    (a_is_index : PySem.W.nsIn K mainGlobals "is_index" = some (some (.ref f_is_index)))
    (l_is_index : K.lookup f_is_index = some ⟨oc_is_index, od_is_index, .func (PySem.W.fnOf "is_index" "is_index" (defArgs s_is_index) (defBody s_is_index) (defScope s_is_index) .none kV_is_index dc_is_index pm_is_index an_is_index cd_is_index ct_is_index), sl_is_index⟩)
    (q_is_index : PySem.W.codeIn K cd_is_index "is_index" = true)
    (k_is_index : PySem.W.keepIn K (.ref f_is_index) = true)
    (a_is_word : PySem.W.nsIn K mainGlobals "is_word" = some (some (.ref f_is_word)))
    (l_is_word : K.lookup f_is_word = some ⟨oc_is_word, od_is_word, .func (PySem.W.fnOf "is_word" "is_word" (defArgs s_is_word) (defBody s_is_word) (defScope s_is_word) .none kV_is_word dc_is_word pm_is_word an_is_word cd_is_word ct_is_word), sl_is_word⟩)
    (q_is_word : PySem.W.codeIn K cd_is_word "is_word" = true)
    (k_is_word : PySem.W.keepIn K (.ref f_is_word) = true)
    (a_is_guard : PySem.W.nsIn K mainGlobals "_is_guard" = some (some (.ref f_is_guard)))
    (l_is_guard : K.lookup f_is_guard = some ⟨oc_is_guard, od_is_guard, .func (PySem.W.fnOf "_is_guard" "_is_guard" (defArgs s_is_guard) (defBody s_is_guard) (defScope s_is_guard) .none kV_is_guard dc_is_guard pm_is_guard an_is_guard cd_is_guard ct_is_guard), sl_is_guard⟩)
    (q_is_guard : PySem.W.codeIn K cd_is_guard "_is_guard" = true)
    (k_is_guard : PySem.W.keepIn K (.ref f_is_guard) = true)
    (a_is_many : PySem.W.nsIn K mainGlobals "_is_many" = some (some (.ref f_is_many)))
    (l_is_many : K.lookup f_is_many = some ⟨oc_is_many, od_is_many, .func (PySem.W.fnOf "_is_many" "_is_many" (defArgs s_is_many) (defBody s_is_many) (defScope s_is_many) .none kV_is_many dc_is_many pm_is_many an_is_many cd_is_many ct_is_many), sl_is_many⟩)
    (q_is_many : PySem.W.codeIn K cd_is_many "_is_many" = true)
    (k_is_many : PySem.W.keepIn K (.ref f_is_many) = true)
    (a_is_kind : PySem.W.nsIn K mainGlobals "_is_kind" = some (some (.ref f_is_kind)))
    (l_is_kind : K.lookup f_is_kind = some ⟨oc_is_kind, od_is_kind, .func (PySem.W.fnOf "_is_kind" "_is_kind" (defArgs s_is_kind) (defBody s_is_kind) (defScope s_is_kind) .none kV_is_kind dc_is_kind pm_is_kind an_is_kind cd_is_kind ct_is_kind), sl_is_kind⟩)
    (q_is_kind : PySem.W.codeIn K cd_is_kind "_is_kind" = true)
    (k_is_kind : PySem.W.keepIn K (.ref f_is_kind) = true)
    (a_is_clause : PySem.W.nsIn K mainGlobals "_is_clause" = some (some (.ref f_is_clause)))
    (l_is_clause : K.lookup f_is_clause = some ⟨oc_is_clause, od_is_clause, .func (PySem.W.fnOf "_is_clause" "_is_clause" (defArgs s_is_clause) (defBody s_is_clause) (defScope s_is_clause) .none kV_is_clause dc_is_clause pm_is_clause an_is_clause cd_is_clause ct_is_clause), sl_is_clause⟩)
    (q_is_clause : PySem.W.codeIn K cd_is_clause "_is_clause" = true)
    (k_is_clause : PySem.W.keepIn K (.ref f_is_clause) = true)
    (a_is_program : PySem.W.nsIn K mainGlobals "is_program" = some (some (.ref f_is_program)))
    (l_is_program : K.lookup f_is_program = some ⟨oc_is_program, od_is_program, .func (PySem.W.fnOf "is_program" "is_program" (defArgs s_is_program) (defBody s_is_program) (defScope s_is_program) .none kV_is_program dc_is_program pm_is_program an_is_program cd_is_program ct_is_program), sl_is_program⟩)
    (q_is_program : PySem.W.codeIn K cd_is_program "is_program" = true)
    (k_is_program : PySem.W.keepIn K (.ref f_is_program) = true)
    (a_let_pass : PySem.W.nsIn K mainGlobals "_let_pass" = some (some (.ref f_let_pass)))
    (l_let_pass : K.lookup f_let_pass = some ⟨oc_let_pass, od_let_pass, .func (PySem.W.fnOf "_let_pass" "_let_pass" (defArgs s_let_pass) (defBody s_let_pass) (defScope s_let_pass) .none kV_let_pass dc_let_pass pm_let_pass an_let_pass cd_let_pass ct_let_pass), sl_let_pass⟩)
    (q_let_pass : PySem.W.codeIn K cd_let_pass "_let_pass" = true)
    (k_let_pass : PySem.W.keepIn K (.ref f_let_pass) = true)
    (a_told : PySem.W.nsIn K mainGlobals "_told" = some (some (.ref f_told)))
    (l_told : K.lookup f_told = some ⟨oc_told, od_told, .func (PySem.W.fnOf "_told" "_told" (defArgs s_told) (defBody s_told) (defScope s_told) .none kV_told dc_told pm_told an_told cd_told ct_told), sl_told⟩)
    (q_told : PySem.W.codeIn K cd_told "_told" = true)
    (k_told : PySem.W.keepIn K (.ref f_told) = true)
    (a_can_be_owned : PySem.W.nsIn K mainGlobals "_can_be_owned" = some (some (.ref f_can_be_owned)))
    (l_can_be_owned : K.lookup f_can_be_owned = some ⟨oc_can_be_owned, od_can_be_owned, .func (PySem.W.fnOf "_can_be_owned" "_can_be_owned" (defArgs s_can_be_owned) (defBody s_can_be_owned) (defScope s_can_be_owned) .none kV_can_be_owned dc_can_be_owned pm_can_be_owned an_can_be_owned cd_can_be_owned ct_can_be_owned), sl_can_be_owned⟩)
    (q_can_be_owned : PySem.W.codeIn K cd_can_be_owned "_can_be_owned" = true)
    (k_can_be_owned : PySem.W.keepIn K (.ref f_can_be_owned) = true)
    (a_run_program : PySem.W.nsIn K mainGlobals "run_program" = some (some (.ref f_run_program)))
    (l_run_program : K.lookup f_run_program = some ⟨oc_run_program, od_run_program, .func (PySem.W.fnOf "run_program" "run_program" (defArgs s_run_program) (defBody s_run_program) (defScope s_run_program) .none kV_run_program dc_run_program pm_run_program an_run_program cd_run_program ct_run_program), sl_run_program⟩)
    (q_run_program : PySem.W.codeIn K cd_run_program "run_program" = true)
    (k_run_program : PySem.W.keepIn K (.ref f_run_program) = true)
    (a_Types_count : PySem.W.findIn K (.ref C_Types) "count" = some (some (.ref f_Types_count)))
    (i_Types_count : PySem.W.isFn K (.ref f_Types_count) = true)
    (l_Types_count : K.lookup f_Types_count = some ⟨oc_Types_count, od_Types_count, .func (PySem.W.fnOf "count" "Types.count" (defArgs s_Types_count) (defBody s_Types_count) (defScope s_Types_count) .none kV_Types_count dc_Types_count pm_Types_count an_Types_count cd_Types_count ct_Types_count), sl_Types_count⟩)
    (q_Types_count : PySem.W.codeIn K cd_Types_count "Types.count" = true)
    (k_Types_count : PySem.W.keepIn K (.ref f_Types_count) = true)
    (a_Types_is_known : PySem.W.findIn K (.ref C_Types) "is_known" = some (some (.ref f_Types_is_known)))
    (i_Types_is_known : PySem.W.isFn K (.ref f_Types_is_known) = true)
    (l_Types_is_known : K.lookup f_Types_is_known = some ⟨oc_Types_is_known, od_Types_is_known, .func (PySem.W.fnOf "is_known" "Types.is_known" (defArgs s_Types_is_known) (defBody s_Types_is_known) (defScope s_Types_is_known) .none kV_Types_is_known dc_Types_is_known pm_Types_is_known an_Types_is_known cd_Types_is_known ct_Types_is_known), sl_Types_is_known⟩)
    (q_Types_is_known : PySem.W.codeIn K cd_Types_is_known "Types.is_known" = true)
    (k_Types_is_known : PySem.W.keepIn K (.ref f_Types_is_known) = true)
    (a_Types_owned_by_root : PySem.W.findIn K (.ref C_Types) "_owned_by_root" = some (some (.ref f_Types_owned_by_root)))
    (i_Types_owned_by_root : PySem.W.isFn K (.ref f_Types_owned_by_root) = true)
    (l_Types_owned_by_root : K.lookup f_Types_owned_by_root = some ⟨oc_Types_owned_by_root, od_Types_owned_by_root, .func (PySem.W.fnOf "_owned_by_root" "Types._owned_by_root" (defArgs s_Types_owned_by_root) (defBody s_Types_owned_by_root) (defScope s_Types_owned_by_root) .none kV_Types_owned_by_root dc_Types_owned_by_root pm_Types_owned_by_root an_Types_owned_by_root cd_Types_owned_by_root ct_Types_owned_by_root), sl_Types_owned_by_root⟩)
    (q_Types_owned_by_root : PySem.W.codeIn K cd_Types_owned_by_root "Types._owned_by_root" = true)
    (k_Types_owned_by_root : PySem.W.keepIn K (.ref f_Types_owned_by_root) = true)
    (a_Types_owned : PySem.W.findIn K (.ref C_Types) "owned" = some (some (.ref f_Types_owned)))
    (i_Types_owned : PySem.W.isFn K (.ref f_Types_owned) = true)
    (l_Types_owned : K.lookup f_Types_owned = some ⟨oc_Types_owned, od_Types_owned, .func (PySem.W.fnOf "owned" "Types.owned" (defArgs s_Types_owned) (defBody s_Types_owned) (defScope s_Types_owned) .none kV_Types_owned dc_Types_owned pm_Types_owned an_Types_owned cd_Types_owned ct_Types_owned), sl_Types_owned⟩)
    (q_Types_owned : PySem.W.codeIn K cd_Types_owned "Types.owned" = true)
    (k_Types_owned : PySem.W.keepIn K (.ref f_Types_owned) = true)
    (a_Types_init : PySem.W.findIn K (.ref C_Types) "__init__" = some (some (.ref f_Types_init)))
    (i_Types_init : PySem.W.isFn K (.ref f_Types_init) = true)
    (l_Types_init : K.lookup f_Types_init = some ⟨oc_Types_init, od_Types_init, .func (PySem.W.fnOf "__init__" "Types.__init__" (defArgs s_Types_init) (defBody s_Types_init) (defScope s_Types_init) .none kV_Types_init dc_Types_init pm_Types_init an_Types_init cd_Types_init ct_Types_init), sl_Types_init⟩)
    (q_Types_init : PySem.W.codeIn K cd_Types_init "Types.__init__" = true)
    (k_Types_init : PySem.W.keepIn K (.ref f_Types_init) = true)
    (a_is_environment : PySem.W.nsIn K mainGlobals "is_environment" = some (some (.ref f_is_environment)))
    (l_is_environment : K.lookup f_is_environment = some ⟨oc_is_environment, od_is_environment, .func (PySem.W.fnOf "is_environment" "is_environment" (defArgs s_is_environment) (defBody s_is_environment) (defScope s_is_environment) .none kV_is_environment dc_is_environment pm_is_environment an_is_environment cd_is_environment ct_is_environment), sl_is_environment⟩)
    (q_is_environment : PySem.W.codeIn K cd_is_environment "is_environment" = true)
    (k_is_environment : PySem.W.keepIn K (.ref f_is_environment) = true)
    (a_Types_add : PySem.W.findIn K (.ref C_Types) "add" = some (some (.ref f_Types_add)))
    (i_Types_add : PySem.W.isFn K (.ref f_Types_add) = true)
    (l_Types_add : K.lookup f_Types_add = some ⟨oc_Types_add, od_Types_add, .func (PySem.W.fnOf "add" "Types.add" (defArgs s_Types_add) (defBody s_Types_add) (defScope s_Types_add) .none kV_Types_add dc_Types_add pm_Types_add an_Types_add cd_Types_add ct_Types_add), sl_Types_add⟩)
    (q_Types_add : PySem.W.codeIn K cd_Types_add "Types.add" = true)
    (k_Types_add : PySem.W.keepIn K (.ref f_Types_add) = true)
    (a_grown : PySem.W.nsIn K mainGlobals "grown" = some (some (.ref f_grown)))
    (l_grown : K.lookup f_grown = some ⟨oc_grown, od_grown, .func (PySem.W.fnOf "grown" "grown" (defArgs s_grown) (defBody s_grown) (defScope s_grown) .none kV_grown dc_grown pm_grown an_grown cd_grown ct_grown), sl_grown⟩)
    (q_grown : PySem.W.codeIn K cd_grown "grown" = true)
    (k_grown : PySem.W.keepIn K (.ref f_grown) = true)
    (a_law_owns : PySem.W.nsIn K mainGlobals "_law_owns" = some (some (.ref f_law_owns)))
    (l_law_owns : K.lookup f_law_owns = some ⟨oc_law_owns, od_law_owns, .func (PySem.W.fnOf "_law_owns" "_law_owns" (defArgs s_law_owns) (defBody s_law_owns) (defScope s_law_owns) .none kV_law_owns dc_law_owns pm_law_owns an_law_owns cd_law_owns ct_law_owns), sl_law_owns⟩)
    (q_law_owns : PySem.W.codeIn K cd_law_owns "_law_owns" = true)
    (k_law_owns : PySem.W.keepIn K (.ref f_law_owns) = true)
    (a_forests : PySem.W.nsIn K mainGlobals "forests" = some (some (.ref f_forests)))
    (l_forests : K.lookup f_forests = some ⟨oc_forests, od_forests, .func (PySem.W.fnOf "forests" "forests" (defArgs s_forests) (defBody s_forests) (defScope s_forests) .none kV_forests dc_forests pm_forests an_forests cd_forests ct_forests), sl_forests⟩)
    (q_forests : PySem.W.codeIn K cd_forests "forests" = true)
    (k_forests : PySem.W.keepIn K (.ref f_forests) = true)
    (a_law_walk : PySem.W.nsIn K mainGlobals "_law_walk" = some (some (.ref f_law_walk)))
    (l_law_walk : K.lookup f_law_walk = some ⟨oc_law_walk, od_law_walk, .func (PySem.W.fnOf "_law_walk" "_law_walk" (defArgs s_law_walk) (defBody s_law_walk) (defScope s_law_walk) .none kV_law_walk dc_law_walk pm_law_walk an_law_walk cd_law_walk ct_law_walk), sl_law_walk⟩)
    (q_law_walk : PySem.W.codeIn K cd_law_walk "_law_walk" = true)
    (k_law_walk : PySem.W.keepIn K (.ref f_law_walk) = true)
    (a_unreached : PySem.W.nsIn K mainGlobals "unreached" = some (some (.ref f_unreached)))
    (l_unreached : K.lookup f_unreached = some ⟨oc_unreached, od_unreached, .func (PySem.W.fnOf "unreached" "unreached" (defArgs s_unreached) (defBody s_unreached) (defScope s_unreached) .none kV_unreached dc_unreached pm_unreached an_unreached cd_unreached ct_unreached), sl_unreached⟩)
    (q_unreached : PySem.W.codeIn K cd_unreached "unreached" = true)
    (k_unreached : PySem.W.keepIn K (.ref f_unreached) = true)
    (a_law_types : PySem.W.nsIn K mainGlobals "_law_types" = some (some (.ref f_law_types)))
    (l_law_types : K.lookup f_law_types = some ⟨oc_law_types, od_law_types, .func (PySem.W.fnOf "_law_types" "_law_types" (defArgs s_law_types) (defBody s_law_types) (defScope s_law_types) .none kV_law_types dc_law_types pm_law_types an_law_types cd_law_types ct_law_types), sl_law_types⟩)
    (q_law_types : PySem.W.codeIn K cd_law_types "_law_types" = true)
    (k_law_types : PySem.W.keepIn K (.ref f_law_types) = true)
    (a_law_drawn : PySem.W.nsIn K mainGlobals "_law_drawn" = some (some (.ref f_law_drawn)))
    (l_law_drawn : K.lookup f_law_drawn = some ⟨oc_law_drawn, od_law_drawn, .func (PySem.W.fnOf "_law_drawn" "_law_drawn" (defArgs s_law_drawn) (defBody s_law_drawn) (defScope s_law_drawn) .none kV_law_drawn dc_law_drawn pm_law_drawn an_law_drawn cd_law_drawn ct_law_drawn), sl_law_drawn⟩)
    (q_law_drawn : PySem.W.codeIn K cd_law_drawn "_law_drawn" = true)
    (k_law_drawn : PySem.W.keepIn K (.ref f_law_drawn) = true)
    (a_law_chain : PySem.W.nsIn K mainGlobals "_law_chain" = some (some (.ref f_law_chain)))
    (l_law_chain : K.lookup f_law_chain = some ⟨oc_law_chain, od_law_chain, .func (PySem.W.fnOf "_law_chain" "_law_chain" (defArgs s_law_chain) (defBody s_law_chain) (defScope s_law_chain) .none kV_law_chain dc_law_chain pm_law_chain an_law_chain cd_law_chain ct_law_chain), sl_law_chain⟩)
    (q_law_chain : PySem.W.codeIn K cd_law_chain "_law_chain" = true)
    (k_law_chain : PySem.W.keepIn K (.ref f_law_chain) = true)
    (a_law : PySem.W.nsIn K mainGlobals "law" = some (some (.ref f_law)))
    (l_law : K.lookup f_law = some ⟨oc_law, od_law, .func (PySem.W.fnOf "law" "law" (defArgs s_law) (defBody s_law) (defScope s_law) .none kV_law dc_law pm_law an_law cd_law ct_law), sl_law⟩)
    (q_law : PySem.W.codeIn K cd_law "law" = true)
    (k_law : PySem.W.keepIn K (.ref f_law) = true)
    (z_abs : PySem.W.nsIn K mainGlobals "abs" = some none)
    (z_all : PySem.W.nsIn K mainGlobals "all" = some none)
    (z_bool : PySem.W.nsIn K mainGlobals "bool" = some none)
    (z_int : PySem.W.nsIn K mainGlobals "int" = some none)
    (z_isinstance : PySem.W.nsIn K mainGlobals "isinstance" = some none)
    (z_len : PySem.W.nsIn K mainGlobals "len" = some none)
    (z_list : PySem.W.nsIn K mainGlobals "list" = some none)
    (z_range : PySem.W.nsIn K mainGlobals "range" = some none)
    (z_set : PySem.W.nsIn K mainGlobals "set" = some none)
    (z_tuple : PySem.W.nsIn K mainGlobals "tuple" = some none)
    (y_DATA : PySem.W.nsIn K mainGlobals "DATA" = some (some (.int 0 t_DATA)))
    (y_ENVIRONMENTS : PySem.W.nsIn K mainGlobals "ENVIRONMENTS" = some (some (.int 4 t_ENVIRONMENTS)))
    (y_MOST_TYPES : PySem.W.nsIn K mainGlobals "MOST_TYPES" = some (some (.int 4 t_MOST_TYPES)))
    (y_ROOT : PySem.W.nsIn K mainGlobals "ROOT" = some (some (.int 1 t_ROOT)))
    (y_ROOT_BLOCKS : PySem.W.nsIn K mainGlobals "ROOT_BLOCKS" = some (some (.int 4 t_ROOT_BLOCKS)))
    (y_TOP : PySem.W.nsIn K mainGlobals "TOP" = some (some (.int 4294967295 t_TOP)))
    (y_WORDS : PySem.W.nsIn K mainGlobals "WORDS" = some (some (.int 8 t_WORDS)))
    (y__FIRST_OF_PROGRAMS : PySem.W.nsIn K mainGlobals "_FIRST_OF_PROGRAMS" = some (some (.int 2 t__FIRST_OF_PROGRAMS)))
    (y__MOST_CLAUSES : PySem.W.nsIn K mainGlobals "_MOST_CLAUSES" = some (some (.int 8 t__MOST_CLAUSES)))
    (y__MOST_GUARDS : PySem.W.nsIn K mainGlobals "_MOST_GUARDS" = some (some (.int 4 t__MOST_GUARDS))) :
    ∃ fd : FuncData, (∀ (s : Shared) (v : Value), BindsTo s fd ⟨[v], []⟩ [("script", v)]) ∧ ∀ base : Heap, K.In base → base.Ns mainGlobals mg → FnOk l.prog w K mg base CX0 10 fa fd ["script"] (spLaw K) := by
  have e := hfa.symm.trans (PySem.W.mg_of X G a_law)
  cases e
  have T : Txt K mg C_Types C_NotValid := ⟨PySem.W.mg_none_of X G z_abs, PySem.W.mg_none_of X G z_all, PySem.W.mg_none_of X G z_bool, PySem.W.mg_none_of X G z_int, PySem.W.mg_none_of X G z_isinstance, PySem.W.mg_none_of X G z_len, PySem.W.mg_none_of X G z_list, PySem.W.mg_none_of X G z_range, PySem.W.mg_none_of X G z_set, PySem.W.mg_none_of X G z_tuple, ⟨_, PySem.W.mg_of X G y_DATA⟩, ⟨_, PySem.W.mg_of X G y_ENVIRONMENTS⟩, ⟨_, PySem.W.mg_of X G y_MOST_TYPES⟩, ⟨_, PySem.W.mg_of X G y_ROOT⟩, ⟨_, PySem.W.mg_of X G y_ROOT_BLOCKS⟩, ⟨_, PySem.W.mg_of X G y_TOP⟩, ⟨_, PySem.W.mg_of X G y_WORDS⟩, ⟨_, PySem.W.mg_of X G y__FIRST_OF_PROGRAMS⟩, ⟨_, PySem.W.mg_of X G y__MOST_CLAUSES⟩, ⟨_, PySem.W.mg_of X G y__MOST_GUARDS⟩, ⟨PySem.W.mg_of X G a_NotValid, k_NotValid, x_NotValid, e1_NotValid, e3_NotValid, exm_self e1_NotValid e2_NotValid e3_NotValid e4_NotValid⟩, ⟨g1_Types, g2_Types, g3_Types, g4_Types⟩, n_Types__blocks, n_Types__programs, n_Types__registered⟩
  have F_law_next := fun_mk (st := s_law_next) l_law_next q_law_next k_law_next
  have B_law_next := F_law_next.binds (ps := ["tape", "many"]) fun _ _ _ _ _ _ us hl => match us, hl with | [_, _], _ => rfl
  have F_is_at_least := fun_mk (st := s_is_at_least) l_is_at_least q_is_at_least k_is_at_least
  have B_is_at_least := F_is_at_least.binds (ps := ["value", "least"]) fun _ _ _ _ _ _ us hl => match us, hl with | [_, _], _ => rfl
  have F_is_between := fun_mk (st := s_is_between) l_is_between q_is_between k_is_between
  have B_is_between := F_is_between.binds (ps := ["value", "least", "most"]) fun _ _ _ _ _ _ us hl => match us, hl with | [_, _, _], _ => rfl
  have F_is_index := fun_mk (st := s_is_index) l_is_index q_is_index k_is_index
  have B_is_index := F_is_index.binds (ps := ["value", "many"]) fun _ _ _ _ _ _ us hl => match us, hl with | [_, _], _ => rfl
  have F_is_word := fun_mk (st := s_is_word) l_is_word q_is_word k_is_word
  have B_is_word := F_is_word.binds (ps := ["value"]) fun _ _ _ _ _ _ us hl => match us, hl with | [_], _ => rfl
  have F_is_guard := fun_mk (st := s_is_guard) l_is_guard q_is_guard k_is_guard
  have B_is_guard := F_is_guard.binds (ps := ["value"]) fun _ _ _ _ _ _ us hl => match us, hl with | [_], _ => rfl
  have F_is_many := fun_mk (st := s_is_many) l_is_many q_is_many k_is_many
  have B_is_many := F_is_many.binds (ps := ["value", "start"]) fun _ _ _ _ _ _ us hl => match us, hl with | [_, _], _ => rfl
  have F_is_kind := fun_mk (st := s_is_kind) l_is_kind q_is_kind k_is_kind
  have B_is_kind := F_is_kind.binds (ps := ["value", "count"]) fun _ _ _ _ _ _ us hl => match us, hl with | [_, _], _ => rfl
  have F_is_clause := fun_mk (st := s_is_clause) l_is_clause q_is_clause k_is_clause
  have B_is_clause := F_is_clause.binds (ps := ["value", "count"]) fun _ _ _ _ _ _ us hl => match us, hl with | [_, _], _ => rfl
  have F_is_program := fun_mk (st := s_is_program) l_is_program q_is_program k_is_program
  have B_is_program := F_is_program.binds (ps := ["value", "count"]) fun _ _ _ _ _ _ us hl => match us, hl with | [_, _], _ => rfl
  have F_let_pass := fun_mk (st := s_let_pass) l_let_pass q_let_pass k_let_pass
  have B_let_pass := F_let_pass.binds (ps := ["guards", "words"]) fun _ _ _ _ _ _ us hl => match us, hl with | [_, _], _ => rfl
  have F_told := fun_mk (st := s_told) l_told q_told k_told
  have B_told := F_told.binds (ps := ["words", "start", "many"]) fun _ _ _ _ _ _ us hl => match us, hl with | [_, _, _], _ => rfl
  have F_can_be_owned := fun_mk (st := s_can_be_owned) l_can_be_owned q_can_be_owned k_can_be_owned
  have B_can_be_owned := F_can_be_owned.binds (ps := ["block", "blocks"]) fun _ _ _ _ _ _ us hl => match us, hl with | [_, _], _ => rfl
  have F_run_program := fun_mk (st := s_run_program) l_run_program q_run_program k_run_program
  have B_run_program := F_run_program.binds (ps := ["program", "words", "blocks", "own"]) fun _ _ _ _ _ _ us hl => match us, hl with | [_, _, _, _], _ => rfl
  have F_Types_count := fun_mk (st := s_Types_count) l_Types_count q_Types_count k_Types_count
  have B_Types_count := F_Types_count.binds (ps := ["self"]) fun _ _ _ _ _ _ us hl => match us, hl with | [_], _ => rfl
  have F_Types_is_known := fun_mk (st := s_Types_is_known) l_Types_is_known q_Types_is_known k_Types_is_known
  have B_Types_is_known := F_Types_is_known.binds (ps := ["self", "number"]) fun _ _ _ _ _ _ us hl => match us, hl with | [_, _], _ => rfl
  have F_Types_owned_by_root := fun_mk (st := s_Types_owned_by_root) l_Types_owned_by_root q_Types_owned_by_root k_Types_owned_by_root
  have B_Types_owned_by_root := F_Types_owned_by_root.binds (ps := ["self", "words"]) fun _ _ _ _ _ _ us hl => match us, hl with | [_, _], _ => rfl
  have F_Types_owned := fun_mk (st := s_Types_owned) l_Types_owned q_Types_owned k_Types_owned
  have B_Types_owned := F_Types_owned.binds (ps := ["self", "number", "words"]) fun _ _ _ _ _ _ us hl => match us, hl with | [_, _, _], _ => rfl
  have F_Types_init := fun_mk (st := s_Types_init) l_Types_init q_Types_init k_Types_init
  have B_Types_init := F_Types_init.binds (ps := ["self", "blocks"]) fun _ _ _ _ _ _ us hl => match us, hl with | [_, _], _ => rfl
  have F_is_environment := fun_mk (st := s_is_environment) l_is_environment q_is_environment k_is_environment
  have B_is_environment := F_is_environment.binds (ps := ["value"]) fun _ _ _ _ _ _ us hl => match us, hl with | [_], _ => rfl
  have F_Types_add := fun_mk (st := s_Types_add) l_Types_add q_Types_add k_Types_add
  have B_Types_add := F_Types_add.binds (ps := ["self", "program", "environment"]) fun _ _ _ _ _ _ us hl => match us, hl with | [_, _, _], _ => rfl
  have F_grown := fun_mk (st := s_grown) l_grown q_grown k_grown
  have B_grown := F_grown.binds (ps := ["starts", "table", "types", "elder"]) fun _ _ _ _ _ _ us hl => match us, hl with | [_, _, _, _], _ => rfl
  have F_law_owns := fun_mk (st := s_law_owns) l_law_owns q_law_owns k_law_owns
  have B_law_owns := F_law_owns.binds (ps := ["kind", "words", "many"]) fun _ _ _ _ _ _ us hl => match us, hl with | [_, _, _], _ => rfl
  have F_forests := fun_mk (st := s_forests) l_forests q_forests k_forests
  have B_forests := F_forests.binds (ps := ["image", "types"]) fun _ _ _ _ _ _ us hl => match us, hl with | [_, _], _ => rfl
  have F_law_walk := fun_mk (st := s_law_walk) l_law_walk q_law_walk k_law_walk
  have B_law_walk := F_law_walk.binds (ps := ["image"]) fun _ _ _ _ _ _ us hl => match us, hl with | [_], _ => rfl
  have F_unreached := fun_mk (st := s_unreached) l_unreached q_unreached k_unreached
  have B_unreached := F_unreached.binds (ps := ["image", "types"]) fun _ _ _ _ _ _ us hl => match us, hl with | [_, _], _ => rfl
  have F_law_types := fun_mk (st := s_law_types) l_law_types q_law_types k_law_types
  have B_law_types := F_law_types.binds (ps := ["many"]) fun _ _ _ _ _ _ us hl => match us, hl with | [_], _ => rfl
  have F_law_drawn := fun_mk (st := s_law_drawn) l_law_drawn q_law_drawn k_law_drawn
  have B_law_drawn := F_law_drawn.binds (ps := ["tape", "many"]) fun _ _ _ _ _ _ us hl => match us, hl with | [_, _], _ => rfl
  have F_law_chain := fun_mk (st := s_law_chain) l_law_chain q_law_chain k_law_chain
  have B_law_chain := F_law_chain.binds (ps := ["tape", "many"]) fun _ _ _ _ _ _ us hl => match us, hl with | [_, _], _ => rfl
  have F_law := fun_mk (st := s_law) l_law q_law k_law
  refine ⟨PySem.W.fnOf "law" "law" (defArgs s_law) (defBody s_law) (defScope s_law) .none kV_law dc_law pm_law an_law cd_law ct_law, fun s v => .of_eq rfl, fun base _ _ => ?_⟩
  have D_law_next : Dfn l.prog w K mg base CX0 1 "_law_next" ["tape", "many"] spNext := ⟨f_law_next, _, ok_law_next F_law_next T , PySem.W.mg_of X G a_law_next, k_law_next, B_law_next⟩
  have D_is_at_least : Dfn l.prog w K mg base CX0 1 "is_at_least" ["value", "least"] spGe := ⟨f_is_at_least, _, ok_is_at_least F_is_at_least T , PySem.W.mg_of X G a_is_at_least, k_is_at_least, B_is_at_least⟩
  have D_is_between : Dfn l.prog w K mg base CX0 2 "is_between" ["value", "least", "most"] spBtw := ⟨f_is_between, _, ok_is_between F_is_between T D_is_at_least, PySem.W.mg_of X G a_is_between, k_is_between, B_is_between⟩
  have D_is_index : Dfn l.prog w K mg base CX0 3 "is_index" ["value", "many"] spIdx := ⟨f_is_index, _, ok_is_index F_is_index T D_is_between, PySem.W.mg_of X G a_is_index, k_is_index, B_is_index⟩
  have D_is_word : Dfn l.prog w K mg base CX0 3 "is_word" ["value"] spWord := ⟨f_is_word, _, ok_is_word F_is_word T D_is_between, PySem.W.mg_of X G a_is_word, k_is_word, B_is_word⟩
  have D_is_guard : Dfn l.prog w K mg base CX0 4 "_is_guard" ["value"] spGd := ⟨f_is_guard, _, ok_is_guard F_is_guard T D_is_index D_is_word, PySem.W.mg_of X G a_is_guard, k_is_guard, B_is_guard⟩
  have D_is_many : Dfn l.prog w K mg base CX0 4 "_is_many" ["value", "start"] spMn := ⟨f_is_many, _, ok_is_many F_is_many T D_is_index D_is_between, PySem.W.mg_of X G a_is_many, k_is_many, B_is_many⟩
  have D_is_kind : Dfn l.prog w K mg base CX0 4 "_is_kind" ["value", "count"] spKd := ⟨f_is_kind, _, ok_is_kind F_is_kind T D_is_index, PySem.W.mg_of X G a_is_kind, k_is_kind, B_is_kind⟩
  have D_is_clause : Dfn l.prog w K mg base CX0 5 "_is_clause" ["value", "count"] spCl := ⟨f_is_clause, _, ok_is_clause F_is_clause T D_is_guard D_is_index D_is_many D_is_kind, PySem.W.mg_of X G a_is_clause, k_is_clause, B_is_clause⟩
  have D_is_program : Dfn l.prog w K mg base CX0 6 "is_program" ["value", "count"] spPg := ⟨f_is_program, _, ok_is_program F_is_program T D_is_clause, PySem.W.mg_of X G a_is_program, k_is_program, B_is_program⟩
  have D_let_pass : Dfn l.prog w K mg base CX0 1 "_let_pass" ["guards", "words"] spPass := ⟨f_let_pass, _, ok_let_pass F_let_pass T , PySem.W.mg_of X G a_let_pass, k_let_pass, B_let_pass⟩
  have D_told : Dfn l.prog w K mg base CX0 1 "_told" ["words", "start", "many"] spTold := ⟨f_told, _, ok_told F_told T , PySem.W.mg_of X G a_told, k_told, B_told⟩
  have D_can_be_owned : Dfn l.prog w K mg base CX0 1 "_can_be_owned" ["block", "blocks"] spCan := ⟨f_can_be_owned, _, ok_can_be_owned F_can_be_owned T , PySem.W.mg_of X G a_can_be_owned, k_can_be_owned, B_can_be_owned⟩
  have D_run_program : Dfn l.prog w K mg base CX0 2 "run_program" ["program", "words", "blocks", "own"] spRun := ⟨f_run_program, _, ok_run_program F_run_program T D_let_pass D_told D_can_be_owned, PySem.W.mg_of X G a_run_program, k_run_program, B_run_program⟩
  have D_Types_count : Mth l.prog w K mg base CX0 1 C_Types "count" ["self"] (spCnt C_Types) := ⟨f_Types_count, _, ok_Types_count F_Types_count T , ⟨a_Types_count, i_Types_count, k_Types_count⟩, B_Types_count, T.o_Types⟩
  have D_Types_is_known : Mth l.prog w K mg base CX0 4 C_Types "is_known" ["self", "number"] (spKnown C_Types) := ⟨f_Types_is_known, _, ok_Types_is_known F_Types_is_known T D_is_index D_Types_count, ⟨a_Types_is_known, i_Types_is_known, k_Types_is_known⟩, B_Types_is_known, T.o_Types⟩
  have D_Types_owned_by_root : Mth l.prog w K mg base CX0 5 C_Types "_owned_by_root" ["self", "words"] (spRoot C_Types) := ⟨f_Types_owned_by_root, _, ok_Types_owned_by_root F_Types_owned_by_root T D_can_be_owned D_Types_is_known, ⟨a_Types_owned_by_root, i_Types_owned_by_root, k_Types_owned_by_root⟩, B_Types_owned_by_root, T.o_Types⟩
  have D_Types_owned : Mth l.prog w K mg base CX0 6 C_Types "owned" ["self", "number", "words"] (spOwned C_Types) := ⟨f_Types_owned, _, ok_Types_owned F_Types_owned T D_Types_owned_by_root D_run_program, ⟨a_Types_owned, i_Types_owned, k_Types_owned⟩, B_Types_owned, T.o_Types⟩
  have M_Types : Mkr l.prog w K mg base CX0 1 "Types" C_Types ["self", "blocks"] (spTInit C_Types) := ⟨f_Types_init, _, ⟨m_Types, a_Types_init, i_Types_init, k_Types⟩, ok_Types_init F_Types_init T , B_Types_init, PySem.W.mg_of X G a_Types⟩
  have D_is_environment : Dfn l.prog w K mg base CX0 4 "is_environment" ["value"] spEnv := ⟨f_is_environment, _, ok_is_environment F_is_environment T D_is_index, PySem.W.mg_of X G a_is_environment, k_is_environment, B_is_environment⟩
  have D_Types_add : Mth l.prog w K mg base (L2.CX l.prog w) 7 C_Types "add" ["self", "program", "environment"] (spAdd C_Types) := ⟨f_Types_add, _, ok_Types_add F_Types_add T D_is_environment D_is_program D_Types_count, ⟨a_Types_add, i_Types_add, k_Types_add⟩, B_Types_add, T.o_Types⟩
  have D_grown : Dfn l.prog w K mg base CX0 7 "grown" ["starts", "table", "types", "elder"] (spGrown C_Types) := ⟨f_grown, _, ok_grown F_grown T D_Types_owned, PySem.W.mg_of X G a_grown, k_grown, B_grown⟩
  have D_law_owns : Dfn l.prog w K mg base CX0 1 "_law_owns" ["kind", "words", "many"] spLOwns := ⟨f_law_owns, _, ok_law_owns F_law_owns T , PySem.W.mg_of X G a_law_owns, k_law_owns, B_law_owns⟩
  have D_forests : Dfn l.prog w K mg base CX0 8 "forests" ["image", "types"] (spForests C_Types) := ⟨f_forests, _, ok_forests F_forests T D_grown, PySem.W.mg_of X G a_forests, k_forests, B_forests⟩
  have D_law_walk : Dfn l.prog w K mg base CX0 2 "_law_walk" ["image"] spWalk := ⟨f_law_walk, _, ok_law_walk F_law_walk T D_law_owns, PySem.W.mg_of X G a_law_walk, k_law_walk, B_law_walk⟩
  have D_unreached : Dfn l.prog w K mg base CX0 9 "unreached" ["image", "types"] (spUnr C_Types) := ⟨f_unreached, _, ok_unreached F_unreached T D_forests, PySem.W.mg_of X G a_unreached, k_unreached, B_unreached⟩
  have D_law_types : Dfn l.prog w K mg base CX0 8 "_law_types" ["many"] (spTypes C_Types) := ⟨f_law_types, _, ok_law_types F_law_types T M_Types D_Types_add, PySem.W.mg_of X G a_law_types, k_law_types, B_law_types⟩
  have D_law_drawn : Dfn l.prog w K mg base CX0 2 "_law_drawn" ["tape", "many"] spDrawn := ⟨f_law_drawn, _, ok_law_drawn F_law_drawn T D_law_next, PySem.W.mg_of X G a_law_drawn, k_law_drawn, B_law_drawn⟩
  have D_law_chain : Dfn l.prog w K mg base CX0 2 "_law_chain" ["tape", "many"] spDrawn := ⟨f_law_chain, _, ok_law_chain F_law_chain T D_law_next, PySem.W.mg_of X G a_law_chain, k_law_chain, B_law_chain⟩
  exact ok_law F_law T D_law_next D_law_types D_law_drawn D_law_chain D_law_walk D_forests D_unreached
theorem walk {l : PySem.W.OpenLaw} {q : Program} {loose : List Str} {XP : (Str → Option Value) → Heap → Prop} {YP : World → Heap → Prop} {d : DefRec} {K : Params → PySem.W.Frag} (hn : l.most = some 63) (hdf : d.params.defaults = [])
    (hY : ∀ (w : World) (h : Heap), YP w h → (K w.params).In h)
    (F : ∀ (w : World) (mg : Str → Option Value) (fa : Addr) (h : Heap), (K w.params).In h → h.Ns mainGlobals mg → mg d.name = some (.ref fa) →
      ∃ fd : FuncData, (∀ (s : Shared) (u : Value), BindsTo s fd ⟨[u], []⟩ [("script", u)]) ∧ ∀ base : Heap, (K w.params).In base → base.Ns mainGlobals mg → FnOk l.prog w (K w.params) mg base CX0 10 fa fd ["script"] (spLaw (K w.params))) :
    PySem.W.WalkO q loose XP YP l.row.toRowW d [] (fun f vs => PySem.call f vs) :=
  L2.walk_of (n := 63) (k := 10) (x := "script") (CX := fun _ => CX0) (sp := fun w => spLaw (K w.params)) hn (by decide) hdf ⟨rfl, by decide, by decide⟩ hY F (fun _ _ a ns hl _ hS => ⟨a, ns, rfl, hS, fun _ => rfl⟩) fun _ _ _ _ _ z => z
end My
open PySem PySem.W PyProof.Rows in
set_option maxRecDepth 100000 in
set_option maxHeartbeats 0 in
theorem PySem.Challenge.cw_steadhold_k20_faults_of_disks_holds : PySem.Challenge.rw_steadhold_k20_faults_of_disks.Holds := by
  w_on; o_law; k_head; (case hw => w_witness2)
  k_fill
  refine My.walk (l := PySem.Challenge.rw_steadhold_k20_faults_of_disks) rfl rfl (fun w h Y => PySem.W.kIn_of Y) ?F
  case F =>
    intro w mg fa h KX G hmg
    refine' My.all_mk KX G hmg ?a_Types ?g1_Types ?g2_Types ?g3_Types ?g4_Types ?m_Types ?k_Types ?n_Types__blocks ?n_Types__programs ?n_Types__registered ?a_NotValid ?k_NotValid ?x_NotValid ?e1_NotValid ?e2_NotValid ?e3_NotValid ?e4_NotValid ?a_law_next ?l_law_next ?q_law_next ?k_law_next ?a_is_at_least ?l_is_at_least ?q_is_at_least ?k_is_at_least ?a_is_between ?l_is_between ?q_is_between ?k_is_between ?a_is_index ?l_is_index ?q_is_index ?k_is_index ?a_is_word ?l_is_word ?q_is_word ?k_is_word ?a_is_guard ?l_is_guard ?q_is_guard ?k_is_guard ?a_is_many ?l_is_many ?q_is_many ?k_is_many ?a_is_kind ?l_is_kind ?q_is_kind ?k_is_kind ?a_is_clause ?l_is_clause ?q_is_clause ?k_is_clause ?a_is_program ?l_is_program ?q_is_program ?k_is_program ?a_let_pass ?l_let_pass ?q_let_pass ?k_let_pass ?a_told ?l_told ?q_told ?k_told ?a_can_be_owned ?l_can_be_owned ?q_can_be_owned ?k_can_be_owned ?a_run_program ?l_run_program ?q_run_program ?k_run_program ?a_Types_count ?i_Types_count ?l_Types_count ?q_Types_count ?k_Types_count ?a_Types_is_known ?i_Types_is_known ?l_Types_is_known ?q_Types_is_known ?k_Types_is_known ?a_Types_owned_by_root ?i_Types_owned_by_root ?l_Types_owned_by_root ?q_Types_owned_by_root ?k_Types_owned_by_root ?a_Types_owned ?i_Types_owned ?l_Types_owned ?q_Types_owned ?k_Types_owned ?a_Types_init ?i_Types_init ?l_Types_init ?q_Types_init ?k_Types_init ?a_is_environment ?l_is_environment ?q_is_environment ?k_is_environment ?a_Types_add ?i_Types_add ?l_Types_add ?q_Types_add ?k_Types_add ?a_grown ?l_grown ?q_grown ?k_grown ?a_law_owns ?l_law_owns ?q_law_owns ?k_law_owns ?a_forests ?l_forests ?q_forests ?k_forests ?a_law_walk ?l_law_walk ?q_law_walk ?k_law_walk ?a_unreached ?l_unreached ?q_unreached ?k_unreached ?a_law_types ?l_law_types ?q_law_types ?k_law_types ?a_law_drawn ?l_law_drawn ?q_law_drawn ?k_law_drawn ?a_law_chain ?l_law_chain ?q_law_chain ?k_law_chain ?a_law ?l_law ?q_law ?k_law ?z_abs ?z_all ?z_bool ?z_int ?z_isinstance ?z_len ?z_list ?z_range ?z_set ?z_tuple ?y_DATA ?y_ENVIRONMENTS ?y_MOST_TYPES ?y_ROOT ?y_ROOT_BLOCKS ?y_TOP ?y_WORDS ?y__FIRST_OF_PROGRAMS ?y__MOST_CLAUSES ?y__MOST_GUARDS
    (case a_Types => k_is)
    (case g1_Types => k_is)
    (case g2_Types => k_is)
    (case g3_Types => k_is)
    (case g4_Types => k_is)
    (case m_Types => k_is)
    (case k_Types => k_is)
    (case n_Types__blocks => k_is)
    (case n_Types__programs => k_is)
    (case n_Types__registered => k_is)
    (case a_NotValid => k_is)
    (case k_NotValid => k_is)
    (case x_NotValid => k_exc)
    (case e1_NotValid => k_is)
    (case e2_NotValid => k_is)
    (case e3_NotValid => k_is)
    (case e4_NotValid => first | rfl | k_is)
    (case a_law_next => k_is)
    (case l_law_next => k_is)
    (case q_law_next => k_is)
    (case k_law_next => k_is)
    (case a_is_at_least => k_is)
    (case l_is_at_least => k_is)
    (case q_is_at_least => k_is)
    (case k_is_at_least => k_is)
    (case a_is_between => k_is)
    (case l_is_between => k_is)
    (case q_is_between => k_is)
    (case k_is_between => k_is)
    (case a_is_index => k_is)
    (case l_is_index => k_is)
    (case q_is_index => k_is)
    (case k_is_index => k_is)
    (case a_is_word => k_is)
    (case l_is_word => k_is)
    (case q_is_word => k_is)
    (case k_is_word => k_is)
    (case a_is_guard => k_is)
    (case l_is_guard => k_is)
    (case q_is_guard => k_is)
    (case k_is_guard => k_is)
    (case a_is_many => k_is)
    (case l_is_many => k_is)
    (case q_is_many => k_is)
    (case k_is_many => k_is)
    (case a_is_kind => k_is)
    (case l_is_kind => k_is)
    (case q_is_kind => k_is)
    (case k_is_kind => k_is)
    (case a_is_clause => k_is)
    (case l_is_clause => k_is)
    (case q_is_clause => k_is)
    (case k_is_clause => k_is)
    (case a_is_program => k_is)
    (case l_is_program => k_is)
    (case q_is_program => k_is)
    (case k_is_program => k_is)
    (case a_let_pass => k_is)
    (case l_let_pass => k_is)
    (case q_let_pass => k_is)
    (case k_let_pass => k_is)
    (case a_told => k_is)
    (case l_told => k_is)
    (case q_told => k_is)
    (case k_told => k_is)
    (case a_can_be_owned => k_is)
    (case l_can_be_owned => k_is)
    (case q_can_be_owned => k_is)
    (case k_can_be_owned => k_is)
    (case a_run_program => k_is)
    (case l_run_program => k_is)
    (case q_run_program => k_is)
    (case k_run_program => k_is)
    (case a_Types_count => k_is)
    (case i_Types_count => k_is)
    (case l_Types_count => k_is)
    (case q_Types_count => k_is)
    (case k_Types_count => k_is)
    (case a_Types_is_known => k_is)
    (case i_Types_is_known => k_is)
    (case l_Types_is_known => k_is)
    (case q_Types_is_known => k_is)
    (case k_Types_is_known => k_is)
    (case a_Types_owned_by_root => k_is)
    (case i_Types_owned_by_root => k_is)
    (case l_Types_owned_by_root => k_is)
    (case q_Types_owned_by_root => k_is)
    (case k_Types_owned_by_root => k_is)
    (case a_Types_owned => k_is)
    (case i_Types_owned => k_is)
    (case l_Types_owned => k_is)
    (case q_Types_owned => k_is)
    (case k_Types_owned => k_is)
    (case a_Types_init => k_is)
    (case i_Types_init => k_is)
    (case l_Types_init => k_is)
    (case q_Types_init => k_is)
    (case k_Types_init => k_is)
    (case a_is_environment => k_is)
    (case l_is_environment => k_is)
    (case q_is_environment => k_is)
    (case k_is_environment => k_is)
    (case a_Types_add => k_is)
    (case i_Types_add => k_is)
    (case l_Types_add => k_is)
    (case q_Types_add => k_is)
    (case k_Types_add => k_is)
    (case a_grown => k_is)
    (case l_grown => k_is)
    (case q_grown => k_is)
    (case k_grown => k_is)
    (case a_law_owns => k_is)
    (case l_law_owns => k_is)
    (case q_law_owns => k_is)
    (case k_law_owns => k_is)
    (case a_forests => k_is)
    (case l_forests => k_is)
    (case q_forests => k_is)
    (case k_forests => k_is)
    (case a_law_walk => k_is)
    (case l_law_walk => k_is)
    (case q_law_walk => k_is)
    (case k_law_walk => k_is)
    (case a_unreached => k_is)
    (case l_unreached => k_is)
    (case q_unreached => k_is)
    (case k_unreached => k_is)
    (case a_law_types => k_is)
    (case l_law_types => k_is)
    (case q_law_types => k_is)
    (case k_law_types => k_is)
    (case a_law_drawn => k_is)
    (case l_law_drawn => k_is)
    (case q_law_drawn => k_is)
    (case k_law_drawn => k_is)
    (case a_law_chain => k_is)
    (case l_law_chain => k_is)
    (case q_law_chain => k_is)
    (case k_law_chain => k_is)
    (case a_law => k_is)
    (case l_law => k_is)
    (case q_law => k_is)
    (case k_law => k_is)
    (case z_abs => k_is)
    (case z_all => k_is)
    (case z_bool => k_is)
    (case z_int => k_is)
    (case z_isinstance => k_is)
    (case z_len => k_is)
    (case z_list => k_is)
    (case z_range => k_is)
    (case z_set => k_is)
    (case z_tuple => k_is)
    (case y_DATA => k_is)
    (case y_ENVIRONMENTS => k_is)
    (case y_MOST_TYPES => k_is)
    (case y_ROOT => k_is)
    (case y_ROOT_BLOCKS => k_is)
    (case y_TOP => k_is)
    (case y_WORDS => k_is)
    (case y__FIRST_OF_PROGRAMS => k_is)
    (case y__MOST_CLAUSES => k_is)
    (case y__MOST_GUARDS => k_is)
