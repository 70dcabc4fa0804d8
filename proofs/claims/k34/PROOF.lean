import PyProof.Rows.All
import Wide.All
import OpenK.AllK
import Wide.FinOn
import HandS.ForMost
import HandS.IsInst
import HandS.Exc
import HandS.TryOnly
import HandS.ExcOwn
import HandS.WordsExc
import HandS.RaiseMore
import HandS.Codes
import HandS.TupAny
import PySem.Challenge.RW_steadhold_k34_filters_and_their_common_p
set_option Elab.async false
set_option linter.all false
set_option maxRecDepth 100000
set_option maxHeartbeats 4000000
namespace My
open PySem L2
/-! ### rules that the layer lacks -/
section
variable {X : Cx}
/-- xs[i] as the read of xs[i] op= e -/
theorem get_list : PGet X (rIxL X.K) := by
  intro pins s σ H x y v u Q I rx ry h
  obtain ⟨p, xs, i, z, rfl, rfl, hq, he, q⟩ := h
  cases rx
  obtain ⟨t, rfl⟩ := ry
  obtain ⟨its, r, pl, hz⟩ := I.list hq
  obtain ⟨j, h1, h2, h3, h4, h5⟩ := atI_get he
  obtain ⟨w, ew, rw'⟩ := r.get h2
  have hl := r.length
  have hn := line63
  have fin : EP X pins σ Q w s := ⟨z, H, I, rw', q⟩
  by_cases h0 : 0 ≤ i
  · have hj : i.toNat = j := by
      rw [seqIndex_of h0 h5] at h1
      exact Option.some.inj h1
    exact PySem.wpAny_getItem_list pl.isList h0 (by omega) (by rw [hj]; simpa using ew) fin
  · have hj : (i + (its.toArray.size : Int)).toNat = j := by
      rw [seqIndex_neg (by omega) h4] at h1
      rw [List.size_toArray, ← hl]
      exact Option.some.inj h1
    exact PySem.wpAny_getItem_list_neg pl.isList (by omega) (by rw [List.size_toArray] <;> omega) (by omega) (by rw [hj]; simpa using ew) fin
/-- a module's int, text -/
theorem pe_gint {x : Str} {i : Int} {pos : Pos} (hg : Gl X x) (hm : ∃ t, X.mg x = some (.int i t)) (hd : (x == ("__debug__" : Str)) = false := by decide) : PE X (.Name x pos) (tC (.int i)) := by
  obtain ⟨t, hm⟩ := hm
  exact pe_glob hg hm ⟨t, rfl⟩ hd
theorem pe_gstr {x i : Str} {pos : Pos} (hg : Gl X x) (hm : ∃ t, X.mg x = some (.str i t)) (hd : (x == ("__debug__" : Str)) = false := by decide) : PE X (.Name x pos) (tC (.str i)) := by
  obtain ⟨t, hm⟩ := hm
  exact pe_glob hg hm ⟨t, rfl⟩ hd
end
/-! ### rules with the written part named -/
def rLen (K : PySem.W.Frag) : List V → Hp → VK → Prop := fun xs H Q => ∃ p ys, xs = [.ref p] ∧ (SqL K H p ys ∨ SqT K H p ys) ∧ Q (.int ys.length) H
def rListOf (K : PySem.W.Frag) : List V → Hp → VK → Prop := fun xs H Q => ∃ p ys, xs = [.ref p] ∧ (SqL K H p ys ∨ SqT K H p ys) ∧ ∀ l, H l = none → Q (.ref l) (upd H l (.lst ys))
def rTupOf (K : PySem.W.Frag) : List V → Hp → VK → Prop := fun xs H Q => ∃ p ys, xs = [.ref p] ∧ ((SqL K H p ys ∧ ∀ l, H l = none → Q (.ref l) (upd H l (.tup ys))) ∨ (SqT K H p ys ∧ Q (.ref p) H))
section
variable {X : Cx} (K : PySem.W.Frag)
theorem kIxL (h : X.K = K := by rfl) : IxR X (rIxL K) := by subst h; exact ix_list
theorem kIxT (h : X.K = K := by rfl) : IxR X (rIxT K) := by subst h; exact ix_tup
theorem kGetL (h : X.K = K := by rfl) : PGet X (rIxL K) := by subst h; exact get_list
theorem kSlL (h : X.K = K := by rfl) : SlR X (rSlL K) := by subst h; exact sl_list
theorem kSlT (h : X.K = K := by rfl) : SlR X (rSlA K) := by subst h; exact sl_tupA
theorem kEqD (hu : X.A.units + 64 < cLine) (h : X.K = K := by rfl) : OpR X (compareOp .Eq) (rEqD K) := by subst h; exact op_eqD hu
theorem kNeD (hu : X.A.units + 64 < cLine) (h : X.K = K := by rfl) : OpR X (compareOp .NotEq) (rNeD K) := by subst h; exact op_neD hu
theorem kIn (h : X.K = K := by rfl) : OpR X (compareOp .In) (rIn K false) := by subst h; exact op_in_seq
theorem kNotIn (h : X.K = K := by rfl) : OpR X (compareOp .NotIn) (rIn K true) := by subst h; exact op_notIn_seq
theorem kCatT (h : X.K = K := by rfl) : OpR X (binaryOp .Add) (rCatA K) := by subst h; exact op_catA
theorem kLen (h : X.K = K := by rfl) : CallR X (.builtin "len") (rLen K) := by subst h; exact call_len_seq
theorem kListOf (h : X.K = K := by rfl) : CallR X (.type "list") (rListOf K) := by subst h; exact call_list_of
theorem kTupOf (h : X.K = K := by rfl) : CallR X (.type "tuple") (rTupOf K) := by subst h; exact call_tuple_of
theorem kIsi (h : X.K = K := by rfl) : CallR X (.builtin "isinstance") (rIsi K) := by subst h; exact call_isi
theorem kAll (hc : X.calm = true) (h : X.K = K := by rfl) : CallR X (.builtin "all") (rAll K) := by subst h; exact cr_all hc
theorem kAny (hc : X.calm = true) (h : X.K = K := by rfl) : CallR X (.builtin "any") (rAny K) := by subst h; exact cr_any hc
theorem kSum (hc : X.calm = true) (h : X.K = K := by rfl) : CallR X (.builtin "sum") (rSum K) := by subst h; exact cr_sum hc
theorem kSorted (h : X.K = K := by rfl) : CallR X (.builtin "sorted") (rSorted K) := by subst h; exact cr_sorted
theorem kIndex (h : X.K = K := by rfl) : MtR X "list.index" (rIndex K) := by subst h; exact mt_index
section
variable {tg l : Expr} {tl : TE} {pos : Pos}
theorem kpiL (hl : PE X l tl) (h : X.K = K := by rfl) : PI X tg l (iList K tl) := by subst h; exact pi_list hl
theorem kpiT (hl : PE X l tl) (h : X.K = K := by rfl) : PI X tg l (iTup K tl) := by subst h; exact pi_tup hl
theorem kpgT {es : List Expr} {k : Nat} {t : TGs} {n : Nat} (hc : X.calm = true) (hh : PGs X es t)
    (hn : (assignEach es X.env).length = n := by rfl) (hst : (assignEach es X.env).findIdx? (·.1) = none := by rfl) (h : X.K = K := by rfl) : PG X (.Tuple es k pos) (gTup K n t) := by subst h; exact pg_tup hc hh hn hst
theorem kBM0 {o : Expr} {to : TE} {name : Str} {apos cpos : Pos} {T id : String} {r : V → List V → Hp → VK → Prop} (pa : PlainAttrs T) (slot : Slot T name id) (hty : typeOf (.builtin id) = pure (.type "method_descriptor")) (hm : MtR X id r) (ho : PE X o to)
    (hbase : attributeBase o name X.env (eval o X.env) = eval o X.env := by rfl) (hline : (apos.endLine == cpos.line) = true := by rfl) (h : X.K = K := by rfl) : PE X (.Call (.Attribute o name apos) [] [] cpos) (tBM0 K T r to) := by
  subst h; exact pe_bm0 pa slot hty hm ho hbase hline
theorem kBM {o e : Expr} {es : List Expr} {to : TE} {t : TA} {name : Str} {apos cpos : Pos} {T id : String} {r : V → List V → Hp → VK → Prop} (pa : PlainAttrs T) (slot : Slot T name id) (hty : typeOf (.builtin id) = pure (.type "method_descriptor")) (hm : MtR X id r) (ho : PE X o to) (ha : PA X (e :: es) t)
    (hbase : attributeBase o name X.env (eval o X.env) = eval o X.env := by rfl)
    (hfew : ((backTo cpos (starEach (e :: es) X.env)).all (fun x => !x.1) && (backToKw cpos (keywordEach [] X.env)).all (fun x => x.1.isSome)
      && decide ((e :: es).length + ([] : List Keyword).length + (if ([] : List Keyword).isEmpty then 0 else 1) < 30)) = true := by rfl)
    (hline : (apos.endLine == cpos.line) = true := by rfl) (hs : starEach (e :: es) X.env = (false, eval e X.env) :: starEach es X.env := by rfl) (hplain : (backTo cpos (starEach es X.env)).any (·.1) = false := by rfl) (h : X.K = K := by rfl) :
    PE X (.Call (.Attribute o name apos) (e :: es) [] cpos) (tBM K T r to t) := by
  subst h; exact pe_bm pa slot hty hm ho ha hbase hfew hline hs hplain
theorem kFld {f : Str} (he : PE X l tl) (hb : attributeBase l f X.env (eval l X.env) = eval l X.env) (h : X.K = K := by rfl) : PE X (.Attribute l f pos) (tFld K tl f) := by subst h; exact pe_fld he hb
end
end
/-! ### a def by its name -/
section
variable {P : Program} {w : World} {K : PySem.W.Frag} {mg : Str → Option Value} {base : Heap}
structure Dfn (P : Program) (w : World) (K : PySem.W.Frag) (mg : Str → Option Value) (base : Heap) (CX : CXT) (k : Nat) (x : Str) (ps : List Str) (sp : Sp) : Prop where
  ex : ∃ f fd, FnOk P w K mg base CX k f fd ps sp ∧ mg x = some (.ref f) ∧ PySem.W.keepIn K (.ref f) = true ∧ Binds K fd ps []
theorem Dfn.imp {CX : CXT} {k : Nat} {x : Str} {ps : List Str} {sp sp' : Sp} (D : Dfn P w K mg base CX k x ps sp) (h : ∀ vs H Q E, sp' vs H Q E → sp vs H Q E) : Dfn P w K mg base CX k x ps sp' := by
  obtain ⟨f, fd, F, a, b, c⟩ := D.ex
  exact ⟨f, fd, F.imp h, a, b, c⟩
end
section
variable {X : Cx} {CX : CXT} {k : Nat} {x : Str} {ps : List Str} {sp : Sp} {E : XK} {t : TA} {e : Expr} {es : List Expr} {p pos : Pos}
theorem pe_dcall (D : Dfn X.prog X.w X.K X.mg X.base CX k x ps sp) (hr : Room k X.A) (hg : Gl X x) (hx : Passes CX X E) (ha : PA X (e :: es) t) (hdb : (x == ("__debug__" : Str)) = false := by decide)
    (he : starEach (e :: es) X.env = (false, eval e X.env) :: starEach es X.env := by rfl) (hpl : (backTo pos (starEach es X.env)).any (·.1) = false := by rfl) : PE X (.Call (.Name x p) (e :: es) [] pos) (tCall sp [] E t) := by
  obtain ⟨f, fd, F, hm, hk, hb⟩ := D.ex
  exact pe_call F hr hg hm hk hb .nil hx ha hdb he hpl
theorem pe_dcall0 (D : Dfn X.prog X.w X.K X.mg X.base CX k x ps sp) (hr : Room k X.A) (hg : Gl X x) (hx : Passes CX X E) (hdb : (x == ("__debug__" : Str)) = false := by decide) : PE X (.Call (.Name x p) [] [] pos) (tCall sp [] E tNil) := by
  obtain ⟨f, fd, F, hm, hk, hb⟩ := D.ex
  exact pe_call0 F hr hg hm hk hb .nil hx hdb
end
/-! ### heaps -/
/-- all but a is kept -/
def Chg (a : Addr) (H H' : Hp) : Prop := ∀ b o, b ≠ a → H b = some o → H' b = some o
/-- tuples never change -/
def TS (H H' : Hp) : Prop := ∀ b xs, H b = some (.tup xs) → H' b = some (.tup xs)
theorem TS.refl (H : Hp) : TS H H := fun _ _ h => h
theorem TS.trans {H H1 H2 : Hp} (a : TS H H1) (b : TS H1 H2) : TS H H2 := fun c xs h => b c xs (a c xs h)
theorem Same.ts {H H' : Hp} (s : Same H H') : TS H H' := fun b xs h => s b _ h
theorem Chg.refl (a : Addr) (H : Hp) : Chg a H H := fun _ _ _ h => h
theorem Chg.trans {a : Addr} {H H1 H2 : Hp} (x : Chg a H H1) (y : Chg a H1 H2) : Chg a H H2 := fun b o n h => y b o n (x b o n h)
theorem Same.chg {a : Addr} {H H' : Hp} (s : Same H H') : Chg a H H' := fun b o _ h => s b o h
theorem Same.new {H : Hp} {p : Addr} {o : HO} (h : H p = none) : Same H (upd H p o) := fun b u e => by
  rw [upd_ne (ne_of_none e h)]
  exact e
theorem Chg.upd {a : Addr} {H : Hp} {o : HO} : Chg a H (upd H a o) := fun b u n e => by
  rw [upd_ne n]
  exact e
theorem Chg.ts {a : Addr} {H H' : Hp} {xs : List V} (c : Chg a H H') (h : H a = some (.lst xs)) : TS H H' := fun b ys e => c b _ (ne_of e h (by intro z; cases z)) e
/-- a new object may change at will -/
theorem Same.mut {H H' : Hp} {p : Addr} {o : HO} (s : Same H H') (h : H p = none) : Same H (L2.upd H' p o) := fun b u e => by
  rw [upd_ne (ne_of_none e h)]
  exact s b u e
theorem Chg.mut {a : Addr} {H H' : Hp} {p : Addr} {o : HO} (s : Chg a H H') (h : H p = none) : Chg a H (L2.upd H' p o) := fun b u n e => by
  rw [upd_ne (ne_of_none e h)]
  exact s b u n e
/-! ### small lemmas of readings -/
theorem iteD {c : Prop} [Decidable c] {A B : Prop} (h1 : c → A) (h2 : ¬ c → B) : if decide c = true then A else B := by
  by_cases h : c
  · rw [if_pos (decide_eq_true h)]; exact h1 h
  · rw [if_neg (by rw [decide_eq_false h]; decide)]; exact h2 h
theorem iteDn {c : Prop} [Decidable c] {A B : Prop} (h1 : ¬ c → A) (h2 : c → B) : if (!decide c) = true then A else B := by
  by_cases h : c
  · rw [if_neg (by rw [decide_eq_true h]; decide)]; exact h2 h
  · rw [if_pos (by rw [decide_eq_false h]; rfl)]; exact h1 h
theorem iteB {b : Bool} {A B : Prop} (h1 : b = true → A) (h2 : b = false → B) : if b = true then A else B := by
  cases b
  · rw [if_neg Bool.false_ne_true]; exact h2 rfl
  · rw [if_pos rfl]; exact h1 rfl
theorem at0 {a : V} {l : List V} : atI (a :: l) 0 = some a := by
  rw [show (0 : Int) = ((0 : Nat) : Int) from rfl]; exact atI_nat (by rfl)
theorem atC {xs : List V} {i : Int} {v : V} (j : Nat) (e : i = (j : Int)) (h : xs[j]? = some v) : atI xs i = some v := by rw [e]; exact atI_nat h
theorem ixC {n : Nat} {i : Int} (j : Nat) (e : i = (j : Int)) (h : j < n) : ixN n i = some j := by
  subst e
  unfold ixN
  rw [if_pos (by omega), if_pos (by omega)]
  simp
theorem szl {n : Nat} (h : Nat.ble n 100 = true) : n ≤ sizeLine := Nat.le_trans (Nat.le_of_ble_eq_true h) (by decide)
theorem szn {n : Nat} (h : n ≤ 100000) : n ≤ sizeLine := Nat.le_trans h (by decide)
theorem szt {n : Nat} (h : n < 100000) : n < sizeLine := Nat.lt_of_lt_of_le h (by decide)
/-! ### data over the heap -/
mutual
inductive Dt (H : Hp) : V → PyData → Prop
  | non : Dt H .non .none
  | bl (b : Bool) : Dt H (.bl b) (.bool b)
  | int (i : Int) : Dt H (.int i) (.int i)
  | str (x : Str) : Dt H (.str x) (.str x)
  | lst {a : Addr} {xs : List V} {ds : List PyData} : H a = some (.lst xs) → DtAll H xs ds → Dt H (.ref a) (.list ds)
  | tup {a : Addr} {xs : List V} {ds : List PyData} : H a = some (.tup xs) → DtAll H xs ds → Dt H (.ref a) (.tuple ds)
inductive DtAll (H : Hp) : List V → List PyData → Prop
  | nil : DtAll H [] []
  | cons {v : V} {vs : List V} {d : PyData} {ds : List PyData} : Dt H v d → DtAll H vs ds → DtAll H (v :: vs) (d :: ds)
end
mutual
def tonly : PyData → Bool
  | .list _ => false
  | .dict _ => false
  | .tuple xs => tonlyAll xs
  | _ => true
def tonlyAll : List PyData → Bool
  | [] => true
  | x :: xs => tonly x && tonlyAll xs
end
mutual
theorem Dt.same {H H' : Hp} (s : Same H H') : ∀ {d : PyData} {v : V}, Dt H v d → Dt H' v d
  | .none, _, h => by cases h; exact .non
  | .bool b, _, h => by cases h; exact .bl b
  | .int i, _, h => by cases h; exact .int i
  | .str x, _, h => by cases h; exact .str x
  | .list ds, _, h => by
    cases h with
    | lst ha hs => exact .lst (s _ _ ha) (DtAll.same s hs)
  | .tuple ds, _, h => by
    cases h with
    | tup ha hs => exact .tup (s _ _ ha) (DtAll.same s hs)
  | .dict _, _, h => by cases h
theorem DtAll.same {H H' : Hp} (s : Same H H') : ∀ {ds : List PyData} {vs : List V}, DtAll H vs ds → DtAll H' vs ds
  | [], _, h => by cases h; exact .nil
  | d :: ds, _, h => by
    cases h with
    | cons h1 h2 => exact .cons (Dt.same s h1) (DtAll.same s h2)
end
mutual
theorem Dt.ts {H H' : Hp} (s : TS H H') : ∀ {d : PyData} {v : V}, tonly d = true → Dt H v d → Dt H' v d
  | .none, _, _, h => by cases h; exact .non
  | .bool b, _, _, h => by cases h; exact .bl b
  | .int i, _, _, h => by cases h; exact .int i
  | .str x, _, _, h => by cases h; exact .str x
  | .list ds, _, t, h => by unfold tonly at t; cases t
  | .tuple ds, _, t, h => by
    unfold tonly at t
    cases h with
    | tup ha hs => exact .tup (s _ _ ha) (DtAll.ts s t hs)
  | .dict _, _, _, h => by cases h
theorem DtAll.ts {H H' : Hp} (s : TS H H') : ∀ {ds : List PyData} {vs : List V}, tonlyAll ds = true → DtAll H vs ds → DtAll H' vs ds
  | [], _, _, h => by cases h; exact .nil
  | d :: ds, _, t, h => by
    unfold tonlyAll at t
    rw [Bool.and_eq_true] at t
    cases h with
    | cons h1 h2 => exact .cons (Dt.ts s t.1 h1) (DtAll.ts s t.2 h2)
end
mutual
theorem Dt.dp {K : PySem.W.Frag} {H : Hp} : ∀ {d : PyData} {v : V}, Dt H v d → Dp K H v d
  | .none, _, h => by cases h; exact .non
  | .bool b, _, h => by cases h; exact .bl b
  | .int i, _, h => by cases h; exact .int i
  | .str x, _, h => by cases h; exact .str x
  | .list ds, _, h => by
    cases h with
    | lst ha hs => exact .lst (SqL.of ha) (DtAll.dp hs)
  | .tuple ds, _, h => by
    cases h with
    | tup ha hs => exact .tup (SqT.of ha) (DtAll.dp hs)
  | .dict _, _, h => by cases h
theorem DtAll.dp {K : PySem.W.Frag} {H : Hp} : ∀ {ds : List PyData} {vs : List V}, DtAll H vs ds → DpAll K H vs ds
  | [], _, h => by cases h; exact .nil
  | d :: ds, _, h => by
    cases h with
    | cons h1 h2 => exact .cons (Dt.dp h1) (DtAll.dp h2)
end
theorem DtAll.len {H : Hp} : ∀ {ds : List PyData} {vs : List V}, DtAll H vs ds → vs.length = ds.length
  | [], _, h => by cases h; rfl
  | d :: ds, _, h => by
    cases h with
    | cons h1 h2 => rw [List.length_cons, List.length_cons, DtAll.len h2]
theorem DtAll.get {H : Hp} : ∀ {ds : List PyData} {vs : List V} {i : Nat} {d : PyData}, DtAll H vs ds → ds[i]? = some d → ∃ v, vs[i]? = some v ∧ Dt H v d
  | [], _, i, d, h, e => by simp at e
  | d :: ds, _, 0, d', h, e => by
    cases h with
    | cons h1 h2 => simp at e; subst e; exact ⟨_, rfl, h1⟩
  | d :: ds, _, i + 1, d', h, e => by
    cases h with
    | cons h1 h2 =>
      obtain ⟨v, a, b⟩ := DtAll.get (i := i) h2 (by simpa using e)
      exact ⟨v, by simpa using a, b⟩
theorem DtAll.getV {H : Hp} : ∀ {ds : List PyData} {vs : List V} {i : Nat} {v : V}, DtAll H vs ds → vs[i]? = some v → ∃ d, ds[i]? = some d ∧ Dt H v d
  | [], _, i, d, h, e => by cases h; simp at e
  | d :: ds, _, 0, d', h, e => by
    cases h with
    | cons h1 h2 => simp at e; subst e; exact ⟨_, rfl, h1⟩
  | d :: ds, _, i + 1, d', h, e => by
    cases h with
    | cons h1 h2 =>
      obtain ⟨v, a, b⟩ := DtAll.getV (i := i) h2 (by simpa using e)
      exact ⟨v, by simpa using a, b⟩
theorem DtAll.append {H : Hp} : ∀ {ds es : List PyData} {vs us : List V}, DtAll H vs ds → DtAll H us es → DtAll H (vs ++ us) (ds ++ es)
  | [], _, _, _, h, h' => by cases h; exact h'
  | d :: ds, _, _, _, h, h' => by
    cases h with
    | cons h1 h2 => exact .cons h1 (DtAll.append h2 h')
/-! ### data that == may look at -/
theorem lay_all : ∀ {ds : List PyData}, (∀ d ∈ ds, d.canLay0 = true) → PyData.canLayAll0 ds = true
  | [], _ => by rw [PyData.canLayAll0]
  | d :: ds, h => by
    rw [PyData.canLayAll0, h d List.mem_cons_self, lay_all fun e he => h e (List.mem_cons_of_mem _ he)]; rfl
theorem dep_all {n : Nat} : ∀ {ds : List PyData}, (∀ d ∈ ds, d.depth ≤ n) → PyData.depthAll ds ≤ n
  | [], _ => by rw [PyData.depthAll]; exact Nat.zero_le _
  | d :: ds, h => by
    rw [PyData.depthAll]
    exact Nat.max_le.mpr ⟨h d List.mem_cons_self, dep_all fun e he => h e (List.mem_cons_of_mem _ he)⟩
/-- shaped, of so little depth -/
def Sh (n : Nat) (d : PyData) : Prop := d.canLay0 = true ∧ d.depth ≤ n
theorem Sh.int (n : Nat) (i : Int) : Sh n (.int i) := ⟨by rw [PyData.canLay0], by rw [PyData.depth]; exact Nat.zero_le _⟩
theorem Sh.bool (n : Nat) (i : Bool) : Sh n (.bool i) := ⟨by rw [PyData.canLay0], by rw [PyData.depth]; exact Nat.zero_le _⟩
theorem Sh.none (n : Nat) : Sh n .none := ⟨by rw [PyData.canLay0], by rw [PyData.depth]; exact Nat.zero_le _⟩
theorem Sh.tup {n : Nat} {ds : List PyData} (h : ∀ d ∈ ds, Sh n d) : Sh (n + 1) (.tuple ds) := ⟨by rw [PyData.canLay0]; exact lay_all fun d hd => (h d hd).1, by rw [PyData.depth]; exact Nat.succ_le_succ (dep_all fun d hd => (h d hd).2)⟩
theorem Sh.lst {n : Nat} {ds : List PyData} (h : ∀ d ∈ ds, Sh n d) : Sh (n + 1) (.list ds) := ⟨by rw [PyData.canLay0]; exact lay_all fun d hd => (h d hd).1, by rw [PyData.depth]; exact Nat.succ_le_succ (dep_all fun d hd => (h d hd).2)⟩
theorem Sh.ok {n : Nat} {d : PyData} (h : Sh n d) (hn : n ≤ 64 := by decide) : SeqAt.shaped d = true := by
  unfold SeqAt.shaped
  rw [h.1, decide_eq_true (Nat.le_trans h.2 hn)]; rfl
def tyName : PyData → String
  | .none => "NoneType"
  | .bool _ => "bool"
  | .int _ => "int"
  | .str _ => "str"
  | .list _ => "list"
  | .tuple _ => "tuple"
  | .dict _ => "dict"
theorem Dt.ty {K : PySem.W.Frag} {H : Hp} : ∀ {d : PyData} {v : V}, Dt H v d → TyX K H v (.type (tyName d))
  | .none, _, h => by cases h; exact .base .non
  | .bool b, _, h => by cases h; exact .base (.bl b)
  | .int i, _, h => by cases h; exact .base (.int i)
  | .str x, _, h => by cases h; exact .base (.str x)
  | .list ds, _, h => by
    cases h with
    | lst ha hs => exact .base (.lst ha)
  | .tuple ds, _, h => by
    cases h with
    | tup ha hs => exact .base (.tup ha)
  | .dict _, _, h => by cases h
def isIntD : PyData → Bool
  | .int _ => true
  | .bool _ => true
  | _ => false
def isBoolD : PyData → Bool
  | .bool _ => true
  | _ => false
def isTupD : PyData → Bool
  | .tuple _ => true
  | _ => false
def isListD : PyData → Bool
  | .list _ => true
  | _ => false
theorem kitInt : ∀ d : PyData, kitB (tyName d) "int" = some (isIntD d)
  | .none => (by decide +kernel : kitB "NoneType" "int" = some false)
  | .bool _ => (by decide +kernel : kitB "bool" "int" = some true)
  | .int _ => (by decide +kernel : kitB "int" "int" = some true)
  | .str _ => (by decide +kernel : kitB "str" "int" = some false)
  | .list _ => (by decide +kernel : kitB "list" "int" = some false)
  | .tuple _ => (by decide +kernel : kitB "tuple" "int" = some false)
  | .dict _ => (by decide +kernel : kitB "dict" "int" = some false)
theorem kitBool : ∀ d : PyData, kitB (tyName d) "bool" = some (isBoolD d)
  | .none => (by decide +kernel : kitB "NoneType" "bool" = some false)
  | .bool _ => (by decide +kernel : kitB "bool" "bool" = some true)
  | .int _ => (by decide +kernel : kitB "int" "bool" = some false)
  | .str _ => (by decide +kernel : kitB "str" "bool" = some false)
  | .list _ => (by decide +kernel : kitB "list" "bool" = some false)
  | .tuple _ => (by decide +kernel : kitB "tuple" "bool" = some false)
  | .dict _ => (by decide +kernel : kitB "dict" "bool" = some false)
theorem kitTup : ∀ d : PyData, kitB (tyName d) "tuple" = some (isTupD d)
  | .none => (by decide +kernel : kitB "NoneType" "tuple" = some false)
  | .bool _ => (by decide +kernel : kitB "bool" "tuple" = some false)
  | .int _ => (by decide +kernel : kitB "int" "tuple" = some false)
  | .str _ => (by decide +kernel : kitB "str" "tuple" = some false)
  | .list _ => (by decide +kernel : kitB "list" "tuple" = some false)
  | .tuple _ => (by decide +kernel : kitB "tuple" "tuple" = some true)
  | .dict _ => (by decide +kernel : kitB "dict" "tuple" = some false)
theorem kitList : ∀ d : PyData, kitB (tyName d) "list" = some (isListD d)
  | .none => (by decide +kernel : kitB "NoneType" "list" = some false)
  | .bool _ => (by decide +kernel : kitB "bool" "list" = some false)
  | .int _ => (by decide +kernel : kitB "int" "list" = some false)
  | .str _ => (by decide +kernel : kitB "str" "list" = some false)
  | .list _ => (by decide +kernel : kitB "list" "list" = some true)
  | .tuple _ => (by decide +kernel : kitB "tuple" "list" = some false)
  | .dict _ => (by decide +kernel : kitB "dict" "list" = some false)
theorem r_isi {K : PySem.W.Frag} {H : Hp} {v : V} {d : PyData} {T : String} {b : Bool} {Q : VK} (h : Dt H v d) (e : kitB (tyName d) T = some b) (k : Q (.bl b) H) : rIsi K [v, .ty T] H Q :=
  ⟨_, _, _, _, _, rfl, .ty _, h.ty, kit_ty e, k⟩
/-- lo ≤ i ≤ hi, of a whole number -/
def isI (d : PyData) (lo hi : Int) : Bool := match d with
  | .int i => decide (lo ≤ i) && decide (i ≤ hi)
  | _ => false
def geI (d : PyData) (lo : Int) : Bool := match d with
  | .int i => decide (lo ≤ i)
  | _ => false
def spGe : Sp := fun vs H Q _ => ∃ v d lo, vs = [v, .int lo] ∧ Dt H v d ∧ Q (.bl (geI d lo)) H
def spBtw : Sp := fun vs H Q _ => ∃ v d lo hi, vs = [v, .int lo, .int hi] ∧ Dt H v d ∧ Q (.bl (isI d lo hi)) H
def spIdx : Sp := fun vs H Q _ => ∃ v d n, vs = [v, .int n] ∧ Dt H v d ∧ Q (.bl (isI d 0 (n - 1))) H
def spWord : Sp := fun vs H Q _ => ∃ v d, vs = [v] ∧ Dt H v d ∧ Q (.bl (isI d 0 4294967295)) H
theorem Dt.new {H : Hp} {p : Addr} {xs : List V} {ds : List PyData} (h : DtAll H xs ds) (hp : H p = none) : Dt (upd H p (.tup xs)) (.ref p) (.tuple ds) := .tup upd_same (h.same (Same.new hp))
/-- t + u of data -/
theorem r_catD {K : PySem.W.Frag} {H : Hp} {v u : V} {ds es : List PyData} {Q : VK} (h1 : Dt H v (.tuple ds)) (h2 : Dt H u (.tuple es)) (hz : ds.length + es.length ≤ 100000) (k : ∀ v' H', Same H H' → Dt H' v' (.tuple (ds ++ es)) → Q v' H') : rCatA K v u H Q := by
  cases h1 with
  | @tup a xs _ ha hs =>
    cases h2 with
    | @tup b ys _ hb ht =>
      refine ⟨a, b, xs, ys, rfl, rfl, SqT.of ha, SqT.of hb, szn (by rw [hs.len, ht.len]; exact hz), fun e => ?_, fun _ e => ?_, fun _ _ p hp => ?_⟩
      · subst e
        have : ds = [] := List.length_eq_zero_iff.mp (by rw [← hs.len]; rfl)
        subst this
        exact k _ _ (Same.refl H) (.tup hb ht)
      · subst e
        have : es = [] := List.length_eq_zero_iff.mp (by rw [← ht.len]; rfl)
        subst this
        rw [List.append_nil] at k
        exact k _ _ (Same.refl H) (.tup ha hs)
      · exact k _ _ (Same.new hp) (Dt.new (hs.append ht) hp)
/-! ### comprehensions whose elements change nothing that stood -/
theorem take_snoc {α : Type} {l : List α} {i : Nat} {y : α} (h : l[i]? = some y) : l.take i ++ [y] = l.take (i + 1) := by
  rw [List.take_add_one, h]; rfl
section
variable {K : PySem.W.Frag} {g : TG} {te : TE} {vs : List Nat} {σ : L2.St} {H : Hp} {D : Addr} {Qd : Hp → Prop}
/-- over a tuple: ys are the elements -/
theorem lcT {a : Addr} {xs : List V} (ys : List V) (hl : ys.length = xs.length) (hz : xs.length < 100000) (hx : H a = some (.tup xs)) (hD : H D = none)
    (step : ∀ (j : Nat) (x y : V) (H1 : Hp) (Q' : VK), xs[j]? = some x → ys[j]? = some y → Same H H1 → (∀ H2, Same H1 H2 → Q' y H2) → g x (wipe σ vs) H1 fun σ2 H2 => wipe σ2 vs = wipe σ vs ∧ te σ2 H2 Q')
    (k : ∀ H1, Same H H1 → H1 D = some (.lst ys) → Qd H1) :
    ∃ W : Nat → Nat → Hp → Prop, (∃ m, W 0 m (upd H D (.lst []))) ∧ ∀ i m H, W i m H →
      ((Itt K a).stop i H ∧ Qd H) ∨ ((Itt K a).go i H ∧ ∃ Nx : Hp → Prop, (∀ H', Nx H' → ∃ m', m' < m ∧ W (i + 1) m' H') ∧ ∀ x H', (Itt K a).yld i H x H' → g x (wipe σ vs) H' fun σ2 H2 => wipe σ2 vs = wipe σ vs ∧ tYes σ2 H2 fun b H3 =>
        if b = true then te σ2 H3 fun y H4 => ∃ acc, H4 D = some (.lst acc) ∧ acc.length < sizeLine ∧ Nx (upd H4 D (.lst (acc ++ [y]))) else Nx H3) := by
  refine lc_tup (K := K) (xs := xs) (fun i H1 => Same H H1 ∧ H1 D = some (.lst (ys.take i))) ⟨Same.new hD, upd_same⟩ (fun i H1 _ h => SqT.of (h.1 _ _ hx)) ?_ ?_
  · rintro i x H1 hi ⟨s1, d1⟩
    have hil : i < xs.length := (List.getElem?_eq_some_iff.mp hi).1
    have hy : ys[i]? = some ys[i] := List.getElem?_eq_getElem (by omega)
    refine step i x _ H1 _ hi hy s1 fun H2 s2 => ?_
    refine ⟨_, s2 _ _ d1, ?_, Same.mut (s1.trans s2) hD, ?_⟩
    · rw [List.length_take]
      exact Nat.lt_of_lt_of_le (Nat.lt_of_le_of_lt (Nat.min_le_right _ _) (by omega : ys.length < 100000)) (by decide)
    · rw [take_snoc hy]; exact upd_same
  · rintro H1 ⟨s1, d1⟩
    rw [List.take_of_length_le (by omega)] at d1
    exact k H1 s1 d1
theorem lcR {lo : Int} {n : Nat} (ys : List V) (hl : ys.length = n) (hz : n < 100000) (hD : H D = none)
    (step : ∀ (j : Nat) (y : V) (H1 : Hp) (Q' : VK), ys[j]? = some y → Same H H1 → (∀ H2, Same H1 H2 → Q' y H2) → g (.int (lo + j)) (wipe σ vs) H1 fun σ2 H2 => wipe σ2 vs = wipe σ vs ∧ te σ2 H2 Q')
    (k : ∀ H1, Same H H1 → H1 D = some (.lst ys) → Qd H1) :
    ∃ W : Nat → Nat → Hp → Prop, (∃ m, W 0 m (upd H D (.lst []))) ∧ ∀ i m H, W i m H →
      ((Itr lo n).stop i H ∧ Qd H) ∨ ((Itr lo n).go i H ∧ ∃ Nx : Hp → Prop, (∀ H', Nx H' → ∃ m', m' < m ∧ W (i + 1) m' H') ∧ ∀ x H', (Itr lo n).yld i H x H' → g x (wipe σ vs) H' fun σ2 H2 => wipe σ2 vs = wipe σ vs ∧ tYes σ2 H2 fun b H3 =>
        if b = true then te σ2 H3 fun y H4 => ∃ acc, H4 D = some (.lst acc) ∧ acc.length < sizeLine ∧ Nx (upd H4 D (.lst (acc ++ [y]))) else Nx H3) := by
  refine lc_range (fun i H1 => Same H H1 ∧ H1 D = some (.lst (ys.take i))) ⟨Same.new hD, upd_same⟩ ?_ ?_
  · rintro i H1 hi ⟨s1, d1⟩
    have hy : ys[i]? = some ys[i] := List.getElem?_eq_getElem (by omega)
    refine step i _ H1 _ hy s1 fun H2 s2 => ?_
    refine ⟨_, s2 _ _ d1, ?_, Same.mut (s1.trans s2) hD, ?_⟩
    · rw [List.length_take]
      exact Nat.lt_of_lt_of_le (Nat.lt_of_le_of_lt (Nat.min_le_right _ _) (by omega : ys.length < 100000)) (by decide)
    · rw [take_snoc hy]; exact upd_same
  · rintro H1 ⟨s1, d1⟩
    rw [List.take_of_length_le (by omega)] at d1
    exact k H1 s1 d1
end
end My

namespace My
open PySem L2
def topS (i : Nat) : Stmt := PySem.Challenge.pw_steadhold_k34_filters_and_their_common_p.main.body.getD i (.Pass ⟨0, 0, 0, 0⟩)
structure Txt (mg : Str → Option Value) : Prop where
  b_abs : mg "abs" = none
  b_all : mg "all" = none
  b_bool : mg "bool" = none
  b_int : mg "int" = none
  b_isinstance : mg "isinstance" = none
  b_len : mg "len" = none
  b_list : mg "list" = none
  b_range : mg "range" = none
  b_tuple : mg "tuple" = none
  c_FIELDS : ∃ t, mg "FIELDS" = some (.int 6 t)
  c_TOP : ∃ t, mg "TOP" = some (.int 4294967295 t)
end My

namespace My
open PySem L2
local macro_rules | `(tactic| walk_at "ne") => `(tactic| first | assumption | exact Ne.symm (by assumption) | exact ne_of_none (by assumption) (by assumption) | exact Ne.symm (ne_of_none (by assumption) (by assumption)))
local macro_rules | `(tactic| walk_at "hp") => `(tactic| first | assumption | with_reducible exact upd_same | (with_reducible refine Eq.trans (upd_ne ?_) ?_; rotate_left; walk_at "hp"; walk_at "ne"))
local macro_rules | `(tactic| walk_at "cnd") => `(tactic| first | omega | (show (0 : Int) < _; omega) | exact ⟨by omega, by omega⟩ | exact Or.inl ⟨by omega, by omega⟩ | exact Or.inr ⟨by omega, by omega⟩ | exact ⟨by omega, by omega, by decide⟩ | exact ⟨by omega, by omega, by omega⟩)
local macro_rules | `(tactic| walk_at "at") => `(tactic| first | exact atC 0 rfl rfl | exact atC 1 rfl rfl | exact atC 2 rfl rfl | exact atC 3 rfl rfl | exact atC 4 rfl rfl | exact atC 5 rfl rfl | exact atC 6 rfl rfl | exact atC 7 rfl rfl)
local macro_rules | `(tactic| walk_at "ix") => `(tactic| first | exact ixC 0 rfl (Nat.le_of_ble_eq_true rfl) | exact ixC 1 rfl (Nat.le_of_ble_eq_true rfl) | exact ixC 2 rfl (Nat.le_of_ble_eq_true rfl) | exact ixC 3 rfl (Nat.le_of_ble_eq_true rfl) | exact ixC 4 rfl (Nat.le_of_ble_eq_true rfl) | exact ixC 5 rfl (Nat.le_of_ble_eq_true rfl))
local macro_rules | `(tactic| walk_at "st") => `(tactic| first
  | refine ⟨_, rfl, ?_⟩
  | refine ⟨_, _, rfl, rfl, (by walk_at "cnd" : (_ : Prop)), ?_⟩
  | refine ⟨_, _, rfl, rfl, ?_⟩
  | refine ⟨rfl, ?_⟩
  | refine Or.inl ⟨_, rfl, ?_⟩
  | refine ⟨_, _, _, _, rfl, rfl, by exact SqL.of (by walk_at "hp"), by walk_at "at", ?_⟩
  | refine ⟨_, _, _, _, rfl, rfl, by exact SqT.of (by walk_at "hp"), by walk_at "at", ?_⟩
  | refine ⟨_, _, _, _, rfl, rfl, by walk_at "hp", by walk_at "ix", ?_⟩
  | refine ⟨_, _, rfl, Or.inl (by exact SqL.of (by walk_at "hp")), ?_⟩
  | refine ⟨_, _, rfl, Or.inr (by exact SqT.of (by walk_at "hp")), ?_⟩)
local macro_rules | `(tactic| walk_at "run") => `(tactic| repeat walk_at "st")

/-! the tape -/
def Tape (H : Hp) (a s : Addr) : Prop := ∃ (ns : List Int) (i r z : Int), H a = some (.lst [.ref s, .int i, .int r, .int z]) ∧ H s = some (.lst (ns.map V.int)) ∧ 0 ≤ i ∧ 0 ≤ r ∧ 0 ≤ z ∧ z < 2147483647
def spNext : Sp := fun vs H Q _ => ∃ (a t : Addr) (many : Int), vs = [.ref a, .int many] ∧ 0 < many ∧ many < 1000000 ∧ Tape H a t ∧ ∀ v H', 0 ≤ v → v < many → Tape H' a t → Chg a H H' → Q (.int v) H'
theorem Tape.lst {H : Hp} {a t : Addr} (h : Tape H a t) : ∃ xs, H a = some (.lst xs) := by
  obtain ⟨ns, i, r, z, ha, _⟩ := h
  exact ⟨_, ha⟩
theorem Tape.at {H : Hp} {a t p : Addr} (h : Tape H a t) (hp : H p = none) : p ≠ a := by
  obtain ⟨ns, i, r, z, ha, _⟩ := h
  exact (ne_of_none ha hp).symm
theorem Tape.at2 {H : Hp} {a t p : Addr} (h : Tape H a t) (hp : H p = none) : p ≠ t := by
  obtain ⟨ns, i, r, z, ha, hs, _⟩ := h
  exact (ne_of_none hs hp).symm
theorem Tape.same {H H' : Hp} {a t : Addr} (h : Tape H a t) (s : Same H H') : Tape H' a t := by
  obtain ⟨ns, i, r, z, ha, hs, q⟩ := h
  exact ⟨ns, i, r, z, s _ _ ha, s _ _ hs, q⟩
theorem Tape.upd {H : Hp} {a t W : Addr} {o : HO} (h : Tape H a t) (n1 : W ≠ a) (n2 : W ≠ t) : Tape (L2.upd H W o) a t := by
  obtain ⟨ns, i, r, z, ha, hs, q⟩ := h
  exact ⟨ns, i, r, z, by rw [upd_ne n1.symm]; exact ha, by rw [upd_ne n2.symm]; exact hs, q⟩
theorem Tape.ts {H H' : Hp} {a t : Addr} (h : Tape H a t) (c : Chg a H H') : TS H H' := by
  obtain ⟨xs, e⟩ := h.lst
  exact c.ts e
section
variable {P : Program} {w : World} {K : PySem.W.Frag} {mg : Str → Option Value} {base : Heap}
abbrev s_law_next : Stmt := topS 15
abbrev ns_law_next : List Str := ["tape", "many", "rest", "cell"]
theorem sc_law_next : FnScope ns_law_next ["tape", "many"] (defScope s_law_next) := ⟨rfl, rfl, rfl, by decide +kernel, rfl, by decide +kernel, by decide +kernel⟩

theorem ok_law_next {f : Addr} {fd : FuncData} (F : Fun K "_law_next" "_law_next" s_law_next f fd) (T : Txt mg) : FnOk P w K mg base CX0 1 f fd ["tape", "many"] spNext := by
  refine F.ok sc_law_next (fun vs H Q E h => ?_) (fun cdv A outer s H vs Q E hr h => ?_)
  · obtain ⟨a, s, many, rfl, _⟩ := h
    rfl
  · obtain ⟨a, s, many, rfl, m0, m1, ⟨ns, i, r, z, ha, hs, i0, r0, z0, z1⟩, k⟩ := h
    have nsa : s ≠ a := ne_of hs ha (by intro q; cases ns <;> cases q)
    refine ⟨_, (pss_cons (ps_set (i := 2) sc_law_next.nd rfl (Or.inl rfl) (pe_ix (kIxL K) (pv 0) pe_int (fun _ _ => rfl)))
  (pss_cons (ps_if (pt_cmpR op_gt (pv 2) pe_int (nomark _)) (pss_cons (ps_asg (pe_op op_fdiv (pv 2) (pv 1)) (pg_sub (pv 0) pe_int set_list))
  (pss_one (ps_ret (pe_op op_mod (pe_callTy call_int1 (by rfl) T.b_int (by decide +kernel) (pa_cons (pv 2) pa_nil)) (pv 1))))) pss_nil)
  (pss_cons (ps_set (i := 3) sc_law_next.nd rfl (Or.inl rfl) pe_int)
  (C8.pss_cut (ps_if (pt_cmpR op_lt (pe_ix (kIxL K) (pv 0) pe_int (fun _ _ => rfl)) (pe_callB (kLen K) (by rfl) T.b_len (by decide +kernel) (pa_cons (pe_ix (kIxL K) (pv 0) pe_int (fun _ _ => rfl)) pa_nil)) (nomark _)) (pss_cons (ps_set (i := 3) sc_law_next.nd rfl (Or.inl rfl) (pe_callB call_abs (by rfl) T.b_abs (by decide +kernel) (pa_cons (pe_ix (kIxL K) (pe_ix (kIxL K) (pv 0) pe_int (fun _ _ => rfl)) (pe_ix (kIxL K) (pv 0) pe_int (fun _ _ => rfl)) (fun _ _ => rfl)) pa_nil)))
  (pss_one (ps_augS (pv 0) pe_int (kGetL K) pe_int ip_add set_list))) pss_nil)
  (pss_cons (ps_if (pt_cmpR op_ge (pv 3) (pe_op op_pow pe_int pe_int) (nomark _)) (pss_cons (ps_asg (pe_op op_fdiv (pv 3) (pv 1)) (pg_sub (pv 0) pe_int set_list))
  (pss_one (ps_ret (pe_op op_mod (pe_callTy call_int1 (by rfl) T.b_int (by decide +kernel) (pa_cons (pv 3) pa_nil)) (pv 1))))) pss_nil)
  (pss_cons (ps_asg (pe_op op_mod (pe_callTy call_int1 (by rfl) T.b_int (by decide +kernel) (pa_cons (pe_op op_add (pe_op op_add (pe_op op_mul (pe_ix (kIxL K) (pv 0) pe_int (fun _ _ => rfl)) pe_int) (pe_op op_mul (pv 3) pe_int)) pe_int) pa_nil)) pe_int) (pg_sub (pv 0) pe_int set_list))
  (pss_one (ps_ret (pe_op op_mod (pe_callTy call_int1 (by rfl) T.b_int (by decide +kernel) (pa_cons (pe_op op_fdiv (pe_op op_mod (pe_op op_mul (pe_ix (kIxL K) (pv 0) pe_int (fun _ _ => rfl)) pe_int) pe_int) pe_int) pa_nil)) (pv 1)))))))))), ?_⟩
    -- rest = tape[2]; if rest > 0
    walk_at "run"
    refine iteD (fun h1 => ?_) (fun h1 => ?_)
    · walk_at "run"
      exact k _ _ (Int.emod_nonneg _ (by omega)) (Int.emod_lt_of_pos _ m0) ⟨ns, i, r / many, z, upd_same, by rw [upd_ne nsa]; exact hs, i0, Int.ediv_nonneg r0 (by omega), z0, z1⟩ Chg.upd
    · -- cell = 0; if tape[1] < len(tape[0])
      refine ⟨fun σ H1 => ∃ cell i', σ = [some (.ref a), some (.int many), some (.int r), some (.int cell)] ∧ 0 ≤ cell ∧ 0 ≤ i' ∧ H1 a = some (.lst [.ref s, .int i', .int r, .int z]) ∧ H1 s = some (.lst (ns.map V.int)) ∧ Chg a H H1, ?_, ?_⟩
      · walk_at "run"
        refine iteD (fun h2 => ?_) (fun h2 => ?_)
        · have hi : i.toNat < ns.length := by simpa using (show i.toNat < (ns.map V.int).length by omega)
          walk_at "run"
          refine ⟨_, _, _, _, rfl, rfl, SqL.of hs, atC i.toNat (by omega) (by rw [List.getElem?_map, List.getElem?_eq_getElem hi]; rfl), ?_⟩
          walk_at "run"
          exact ⟨_, i + 1, rfl, by split <;> omega, by omega, upd_same, by rw [upd_ne nsa]; exact hs, Chg.upd⟩
        · exact ⟨0, i, rfl, by omega, i0, ha, hs, Chg.refl _ _⟩
      · rintro σ H1 ⟨cell, i', rfl, c0, i0', ha1, hs1, ch⟩
        walk_at "run"
        refine iteD (fun h3 => ?_) (fun h3 => ?_)
        · walk_at "run"
          exact k _ _ (Int.emod_nonneg _ (by omega)) (Int.emod_lt_of_pos _ m0) ⟨ns, i', cell / many, z, upd_same, by rw [upd_ne nsa]; exact hs1, i0', Int.ediv_nonneg c0 (by omega), z0, z1⟩ (ch.trans Chg.upd)
        · walk_at "run"
          exact k _ _ (Int.emod_nonneg _ (by omega)) (Int.emod_lt_of_pos _ m0) ⟨ns, i', r, _, upd_same, by rw [upd_ne nsa]; exact hs1, i0', r0, Int.emod_nonneg _ (by decide), Int.emod_lt_of_pos _ (by decide)⟩ (ch.trans Chg.upd)
end
end My

namespace My
open PySem L2
local macro_rules | `(tactic| walk_at "ne") => `(tactic| first | assumption | exact Ne.symm (by assumption) | exact ne_of_none (by assumption) (by assumption) | exact Ne.symm (ne_of_none (by assumption) (by assumption)))
local macro_rules | `(tactic| walk_at "hp") => `(tactic| first | assumption | with_reducible exact upd_same | (with_reducible refine Eq.trans (upd_ne ?_) ?_; rotate_left; walk_at "hp"; walk_at "ne"))
local macro_rules | `(tactic| walk_at "cnd") => `(tactic| first | omega | (show (0 : Int) < _; omega) | exact ⟨by omega, by omega⟩ | exact Or.inl ⟨by omega, by omega⟩ | exact Or.inr ⟨by omega, by omega⟩ | exact ⟨by omega, by omega, by decide⟩ | exact ⟨by omega, by omega, by omega⟩)
local macro_rules | `(tactic| walk_at "at") => `(tactic| first | exact atC 0 rfl rfl | exact atC 1 rfl rfl | exact atC 2 rfl rfl | exact atC 3 rfl rfl | exact atC 4 rfl rfl | exact atC 5 rfl rfl | exact atC 6 rfl rfl | exact atC 7 rfl rfl)
local macro_rules | `(tactic| walk_at "ix") => `(tactic| first | exact ixC 0 rfl (Nat.le_of_ble_eq_true rfl) | exact ixC 1 rfl (Nat.le_of_ble_eq_true rfl) | exact ixC 2 rfl (Nat.le_of_ble_eq_true rfl) | exact ixC 3 rfl (Nat.le_of_ble_eq_true rfl) | exact ixC 4 rfl (Nat.le_of_ble_eq_true rfl) | exact ixC 5 rfl (Nat.le_of_ble_eq_true rfl))
local macro_rules | `(tactic| walk_at "st") => `(tactic| first
  | refine ⟨_, rfl, ?_⟩
  | refine ⟨_, _, rfl, rfl, (by walk_at "cnd" : (_ : Prop)), ?_⟩
  | refine ⟨_, _, rfl, rfl, ?_⟩
  | refine ⟨rfl, ?_⟩
  | refine Or.inl ⟨_, rfl, ?_⟩
  | refine ⟨_, _, _, _, rfl, rfl, by exact SqL.of (by walk_at "hp"), by walk_at "at", ?_⟩
  | refine ⟨_, _, _, _, rfl, rfl, by exact SqT.of (by walk_at "hp"), by walk_at "at", ?_⟩
  | refine ⟨_, _, _, _, rfl, rfl, by walk_at "hp", by walk_at "ix", ?_⟩
  | refine ⟨_, _, rfl, Or.inl (by exact SqL.of (by walk_at "hp")), ?_⟩
  | refine ⟨_, _, rfl, Or.inr (by exact SqT.of (by walk_at "hp")), ?_⟩)
local macro_rules | `(tactic| walk_at "run") => `(tactic| repeat walk_at "st")

section
variable {P : Program} {w : World} {K : PySem.W.Frag} {mg : Str → Option Value} {base : Heap}
abbrev s_is_at_least : Stmt := topS 1
abbrev ns_is_at_least : List Str := ["value", "least"]
theorem sc_is_at_least : FnScope ns_is_at_least ["value", "least"] (defScope s_is_at_least) := ⟨rfl, rfl, rfl, by decide +kernel, rfl, by decide +kernel, by decide +kernel⟩

theorem ok_is_at_least {f : Addr} {fd : FuncData} (F : Fun K "is_at_least" "is_at_least" s_is_at_least f fd) (T : Txt mg) : FnOk P w K mg base CX0 1 f fd ["value", "least"] spGe := by
  refine F.ok sc_is_at_least (fun vs H Q E h => ?_) (fun cdv A outer s H vs Q E hr h => ?_)
  · obtain ⟨v, d, lo, rfl, _⟩ := h
    rfl
  · obtain ⟨v, d, lo, rfl, hd, k⟩ := h
    refine ⟨_, (pss_one (ps_ret (pe_and (pe_callB (kIsi K) (by rfl) T.b_isinstance (by decide +kernel) (pa_cons (pv 0) (pa_cons (pe_bltn (v := .ty "int") (by rfl) T.b_int (by decide +kernel) rfl) pa_nil))) (pe_and (pe_not (pe_callB (kIsi K) (by rfl) T.b_isinstance (by decide +kernel) (pa_cons (pv 0) (pa_cons (pe_bltn (v := .ty "bool") (by rfl) T.b_bool (by decide +kernel) rfl) pa_nil)))) (pe_one (pe_cmpR op_ge (pv 0) (pv 1) (nomark _))))))), ?_⟩
    refine ⟨_, rfl, _, _, _, _, _, rfl, .ty _, hd.ty, kit_ty (kitInt d), _, rfl, ?_⟩
    cases hd with
    | int i =>
      refine iteT ⟨_, rfl, _, _, _, _, _, rfl, .ty _, (Dt.int i).ty, kit_ty (kitBool (.int i)), _, rfl, _, rfl, iteT ?_⟩
      walk_at "run"
      exact k
    | bl b => exact iteT ⟨_, rfl, _, _, _, _, _, rfl, .ty _, (Dt.bl b).ty, kit_ty (kitBool (.bool b)), _, rfl, _, rfl, iteF k⟩
    | non => exact iteF k
    | str x => exact iteF k
    | lst a b => exact iteF k
    | tup a b => exact iteF k
abbrev s_is_between : Stmt := topS 2
abbrev ns_is_between : List Str := ["value", "least", "most"]
theorem sc_is_between : FnScope ns_is_between ["value", "least", "most"] (defScope s_is_between) := ⟨rfl, rfl, rfl, by decide +kernel, rfl, by decide +kernel, by decide +kernel⟩

theorem ok_is_between {f : Addr} {fd : FuncData} (F : Fun K "is_between" "is_between" s_is_between f fd) (T : Txt mg) (D_is_at_least : Dfn P w K mg base CX0 1 "is_at_least" ["value", "least"] spGe) : FnOk P w K mg base CX0 2 f fd ["value", "least", "most"] spBtw := by
  refine F.ok sc_is_between (fun vs H Q E h => ?_) (fun cdv A outer s H vs Q E hr h => ?_)
  · obtain ⟨v, d, lo, hi, rfl, _⟩ := h
    rfl
  · obtain ⟨v, d, lo, hi, rfl, hd, k⟩ := h
    refine ⟨_, (pss_one (ps_ret (pe_and (pe_dcall D_is_at_least (hr.mono (by decide)) (by rfl) pass0 (pa_cons (pv 0) (pa_cons (pv 1) pa_nil))) (pe_one (pe_cmpR op_le (pv 0) (pv 2) (nomark _)))))), ?_⟩
    refine ⟨_, rfl, _, rfl, _, d, _, rfl, hd, _, rfl, iteB (fun e => ?_) (fun e => ?_)⟩
    · cases hd with
      | int i =>
        walk_at "run"
        have e' : decide (lo ≤ i) = true := e
        have k' : Q (.bl (decide (lo ≤ i) && decide (i ≤ hi))) H := k
        rw [e', Bool.true_and] at k'
        exact k'
      | bl b => cases e
      | non => cases e
      | str x => cases e
      | lst a b => cases e
      | tup a b => cases e
    · have e2 : isI d lo hi = false := by
        cases d with
        | int i =>
          have e' : decide (lo ≤ i) = false := e
          show (decide (lo ≤ i) && decide (i ≤ hi)) = false
          rw [e', Bool.false_and]
        | _ => rfl
      rw [e2] at k
      exact k
abbrev s_is_index : Stmt := topS 3
abbrev ns_is_index : List Str := ["value", "many"]
theorem sc_is_index : FnScope ns_is_index ["value", "many"] (defScope s_is_index) := ⟨rfl, rfl, rfl, by decide +kernel, rfl, by decide +kernel, by decide +kernel⟩

theorem ok_is_index {f : Addr} {fd : FuncData} (F : Fun K "is_index" "is_index" s_is_index f fd) (T : Txt mg) (D_is_between : Dfn P w K mg base CX0 2 "is_between" ["value", "least", "most"] spBtw) : FnOk P w K mg base CX0 3 f fd ["value", "many"] spIdx := by
  refine F.ok sc_is_index (fun vs H Q E h => ?_) (fun cdv A outer s H vs Q E hr h => ?_)
  · obtain ⟨v, d, n, rfl, _⟩ := h
    rfl
  · obtain ⟨v, d, n, rfl, hd, k⟩ := h
    refine ⟨_, (pss_one (ps_ret (pe_dcall D_is_between (hr.mono (by decide)) (by rfl) pass0 (pa_cons (pv 0) (pa_cons pe_int (pa_cons (pe_op op_sub (pv 1) pe_int) pa_nil)))))), ?_⟩
    walk_at "run"
    exact ⟨_, d, _, _, rfl, hd, k⟩
abbrev s_is_word : Stmt := topS 6
abbrev ns_is_word : List Str := ["value"]
theorem sc_is_word : FnScope ns_is_word ["value"] (defScope s_is_word) := ⟨rfl, rfl, rfl, by decide +kernel, rfl, by decide +kernel, by decide +kernel⟩

theorem ok_is_word {f : Addr} {fd : FuncData} (F : Fun K "is_word" "is_word" s_is_word f fd) (T : Txt mg) (D_is_between : Dfn P w K mg base CX0 2 "is_between" ["value", "least", "most"] spBtw) : FnOk P w K mg base CX0 3 f fd ["value"] spWord := by
  refine F.ok sc_is_word (fun vs H Q E h => ?_) (fun cdv A outer s H vs Q E hr h => ?_)
  · obtain ⟨v, d, rfl, _⟩ := h
    rfl
  · obtain ⟨v, d, rfl, hd, k⟩ := h
    refine ⟨_, (pss_one (ps_ret (pe_dcall D_is_between (hr.mono (by decide)) (by rfl) pass0 (pa_cons (pv 0) (pa_cons pe_int (pa_cons (pe_gint (by rfl) T.c_TOP) pa_nil)))))), ?_⟩
    walk_at "run"
    exact ⟨_, d, _, _, rfl, hd, k⟩
end
end My

namespace My
open PySem L2
local macro_rules | `(tactic| walk_at "ne") => `(tactic| first | assumption | exact Ne.symm (by assumption) | exact ne_of_none (by assumption) (by assumption) | exact Ne.symm (ne_of_none (by assumption) (by assumption)))
local macro_rules | `(tactic| walk_at "hp") => `(tactic| first | assumption | with_reducible exact upd_same | (with_reducible refine Eq.trans (upd_ne ?_) ?_; rotate_left; walk_at "hp"; walk_at "ne"))
local macro_rules | `(tactic| walk_at "cnd") => `(tactic| first | omega | (show (0 : Int) < _; omega) | exact ⟨by omega, by omega⟩ | exact Or.inl ⟨by omega, by omega⟩ | exact Or.inr ⟨by omega, by omega⟩ | exact ⟨by omega, by omega, by decide⟩ | exact ⟨by omega, by omega, by omega⟩)
local macro_rules | `(tactic| walk_at "at") => `(tactic| first | exact atC 0 rfl rfl | exact atC 1 rfl rfl | exact atC 2 rfl rfl | exact atC 3 rfl rfl | exact atC 4 rfl rfl | exact atC 5 rfl rfl | exact atC 6 rfl rfl | exact atC 7 rfl rfl)
local macro_rules | `(tactic| walk_at "ix") => `(tactic| first | exact ixC 0 rfl (Nat.le_of_ble_eq_true rfl) | exact ixC 1 rfl (Nat.le_of_ble_eq_true rfl) | exact ixC 2 rfl (Nat.le_of_ble_eq_true rfl) | exact ixC 3 rfl (Nat.le_of_ble_eq_true rfl) | exact ixC 4 rfl (Nat.le_of_ble_eq_true rfl) | exact ixC 5 rfl (Nat.le_of_ble_eq_true rfl))
local macro_rules | `(tactic| walk_at "st") => `(tactic| first
  | refine ⟨_, rfl, ?_⟩
  | refine ⟨_, _, rfl, rfl, (by walk_at "cnd" : (_ : Prop)), ?_⟩
  | refine ⟨_, _, rfl, rfl, ?_⟩
  | refine ⟨rfl, ?_⟩
  | refine Or.inl ⟨_, rfl, ?_⟩
  | refine ⟨_, _, _, _, rfl, rfl, by exact SqL.of (by walk_at "hp"), by walk_at "at", ?_⟩
  | refine ⟨_, _, _, _, rfl, rfl, by exact SqT.of (by walk_at "hp"), by walk_at "at", ?_⟩
  | refine ⟨_, _, _, _, rfl, rfl, by walk_at "hp", by walk_at "ix", ?_⟩
  | refine ⟨_, _, rfl, Or.inl (by exact SqL.of (by walk_at "hp")), ?_⟩
  | refine ⟨_, _, rfl, Or.inr (by exact SqT.of (by walk_at "hp")), ?_⟩)
local macro_rules | `(tactic| walk_at "run") => `(tactic| repeat walk_at "st")

/-! ### packets and filters as data -/
def isPk : PyData → Bool
  | .tuple xs => decide (xs.length = 6) && xs.all fun d => isI d 0 4294967295
  | _ => false
def spPk : Sp := fun vs H Q _ => ∃ v d, vs = [v] ∧ Dt H v d ∧ (∀ ds, d = .tuple ds → ds.length ≤ 1000) ∧ ∀ H', Same H H' → Q (.bl (isPk d)) H'
def isTest : PyData → Bool
  | .tuple [a, .int m, .int v] => isI a 0 5 && isI (.int m) 0 4294967295 && isI (.int v) 0 4294967295 && decide (m ≠ 0) && decide (Builtin.bitAnd v m = v)
  | _ => false
def spTest : Sp := fun vs H Q _ => ∃ v d, vs = [v] ∧ Dt H v d ∧ Q (.bl (isTest d)) H
section
variable {P : Program} {w : World} {K : PySem.W.Frag} {mg : Str → Option Value} {base : Heap}
abbrev s_is_packet : Stmt := topS 9
abbrev ns_is_packet : List Str := ["value", "word"]
theorem sc_is_packet : FnScope ns_is_packet ["value"] (defScope s_is_packet) := ⟨rfl, rfl, rfl, by decide +kernel, rfl, by decide +kernel, by decide +kernel⟩

theorem ok_is_packet {f : Addr} {fd : FuncData} (F : Fun K "is_packet" "is_packet" s_is_packet f fd) (T : Txt mg) (D_is_word : Dfn P w K mg base CX0 3 "is_word" ["value"] spWord) : FnOk P w K mg base CX0 4 f fd ["value"] spPk := by
  refine F.ok sc_is_packet (fun vs H Q E h => ?_) (fun cdv A outer s H vs Q E hr h => ?_)
  · obtain ⟨v, d, rfl, _⟩ := h
    rfl
  · obtain ⟨v, d, rfl, hd, hz, k⟩ := h
    refine ⟨_, (pss_cons (ps_if (PW.pt (pw_or (pt_not (pt_val (pe_callB (kIsi K) (by rfl) T.b_isinstance (by decide +kernel) (pa_cons (pv 0) (pa_cons (pe_bltn (v := .ty "tuple") (by rfl) T.b_tuple (by decide +kernel) rfl) pa_nil))))) (pw_or1 (pt_cmpR op_ne (pe_callB (kLen K) (by rfl) T.b_len (by decide +kernel) (pa_cons (pv 0) pa_nil)) (pe_gint (by rfl) T.c_FIELDS) (nomark _))))) (pss_one (ps_ret pe_bl)) pss_nil)
  (pss_one (ps_ret (pe_callB (kAll K rfl) (by rfl) T.b_all (by decide +kernel) (pa_cons (pe_lc (own := [("word", 1)]) (by rfl) sc_is_packet.nd (kpiT K (pv 0)) (blkOk_by (N := ns_is_packet) (sc := defScope s_is_packet) (by decide +kernel)) (fun _ _ _ _ _ => (pg_name (i := 1) sc_is_packet.nd rfl (Or.inl rfl))) (fun _ _ _ _ _ => pts_nil) (fun _ _ _ _ _ => (pe_dcall D_is_word (hr.mono (by decide)) (by rfl) pass0 (pa_cons (pv 1) pa_nil)))) pa_nil))))), ?_⟩
    refine ⟨_, rfl, _, _, _, _, _, rfl, .ty _, hd.ty, kit_ty (kitTup d), _, rfl, ?_⟩
    cases hd with
    | @tup a xs ds ha hs =>
      have hlen := hs.len
      have hz' := hz ds rfl
      refine iteF ?_
      walk_at "run"
      refine iteDn (fun h1 => ?_) (fun h1 => ?_)
      · have e : isPk (.tuple ds) = false := by
          show (decide (ds.length = 6) && _) = false
          rw [decide_eq_false (by rw [← hlen]; intro q; exact h1 (by rw [q] <;> rfl)), Bool.false_and]
        rw [e] at k
        exact k H (Same.refl H)
      · have h6 : ds.length = 6 := by
          have q : ((xs.length : Nat) : Int) = 6 := by injection h1
          omega
        walk_at "run"
        refine ⟨⟨_, SqT.of ha⟩, fun D hD => ?_⟩
        refine lcT (xs := xs) ((ds.map fun d => isI d 0 4294967295).map V.bl) (by simp [hlen]) (by omega) ha hD ?_ ?_
        · intro j x y H1 Q' hx hy s1 q
          obtain ⟨d, hd1, hd2⟩ := hs.getV hx
          have ey : y = .bl (isI d 0 4294967295) := by
            rw [List.getElem?_map, List.getElem?_map, hd1] at hy
            exact (Option.some.inj hy).symm
          subst ey
          refine ⟨rfl, ?_⟩
          walk_at "run"
          exact ⟨_, d, rfl, hd2.same s1, q H1 (Same.refl _)⟩
        · intro H1 s1 d1
          refine ⟨_, _, rfl, SqL.of d1, ?_⟩
          have e : isPk (.tuple ds) = (ds.map fun d => isI d 0 4294967295).all id := by
            show (decide (ds.length = 6) && _) = _
            rw [h6]
            simp
          rw [e] at k
          exact k H1 s1
    | int i => exact iteT (k H (Same.refl H))
    | bl b => exact iteT (k H (Same.refl H))
    | non => exact iteT (k H (Same.refl H))
    | str x => exact iteT (k H (Same.refl H))
    | lst a b => exact iteT (k H (Same.refl H))
end
end My

namespace My
open PySem L2
local macro_rules | `(tactic| walk_at "ne") => `(tactic| first | assumption | exact Ne.symm (by assumption) | exact ne_of_none (by assumption) (by assumption) | exact Ne.symm (ne_of_none (by assumption) (by assumption)))
local macro_rules | `(tactic| walk_at "hp") => `(tactic| first | assumption | with_reducible exact upd_same | (with_reducible refine Eq.trans (upd_ne ?_) ?_; rotate_left; walk_at "hp"; walk_at "ne"))
local macro_rules | `(tactic| walk_at "cnd") => `(tactic| first | omega | (show (0 : Int) < _; omega) | exact ⟨by omega, by omega⟩ | exact Or.inl ⟨by omega, by omega⟩ | exact Or.inr ⟨by omega, by omega⟩ | exact ⟨by omega, by omega, by decide⟩ | exact ⟨by omega, by omega, by omega⟩)
local macro_rules | `(tactic| walk_at "at") => `(tactic| first | exact atC 0 rfl rfl | exact atC 1 rfl rfl | exact atC 2 rfl rfl | exact atC 3 rfl rfl | exact atC 4 rfl rfl | exact atC 5 rfl rfl | exact atC 6 rfl rfl | exact atC 7 rfl rfl)
local macro_rules | `(tactic| walk_at "ix") => `(tactic| first | exact ixC 0 rfl (Nat.le_of_ble_eq_true rfl) | exact ixC 1 rfl (Nat.le_of_ble_eq_true rfl) | exact ixC 2 rfl (Nat.le_of_ble_eq_true rfl) | exact ixC 3 rfl (Nat.le_of_ble_eq_true rfl) | exact ixC 4 rfl (Nat.le_of_ble_eq_true rfl) | exact ixC 5 rfl (Nat.le_of_ble_eq_true rfl))
local macro_rules | `(tactic| walk_at "st") => `(tactic| first
  | refine ⟨_, rfl, ?_⟩
  | refine ⟨_, _, rfl, rfl, (by walk_at "cnd" : (_ : Prop)), ?_⟩
  | refine ⟨_, _, rfl, rfl, ?_⟩
  | refine ⟨rfl, ?_⟩
  | refine Or.inl ⟨_, rfl, ?_⟩
  | refine ⟨_, _, _, _, rfl, rfl, by exact SqL.of (by walk_at "hp"), by walk_at "at", ?_⟩
  | refine ⟨_, _, _, _, rfl, rfl, by exact SqT.of (by walk_at "hp"), by walk_at "at", ?_⟩
  | refine ⟨_, _, _, _, rfl, rfl, by walk_at "hp", by walk_at "ix", ?_⟩
  | refine ⟨_, _, rfl, Or.inl (by exact SqL.of (by walk_at "hp")), ?_⟩
  | refine ⟨_, _, rfl, Or.inr (by exact SqT.of (by walk_at "hp")), ?_⟩)
local macro_rules | `(tactic| walk_at "run") => `(tactic| repeat walk_at "st")

def okVal : PyData → PyData → Bool
  | .int m, .int v => (!decide (m = 0)) && decide (Builtin.bitAnd v m = v)
  | _, _ => false
def isTst : PyData → Bool
  | .tuple [a, b, c] => isI a 0 5 && isI b 0 4294967295 && isI c 0 4294967295 && okVal b c
  | _ => false
def spTst : Sp := fun vs H Q _ => ∃ v d, vs = [v] ∧ Dt H v d ∧ Q (.bl (isTst d)) H
def idxD : PyData → Int
  | .tuple (.int i :: _) => i
  | _ => 0
def isFl : PyData → Bool
  | .tuple ds => decide (ds.length ≤ 6) && ds.all isTst && (List.range (ds.length - 1)).all fun i => decide (idxD (ds.getD i .none) < idxD (ds.getD (i + 1) .none))
  | _ => false
def spFl : Sp := fun vs H Q _ => ∃ v d, vs = [v] ∧ Dt H v d ∧ (∀ ds, d = .tuple ds → ds.length ≤ 1000) ∧ ∀ H', Same H H' → Q (.bl (isFl d)) H'
theorem isI_int {d : PyData} {lo hi : Int} (h : isI d lo hi = true) : ∃ i, d = .int i ∧ lo ≤ i ∧ i ≤ hi := by
  cases d with
  | int i =>
    have h' : (decide (lo ≤ i) && decide (i ≤ hi)) = true := h
    rw [Bool.and_eq_true, decide_eq_true_eq, decide_eq_true_eq] at h'
    exact ⟨i, rfl, h'.1, h'.2⟩
  | _ => cases h
section
variable {P : Program} {w : World} {K : PySem.W.Frag} {mg : Str → Option Value} {base : Heap}
abbrev s_is_test : Stmt := topS 11
abbrev ns_is_test : List Str := ["value", "index", "mask", "wanted"]
theorem sc_is_test : FnScope ns_is_test ["value"] (defScope s_is_test) := ⟨rfl, rfl, rfl, by decide +kernel, rfl, by decide +kernel, by decide +kernel⟩

theorem ok_is_test {f : Addr} {fd : FuncData} (F : Fun K "_is_test" "_is_test" s_is_test f fd) (T : Txt mg) (D_is_word : Dfn P w K mg base CX0 3 "is_word" ["value"] spWord) (D_is_index : Dfn P w K mg base CX0 3 "is_index" ["value", "many"] spIdx) : FnOk P w K mg base CX0 4 f fd ["value"] spTst := by
  refine F.ok sc_is_test (fun vs H Q E h => ?_) (fun cdv A outer s H vs Q E hr h => ?_)
  · obtain ⟨v, d, rfl, _⟩ := h
    rfl
  · obtain ⟨v, d, rfl, hd, k⟩ := h
    refine ⟨_, (pss_cons (ps_if (PW.pt (pw_or (pt_not (pt_val (pe_callB (kIsi K) (by rfl) T.b_isinstance (by decide +kernel) (pa_cons (pv 0) (pa_cons (pe_bltn (v := .ty "tuple") (by rfl) T.b_tuple (by decide +kernel) rfl) pa_nil))))) (pw_or1 (pt_cmpR op_ne (pe_callB (kLen K) (by rfl) T.b_len (by decide +kernel) (pa_cons (pv 0) pa_nil)) pe_int (nomark _))))) (pss_one (ps_ret pe_bl)) pss_nil)
  (pss_cons (ps_asg (pv 0) (kpgT K (n := 3) (by rfl) (pgs_cons (pg_name (i := 1) sc_is_test.nd rfl (Or.inl rfl)) (pgs_cons (pg_name (i := 2) sc_is_test.nd rfl (Or.inl rfl)) (pgs_cons (pg_name (i := 3) sc_is_test.nd rfl (Or.inl rfl)) pgs_nil)))))
  (pss_cons (ps_if (PW.pt (pw_or (pt_not (pt_val (pe_dcall D_is_index (hr.mono (by decide)) (by rfl) pass0 (pa_cons (pv 1) (pa_cons (pe_gint (by rfl) T.c_FIELDS) pa_nil))))) (pw_or (pt_not (pt_val (pe_dcall D_is_word (hr.mono (by decide)) (by rfl) pass0 (pa_cons (pv 2) pa_nil)))) (pw_or1 (pt_not (pt_val (pe_dcall D_is_word (hr.mono (by decide)) (by rfl) pass0 (pa_cons (pv 3) pa_nil)))))))) (pss_one (ps_ret pe_bl)) pss_nil)
  (pss_one (ps_ret (pe_and (pe_cmpR op_ne (pv 2) pe_int (nomark _)) (pe_one (pe_cmpR op_eq (pe_op op_and (pv 3) (pv 2)) (pv 3) (nomark _))))))))), ?_⟩
    refine ⟨_, rfl, _, _, _, _, _, rfl, .ty _, hd.ty, kit_ty (kitTup d), _, rfl, ?_⟩
    cases hd with
    | @tup a xs ds ha hs =>
      have hlen := hs.len
      refine iteF ?_
      walk_at "run"
      refine iteDn (fun h1 => ?_) (fun h1 => ?_)
      · have e : isTst (.tuple ds) = false := by
          match ds, hlen with
          | [], _ => rfl
          | [_], _ => rfl
          | [_, _], _ => rfl
          | [x, y, z], hl => exact absurd (by rw [hl] <;> rfl) h1
          | _ :: _ :: _ :: _ :: _, _ => rfl
        rw [e] at k
        exact k
      · have h3 : ds.length = 3 := by
          have q : ((xs.length : Nat) : Int) = 3 := by injection h1
          omega
        match ds, h3, hs, k with
        | [d1, d2, d3], _, hs, k =>
          cases hs with
          | cons b1 hs => cases hs with
            | cons b2 hs => cases hs with
              | cons b3 hs =>
                cases hs
                walk_at "run"
                refine ⟨_, _, rfl, SqT.of ha, rfl, _, _, rfl, _, _, rfl, _, _, rfl, rfl, ?_⟩
                walk_at "run"
                refine ⟨_, d1, _, rfl, b1, _, rfl, ?_⟩
                cases e1 : isI d1 0 (6 - 1) with
                | false =>
                  have e : isTst (.tuple [d1, d2, d3]) = false := by
                    show (isI d1 0 5 && _ && _ && _) = false
                    rw [show isI d1 0 5 = false from e1]; rfl
                  rw [e] at k
                  exact iteT (iteT k)
                | true =>
                  refine iteF ?_
                  refine ⟨_, rfl, _, d2, rfl, b2, _, rfl, ?_⟩
                  cases e2 : isI d2 0 4294967295 with
                  | false =>
                    have e : isTst (.tuple [d1, d2, d3]) = false := by
                      show (isI d1 0 5 && isI d2 0 4294967295 && _ && _) = false
                      rw [e2]; cases isI d1 0 5 <;> rfl
                    rw [e] at k
                    exact iteT (iteT k)
                  | true =>
                    refine iteF ?_
                    refine ⟨_, rfl, _, d3, rfl, b3, _, rfl, ?_⟩
                    cases e3 : isI d3 0 4294967295 with
                    | false =>
                      have e : isTst (.tuple [d1, d2, d3]) = false := by
                        show (isI d1 0 5 && isI d2 0 4294967295 && isI d3 0 4294967295 && _) = false
                        rw [e2, e3]; cases isI d1 0 5 <;> rfl
                      rw [e] at k
                      exact iteT k
                    | true =>
                      refine iteF ?_
                      have e : isTst (.tuple [d1, d2, d3]) = okVal d2 d3 := by
                        show (isI d1 0 5 && isI d2 0 4294967295 && isI d3 0 4294967295 && _) = _
                        rw [e2, e3, show isI d1 0 5 = true from e1]; rfl
                      rw [e] at k
                      obtain ⟨m, rfl, _, _⟩ := isI_int e2
                      obtain ⟨v, rfl, _, _⟩ := isI_int e3
                      cases b2
                      cases b3
                      have k' : Q (.bl ((!decide (m = 0)) && decide (Builtin.bitAnd v m = v))) H := k
                      walk_at "run"
                      refine iteDn (fun h0 => ?_) (fun h0 => ?_)
                      · walk_at "run"
                        rw [decide_eq_false (fun q => h0 (by rw [q]))] at k'
                        have eV : decide (V.int (Builtin.bitAnd v m) = V.int v) = decide (Builtin.bitAnd v m = v) := by simp
                        show Q (.bl (decide (V.int (Builtin.bitAnd v m) = V.int v))) H
                        rw [eV]
                        exact k'
                      · rw [decide_eq_true (by injection h0)] at k'
                        exact k'
    | int i => exact iteT (iteT k)
    | bl b => exact iteT (iteT k)
    | non => exact iteT (iteT k)
    | str x => exact iteT (iteT k)
    | lst a b => exact iteT (iteT k)
end
end My

namespace My
open PySem L2
local macro_rules | `(tactic| walk_at "ne") => `(tactic| first | assumption | exact Ne.symm (by assumption) | exact ne_of_none (by assumption) (by assumption) | exact Ne.symm (ne_of_none (by assumption) (by assumption)))
local macro_rules | `(tactic| walk_at "hp") => `(tactic| first | assumption | with_reducible exact upd_same | (with_reducible refine Eq.trans (upd_ne ?_) ?_; rotate_left; walk_at "hp"; walk_at "ne"))
local macro_rules | `(tactic| walk_at "cnd") => `(tactic| first | omega | (show (0 : Int) < _; omega) | exact ⟨by omega, by omega⟩ | exact Or.inl ⟨by omega, by omega⟩ | exact Or.inr ⟨by omega, by omega⟩ | exact ⟨by omega, by omega, by decide⟩ | exact ⟨by omega, by omega, by omega⟩)
local macro_rules | `(tactic| walk_at "at") => `(tactic| first | exact atC 0 rfl rfl | exact atC 1 rfl rfl | exact atC 2 rfl rfl | exact atC 3 rfl rfl | exact atC 4 rfl rfl | exact atC 5 rfl rfl | exact atC 6 rfl rfl | exact atC 7 rfl rfl)
local macro_rules | `(tactic| walk_at "ix") => `(tactic| first | exact ixC 0 rfl (Nat.le_of_ble_eq_true rfl) | exact ixC 1 rfl (Nat.le_of_ble_eq_true rfl) | exact ixC 2 rfl (Nat.le_of_ble_eq_true rfl) | exact ixC 3 rfl (Nat.le_of_ble_eq_true rfl) | exact ixC 4 rfl (Nat.le_of_ble_eq_true rfl) | exact ixC 5 rfl (Nat.le_of_ble_eq_true rfl))
local macro_rules | `(tactic| walk_at "st") => `(tactic| first
  | refine ⟨_, rfl, ?_⟩
  | refine ⟨_, _, rfl, rfl, (by walk_at "cnd" : (_ : Prop)), ?_⟩
  | refine ⟨_, _, rfl, rfl, ?_⟩
  | refine ⟨rfl, ?_⟩
  | refine Or.inl ⟨_, rfl, ?_⟩
  | refine ⟨_, _, _, _, rfl, rfl, by exact SqL.of (by walk_at "hp"), by walk_at "at", ?_⟩
  | refine ⟨_, _, _, _, rfl, rfl, by exact SqT.of (by walk_at "hp"), by walk_at "at", ?_⟩
  | refine ⟨_, _, _, _, rfl, rfl, by walk_at "hp", by walk_at "ix", ?_⟩
  | refine ⟨_, _, rfl, Or.inl (by exact SqL.of (by walk_at "hp")), ?_⟩
  | refine ⟨_, _, rfl, Or.inr (by exact SqT.of (by walk_at "hp")), ?_⟩)
local macro_rules | `(tactic| walk_at "run") => `(tactic| repeat walk_at "st")

theorem isTst_form {d : PyData} (h : isTst d = true) : ∃ i m v, d = .tuple [.int i, .int m, .int v] ∧ 0 ≤ i ∧ i ≤ 5 ∧ 0 ≤ m ∧ m ≤ 4294967295 ∧ 0 ≤ v ∧ v ≤ 4294967295 ∧ m ≠ 0 ∧ Builtin.bitAnd v m = v := by
  match d, h with
  | .tuple [a, b, c], h =>
    have h' : (isI a 0 5 && isI b 0 4294967295 && isI c 0 4294967295 && okVal b c) = true := h
    rw [Bool.and_eq_true, Bool.and_eq_true, Bool.and_eq_true] at h'
    obtain ⟨⟨⟨h1, h2⟩, h3⟩, h4⟩ := h'
    obtain ⟨i, rfl, a1, a2⟩ := isI_int h1
    obtain ⟨m, rfl, b1, b2⟩ := isI_int h2
    obtain ⟨v, rfl, c1, c2⟩ := isI_int h3
    have h4' : ((!decide (m = 0)) && decide (Builtin.bitAnd v m = v)) = true := h4
    rw [Bool.and_eq_true, decide_eq_true_eq] at h4'
    exact ⟨i, m, v, rfl, a1, a2, b1, b2, c1, c2, by simpa using h4'.1, h4'.2⟩
section
variable {P : Program} {w : World} {K : PySem.W.Frag} {mg : Str → Option Value} {base : Heap}
abbrev s_is_filter : Stmt := topS 10
abbrev ns_is_filter : List Str := ["value", "test", "at"]
theorem sc_is_filter : FnScope ns_is_filter ["value"] (defScope s_is_filter) := ⟨rfl, rfl, rfl, by decide +kernel, rfl, by decide +kernel, by decide +kernel⟩

theorem ok_is_filter {f : Addr} {fd : FuncData} (F : Fun K "is_filter" "is_filter" s_is_filter f fd) (T : Txt mg) (D_is_test : Dfn P w K mg base CX0 4 "_is_test" ["value"] spTst) : FnOk P w K mg base CX0 5 f fd ["value"] spFl := by
  refine F.ok sc_is_filter (fun vs H Q E h => ?_) (fun cdv A outer s H vs Q E hr h => ?_)
  · obtain ⟨v, d, rfl, _⟩ := h
    rfl
  · obtain ⟨v, d, rfl, hd, hz, k⟩ := h
    refine ⟨_, (pss_cons (ps_if (PW.pt (pw_or (pt_not (pt_val (pe_callB (kIsi K) (by rfl) T.b_isinstance (by decide +kernel) (pa_cons (pv 0) (pa_cons (pe_bltn (v := .ty "tuple") (by rfl) T.b_tuple (by decide +kernel) rfl) pa_nil))))) (pw_or1 (pt_cmpR op_gt (pe_callB (kLen K) (by rfl) T.b_len (by decide +kernel) (pa_cons (pv 0) pa_nil)) (pe_gint (by rfl) T.c_FIELDS) (nomark _))))) (pss_one (ps_ret pe_bl)) pss_nil)
  (pss_cons (ps_if (pt_not (pt_val (pe_callB (kAll K rfl) (by rfl) T.b_all (by decide +kernel) (pa_cons (pe_lc (own := [("test", 1)]) (by rfl) sc_is_filter.nd (kpiT K (pv 0)) (blkOk_by (N := ns_is_filter) (sc := defScope s_is_filter) (by decide +kernel)) (fun _ _ _ _ _ => (pg_name (i := 1) sc_is_filter.nd rfl (Or.inl rfl))) (fun _ _ _ _ _ => pts_nil) (fun _ _ _ _ _ => (pe_dcall D_is_test (hr.mono (by decide)) (by rfl) pass0 (pa_cons (pv 1) pa_nil)))) pa_nil)))) (pss_one (ps_ret pe_bl)) pss_nil)
  (pss_one (ps_ret (pe_callB (kAll K rfl) (by rfl) T.b_all (by decide +kernel) (pa_cons (pe_lc (own := [("at", 2)]) (by rfl) sc_is_filter.nd (pi_range1 (by rfl) T.b_range (pa_cons (pe_op op_sub (pe_callB (kLen K) (by rfl) T.b_len (by decide +kernel) (pa_cons (pv 0) pa_nil)) pe_int) pa_nil)) (blkOk_by (N := ns_is_filter) (sc := defScope s_is_filter) (by decide +kernel)) (fun _ _ _ _ _ => (pg_name (i := 2) sc_is_filter.nd rfl (Or.inl rfl))) (fun _ _ _ _ _ => pts_nil) (fun _ _ _ _ _ => (pe_cmpR op_lt (pe_ix (kIxT K) (pe_ix (kIxT K) (pv 0) (pv 2) (fun _ _ => rfl)) pe_int (fun _ _ => rfl)) (pe_ix (kIxT K) (pe_ix (kIxT K) (pv 0) (pe_op op_add (pv 2) pe_int) (fun _ _ => rfl)) pe_int (fun _ _ => rfl)) (nomark _)))) pa_nil)))))), ?_⟩
    refine ⟨_, rfl, _, _, _, _, _, rfl, .ty _, hd.ty, kit_ty (kitTup d), _, rfl, ?_⟩
    cases hd with
    | @tup a xs ds ha hs =>
      have hlen := hs.len
      have hz' := hz ds rfl
      refine iteF ?_
      walk_at "run"
      refine iteD (fun h1 => ?_) (fun h1 => ?_)
      · have e : isFl (.tuple ds) = false := by
          show (decide (ds.length ≤ 6) && _ && _) = false
          rw [decide_eq_false (by omega)]; rfl
        rw [e] at k
        exact k H (Same.refl H)
      · have h6 : ds.length ≤ 6 := by omega
        walk_at "run"
        refine ⟨⟨_, SqT.of ha⟩, fun D hD => ?_⟩
        refine lcT (xs := xs) ((ds.map isTst).map V.bl) (by simp [hlen]) (by omega) ha hD ?_ ?_
        · intro j x y H1 Q' hx hy s1 q
          obtain ⟨d, hd1, hd2⟩ := hs.getV hx
          have ey : y = .bl (isTst d) := by
            rw [List.getElem?_map, List.getElem?_map, hd1] at hy
            exact (Option.some.inj hy).symm
          subst ey
          refine ⟨rfl, ?_⟩
          walk_at "run"
          exact ⟨_, d, rfl, hd2.same s1, q H1 (Same.refl _)⟩
        · intro H1 s1 d1
          refine ⟨_, _, rfl, SqL.of d1, _, rfl, ?_⟩
          cases e1 : (ds.map isTst).all id with
          | false =>
            have e : isFl (.tuple ds) = false := by
              show (decide (ds.length ≤ 6) && ds.all isTst && _) = false
              rw [show ds.all isTst = (ds.map isTst).all id by simp, e1]
              cases decide (ds.length ≤ 6) <;> rfl
            rw [e] at k
            exact iteT (k H1 s1)
          | true =>
            refine iteF ?_
            have hall : ∀ d ∈ ds, isTst d = true := by
              intro d hd
              rw [List.all_map] at e1
              exact List.all_eq_true.mp e1 d hd
            have ha1 := s1 _ _ ha
            have hs1 := hs.same s1
            walk_at "run"
            refine ⟨by omega, by omega, fun D2 hD2 => ?_⟩
            have en : ((xs.length : Int) - 1).toNat = ds.length - 1 := by omega
            rw [en]
            have get : ∀ i : Nat, i < ds.length → ∃ t i1 m v, xs[i]? = some (.ref t) ∧ H1 t = some (.tup [.int i1, .int m, .int v]) ∧ idxD (ds.getD i .none) = i1 := by
              intro i hi
              have hdi : ds[i]? = some ds[i] := List.getElem?_eq_getElem hi
              obtain ⟨x, hx, hxd⟩ := hs1.get hdi
              obtain ⟨i1, m, v, e, _⟩ := isTst_form (hall _ (List.getElem_mem hi))
              rw [e] at hxd
              cases hxd with
              | tup ht hts =>
                cases hts with
                | cons c1 hts => cases hts with
                  | cons c2 hts => cases hts with
                    | cons c3 hts =>
                      cases hts; cases c1; cases c2; cases c3
                      refine ⟨_, i1, m, v, hx, ht, ?_⟩
                      rw [List.getD_eq_getElem?_getD, hdi, e]; rfl
            refine lcR (((List.range (ds.length - 1)).map fun i => decide (idxD (ds.getD i .none) < idxD (ds.getD (i + 1) .none))).map V.bl) (by simp) (by omega) hD2 ?_ ?_
            · intro j y H2 Q' hy s2 q
              have hj : j < ds.length - 1 := by
                have := (List.getElem?_eq_some_iff.mp hy).1
                simpa using this
              have ey : y = .bl (decide (idxD (ds.getD j .none) < idxD (ds.getD (j + 1) .none))) := by
                rw [List.getElem?_map, List.getElem?_map, List.getElem?_range hj] at hy
                exact (Option.some.inj hy).symm
              subst ey
              refine ⟨rfl, ?_⟩
              obtain ⟨t1, a1, m1, v1, x1, ht1, g1⟩ := get j (by omega)
              obtain ⟨t2, a2, m2, v2, x2, ht2, g2⟩ := get (j + 1) (by omega)
              rw [g1, g2] at q
              have ha2 := s2 _ _ ha1
              have ht1' := s2 _ _ ht1
              have ht2' := s2 _ _ ht2
              refine ⟨_, rfl, _, rfl, _, _, _, _, rfl, rfl, SqT.of ha2, atC j (by omega) x1, ?_⟩
              refine ⟨_, _, _, _, rfl, rfl, SqT.of ht1', atC 0 rfl rfl, ?_⟩
              refine ⟨_, rfl, _, rfl, _, _, rfl, rfl, _, _, _, _, rfl, rfl, SqT.of ha2, atC (j + 1) (by omega) x2, ?_⟩
              refine ⟨_, _, _, _, rfl, rfl, SqT.of ht2', atC 0 rfl rfl, _, _, rfl, rfl, ?_⟩
              exact q H2 (Same.refl _)
            · intro H2 s2 d2
              refine ⟨_, _, rfl, SqL.of d2, ?_⟩
              have e : isFl (.tuple ds) = ((List.range (ds.length - 1)).map fun i => decide (idxD (ds.getD i .none) < idxD (ds.getD (i + 1) .none))).all id := by
                show (decide (ds.length ≤ 6) && ds.all isTst && _) = _
                rw [show ds.all isTst = (ds.map isTst).all id by simp, e1, decide_eq_true h6]
                simp
              rw [e] at k
              exact k H2 (s1.trans s2)
    | int i => exact iteT (k H (Same.refl H))
    | bl b => exact iteT (k H (Same.refl H))
    | non => exact iteT (k H (Same.refl H))
    | str x => exact iteT (k H (Same.refl H))
    | lst a b => exact iteT (k H (Same.refl H))
end
end My

namespace My
open PySem L2
local macro_rules | `(tactic| walk_at "ne") => `(tactic| first | assumption | exact Ne.symm (by assumption) | exact ne_of_none (by assumption) (by assumption) | exact Ne.symm (ne_of_none (by assumption) (by assumption)))
local macro_rules | `(tactic| walk_at "hp") => `(tactic| first | assumption | with_reducible exact upd_same | (with_reducible refine Eq.trans (upd_ne ?_) ?_; rotate_left; walk_at "hp"; walk_at "ne"))
local macro_rules | `(tactic| walk_at "cnd") => `(tactic| first | omega | (show (0 : Int) < _; omega) | exact ⟨by omega, by omega⟩ | exact Or.inl ⟨by omega, by omega⟩ | exact Or.inr ⟨by omega, by omega⟩ | exact ⟨by omega, by omega, by decide⟩ | exact ⟨by omega, by omega, by omega⟩)
local macro_rules | `(tactic| walk_at "at") => `(tactic| first | exact atC 0 rfl rfl | exact atC 1 rfl rfl | exact atC 2 rfl rfl | exact atC 3 rfl rfl | exact atC 4 rfl rfl | exact atC 5 rfl rfl | exact atC 6 rfl rfl | exact atC 7 rfl rfl)
local macro_rules | `(tactic| walk_at "ix") => `(tactic| first | exact ixC 0 rfl (Nat.le_of_ble_eq_true rfl) | exact ixC 1 rfl (Nat.le_of_ble_eq_true rfl) | exact ixC 2 rfl (Nat.le_of_ble_eq_true rfl) | exact ixC 3 rfl (Nat.le_of_ble_eq_true rfl) | exact ixC 4 rfl (Nat.le_of_ble_eq_true rfl) | exact ixC 5 rfl (Nat.le_of_ble_eq_true rfl))
local macro_rules | `(tactic| walk_at "st") => `(tactic| first
  | refine ⟨_, rfl, ?_⟩
  | refine ⟨_, _, rfl, rfl, (by walk_at "cnd" : (_ : Prop)), ?_⟩
  | refine ⟨_, _, rfl, rfl, ?_⟩
  | refine ⟨rfl, ?_⟩
  | refine Or.inl ⟨_, rfl, ?_⟩
  | refine ⟨_, _, _, _, rfl, rfl, by exact SqL.of (by walk_at "hp"), by walk_at "at", ?_⟩
  | refine ⟨_, _, _, _, rfl, rfl, by exact SqT.of (by walk_at "hp"), by walk_at "at", ?_⟩
  | refine ⟨_, _, _, _, rfl, rfl, by walk_at "hp", by walk_at "ix", ?_⟩
  | refine ⟨_, _, rfl, Or.inl (by exact SqL.of (by walk_at "hp")), ?_⟩
  | refine ⟨_, _, rfl, Or.inr (by exact SqT.of (by walk_at "hp")), ?_⟩)
local macro_rules | `(tactic| walk_at "run") => `(tactic| repeat walk_at "st")

abbrev Row3 := Nat × Nat × Nat
def vN (n : Nat) : V := .int (n : Int)
def rowV (r : Row3) : List V := [.int r.1, .int r.2.1, .int r.2.2]
def rowD (r : Row3) : PyData := .tuple [.int r.1, .int r.2.1, .int r.2.2]
def fD (rows : List Row3) : PyData := .tuple (rows.map rowD)
def pD (ws : List Nat) : PyData := .tuple (ws.map fun n : Nat => PyData.int (n : Int))
theorem fD_open {H : Hp} {v : V} {rows : List Row3} (h : Dt H v (fD rows)) : ∃ (a : Addr) (xs : List V), v = .ref a ∧ H a = some (.tup xs) ∧ xs.length = rows.length ∧
    ∀ (i : Nat) (x : V), xs[i]? = some x → ∃ (r : Row3) (t : Addr), rows[i]? = some r ∧ x = .ref t ∧ H t = some (.tup (rowV r)) := by
  unfold fD at h
  cases h with
  | @tup a xs ds ha hs =>
    refine ⟨a, xs, rfl, ha, by rw [hs.len, List.length_map], fun i x hx => ?_⟩
    obtain ⟨d, hd, hD⟩ := hs.getV hx
    rw [List.getElem?_map] at hd
    cases e : rows[i]? with
    | none => rw [e] at hd; cases hd
    | some r =>
      rw [e] at hd
      have e2 : rowD r = d := Option.some.inj hd
      subst e2
      unfold rowD at hD
      cases hD with
      | tup ht hts =>
        cases hts with
        | cons c1 hts => cases hts with
          | cons c2 hts => cases hts with
            | cons c3 hts =>
              cases hts; cases c1; cases c2; cases c3
              exact ⟨r, _, rfl, rfl, ht⟩
theorem ints_open {H : Hp} : ∀ {ws : List Nat} {xs : List V}, DtAll H xs (ws.map fun n : Nat => PyData.int (n : Int)) → xs = ws.map vN
  | [], _, h => by cases h; rfl
  | w :: ws, _, h => by
    cases h with
    | cons h1 h2 =>
      cases h1
      rw [ints_open h2]; rfl
theorem pD_open {H : Hp} {v : V} {ws : List Nat} (h : Dt H v (pD ws)) : ∃ (a : Addr), v = .ref a ∧ H a = some (.tup (ws.map vN)) := by
  unfold pD at h
  cases h with
  | tup ha hs => exact ⟨_, rfl, by rw [ha, ints_open hs]⟩
theorem ints_mk {H : Hp} : ∀ {ws : List Nat}, DtAll H (ws.map vN) (ws.map fun n : Nat => PyData.int (n : Int))
  | [] => .nil
  | w :: ws => .cons (.int _) ints_mk
theorem pD_mk {H : Hp} {a : Addr} {ws : List Nat} (h : H a = some (.tup (ws.map vN))) : Dt H (.ref a) (pD ws) := .tup h ints_mk
theorem rows_tonly : ∀ (rows : List Row3), tonlyAll (rows.map rowD) = true
  | [] => rfl
  | r :: rs => by
    show (tonly (rowD r) && tonlyAll (rs.map rowD)) = true
    rw [rows_tonly rs]; rfl
theorem fD_tonly (rows : List Row3) : tonly (fD rows) = true := by
  show tonlyAll (rows.map rowD) = true
  exact rows_tonly rows
theorem ints_tonly : ∀ (ws : List Nat), tonlyAll (ws.map fun n : Nat => PyData.int (n : Int)) = true
  | [] => rfl
  | w :: ws => by
    show (true && tonlyAll (ws.map fun n : Nat => PyData.int (n : Int))) = true
    rw [ints_tonly ws]; rfl
theorem pD_tonly (ws : List Nat) : tonly (pD ws) = true := by
  show tonlyAll _ = true
  exact ints_tonly ws
theorem bitAnd_nat (a b : Nat) : Builtin.bitAnd (a : Int) (b : Int) = ((a &&& b : Nat) : Int) := by
  rw [PyProof.Rows.bitAnd_pp (Int.natCast_nonneg a) (Int.natCast_nonneg b), Int.toNat_natCast, Int.toNat_natCast]
theorem bitOr_nat (a b : Nat) : Builtin.bitOr (a : Int) (b : Int) = ((a ||| b : Nat) : Int) := by
  rw [Bits.bitOr_pp (Int.natCast_nonneg a) (Int.natCast_nonneg b), Int.toNat_natCast, Int.toNat_natCast]
theorem bitXor_nat (a b : Nat) : Builtin.bitXor (a : Int) (b : Int) = ((a ^^^ b : Nat) : Int) := by
  rw [Bits.bitXor_pp (Int.natCast_nonneg a) (Int.natCast_nonneg b), Int.toNat_natCast, Int.toNat_natCast]
theorem dec_int (a b : Int) : decide (V.int a = V.int b) = decide (a = b) := by simp
theorem dec_nat (a b : Nat) : decide (V.int (a : Int) = V.int (b : Int)) = decide (a = b) := by
  rw [dec_int]
  by_cases h : a = b
  · subst h; simp
  · rw [decide_eq_false h, decide_eq_false (by omega)]
theorem getVN {ws : List Nat} {i : Nat} (h : i < ws.length) : (ws.map vN)[i]? = some (.int (ws.getD i 0 : Nat)) := by
  rw [List.getElem?_map, List.getElem?_eq_getElem h, List.getD_eq_getElem?_getD, List.getElem?_eq_getElem h]; rfl
def meetsM (rows : List Row3) (ws : List Nat) : Bool := rows.all fun r => decide (ws.getD r.1 0 &&& r.2.1 = r.2.2)
def spMeets : Sp := fun vs H Q _ => ∃ t p rows ws, vs = [t, p] ∧ Dt H t (fD rows) ∧ Dt H p (pD ws) ∧ ws.length = 6 ∧ (∀ r ∈ rows, r.1 < 6) ∧ rows.length ≤ 1000 ∧ ∀ H', Same H H' → Q (.bl (meetsM rows ws)) H'
section
variable {P : Program} {w : World} {K : PySem.W.Frag} {mg : Str → Option Value} {base : Heap}
abbrev s_meets : Stmt := topS 12
abbrev ns_meets : List Str := ["tests", "packet", "index", "mask", "value"]
theorem sc_meets : FnScope ns_meets ["tests", "packet"] (defScope s_meets) := ⟨rfl, rfl, rfl, by decide +kernel, rfl, by decide +kernel, by decide +kernel⟩

theorem ok_meets {f : Addr} {fd : FuncData} (F : Fun K "meets" "meets" s_meets f fd) (T : Txt mg) : FnOk P w K mg base CX0 1 f fd ["tests", "packet"] spMeets := by
  refine F.ok sc_meets (fun vs H Q E h => ?_) (fun cdv A outer s H vs Q E hr h => ?_)
  · obtain ⟨t, p, rows, ws, rfl, _⟩ := h
    rfl
  · obtain ⟨t, p, rows, ws, rfl, ht, hp, h6, hi, hz, k⟩ := h
    obtain ⟨a, xs, rfl, ha, hl, hx⟩ := fD_open ht
    obtain ⟨b, rfl, hb⟩ := pD_open hp
    refine ⟨_, (pss_one (ps_ret (pe_callB (kAll K rfl) (by rfl) T.b_all (by decide +kernel) (pa_cons (pe_lc (own := [("index", 2), ("mask", 3), ("value", 4)]) (by rfl) sc_meets.nd (kpiT K (pv 0)) (blkOk_by (N := ns_meets) (sc := defScope s_meets) (by decide +kernel)) (fun _ _ _ _ _ => (kpgT K (n := 3) (by rfl) (pgs_cons (pg_name (i := 2) sc_meets.nd rfl (Or.inl rfl)) (pgs_cons (pg_name (i := 3) sc_meets.nd rfl (Or.inl rfl)) (pgs_cons (pg_name (i := 4) sc_meets.nd rfl (Or.inl rfl)) pgs_nil))))) (fun _ _ _ _ _ => pts_nil) (fun _ _ _ _ _ => (pe_cmpR op_eq (pe_op op_and (pe_ix (kIxT K) (pv 1) (pv 2) (fun _ _ => rfl)) (pv 3)) (pv 4) (nomark _)))) pa_nil)))), ?_⟩
    walk_at "run"
    refine ⟨⟨_, SqT.of ha⟩, fun D hD => ?_⟩
    refine lcT (xs := xs) ((rows.map fun r => decide (ws.getD r.1 0 &&& r.2.1 = r.2.2)).map V.bl) (by simp [hl]) (by omega) ha hD ?_ ?_
    · intro j x y H1 Q' hj hy s1 q
      obtain ⟨r, t, hr1, rfl, hrt⟩ := hx j x hj
      have ey : y = .bl (decide (ws.getD r.1 0 &&& r.2.1 = r.2.2)) := by
        rw [List.getElem?_map, List.getElem?_map, hr1] at hy
        exact (Option.some.inj hy).symm
      subst ey
      have hir := hi r (List.mem_of_getElem? hr1)
      refine ⟨t, _, rfl, SqT.of (s1 _ _ hrt), rfl, _, _, rfl, _, _, rfl, _, _, rfl, rfl, rfl, ?_⟩
      refine ⟨_, rfl, _, rfl, _, _, _, _, rfl, rfl, SqT.of (s1 _ _ hb), atC r.1 rfl (getVN (by omega)), ?_⟩
      walk_at "run"
      show Q' (V.bl (decide (V.int (Builtin.bitAnd (ws.getD r.1 0 : Nat) (r.2.1 : Nat)) = V.int (r.2.2 : Nat)))) H1
      rw [bitAnd_nat, dec_nat]
      exact q H1 (Same.refl _)
    · intro H1 s1 d1
      refine ⟨_, _, rfl, SqL.of d1, ?_⟩
      have e : meetsM rows ws = (rows.map fun r => decide (ws.getD r.1 0 &&& r.2.1 = r.2.2)).all id := by
        show rows.all _ = _
        simp
      rw [e] at k
      exact k H1 s1
end
end My

namespace My
open PySem L2
local macro_rules | `(tactic| walk_at "ne") => `(tactic| first | assumption | exact Ne.symm (by assumption) | exact ne_of_none (by assumption) (by assumption) | exact Ne.symm (ne_of_none (by assumption) (by assumption)))
local macro_rules | `(tactic| walk_at "hp") => `(tactic| first | assumption | with_reducible exact upd_same | (with_reducible refine Eq.trans (upd_ne ?_) ?_; rotate_left; walk_at "hp"; walk_at "ne"))
local macro_rules | `(tactic| walk_at "cnd") => `(tactic| first | omega | (show (0 : Int) < _; omega) | exact ⟨by omega, by omega⟩ | exact Or.inl ⟨by omega, by omega⟩ | exact Or.inr ⟨by omega, by omega⟩ | exact ⟨by omega, by omega, by decide⟩ | exact ⟨by omega, by omega, by omega⟩)
local macro_rules | `(tactic| walk_at "at") => `(tactic| first | exact atC 0 rfl rfl | exact atC 1 rfl rfl | exact atC 2 rfl rfl | exact atC 3 rfl rfl | exact atC 4 rfl rfl | exact atC 5 rfl rfl | exact atC 6 rfl rfl | exact atC 7 rfl rfl)
local macro_rules | `(tactic| walk_at "ix") => `(tactic| first | exact ixC 0 rfl (Nat.le_of_ble_eq_true rfl) | exact ixC 1 rfl (Nat.le_of_ble_eq_true rfl) | exact ixC 2 rfl (Nat.le_of_ble_eq_true rfl) | exact ixC 3 rfl (Nat.le_of_ble_eq_true rfl) | exact ixC 4 rfl (Nat.le_of_ble_eq_true rfl) | exact ixC 5 rfl (Nat.le_of_ble_eq_true rfl))
local macro_rules | `(tactic| walk_at "st") => `(tactic| first
  | refine ⟨_, rfl, ?_⟩
  | refine ⟨_, _, rfl, rfl, (by walk_at "cnd" : (_ : Prop)), ?_⟩
  | refine ⟨_, _, rfl, rfl, ?_⟩
  | refine ⟨rfl, ?_⟩
  | refine Or.inl ⟨_, rfl, ?_⟩
  | refine ⟨_, _, _, _, rfl, rfl, by exact SqL.of (by walk_at "hp"), by walk_at "at", ?_⟩
  | refine ⟨_, _, _, _, rfl, rfl, by exact SqT.of (by walk_at "hp"), by walk_at "at", ?_⟩
  | refine ⟨_, _, _, _, rfl, rfl, by walk_at "hp", by walk_at "ix", ?_⟩
  | refine ⟨_, _, rfl, Or.inl (by exact SqL.of (by walk_at "hp")), ?_⟩
  | refine ⟨_, _, rfl, Or.inr (by exact SqT.of (by walk_at "hp")), ?_⟩)
local macro_rules | `(tactic| walk_at "run") => `(tactic| repeat walk_at "st")

def st1 (p : List Nat × List Nat) (r : Row3) : List Nat × List Nat := (p.1.set r.1 r.2.1, p.2.set r.1 r.2.2)
def z6 : List Nat := [0, 0, 0, 0, 0, 0]
def one1 (rows : List Row3) : List Nat × List Nat := rows.foldl st1 (z6, z6)
def st2 (ms : List Nat) (o : Option (List Nat)) (r : Row3) : Option (List Nat) := o.bind fun ws =>
  if ((ws.getD r.1 0 ^^^ r.2.2) &&& ms.getD r.1 0) &&& r.2.1 = 0 then some (ws.set r.1 (ws.getD r.1 0 ||| r.2.2)) else none
def commonM (one other : List Row3) : Option (List Nat) := other.foldl (st2 (one1 one).1) (some (one1 one).2)
theorem foldl_take {α β : Type} {f : β → α → β} {l : List α} {z : β} {i : Nat} {r : α} (h : l[i]? = some r) : (l.take (i + 1)).foldl f z = f ((l.take i).foldl f z) r := by
  rw [← take_snoc h, List.foldl_append]; rfl
theorem st1_len : ∀ (rows : List Row3) (p : List Nat × List Nat), p.1.length = 6 → p.2.length = 6 → (rows.foldl st1 p).1.length = 6 ∧ (rows.foldl st1 p).2.length = 6
  | [], p, h1, h2 => ⟨h1, h2⟩
  | r :: rs, p, h1, h2 => st1_len rs (st1 p r) (by simp [st1, h1]) (by simp [st1, h2])
theorem st2_none (ms : List Nat) : ∀ (rows : List Row3), rows.foldl (st2 ms) none = none
  | [] => rfl
  | r :: rs => st2_none ms rs
theorem st2_len (ms : List Nat) : ∀ (rows : List Row3) (ws ws' : List Nat), ws.length = 6 → rows.foldl (st2 ms) (some ws) = some ws' → ws'.length = 6
  | [], ws, ws', h1, h2 => by cases h2; exact h1
  | r :: rs, ws, ws', h1, h2 => by
    rw [List.foldl_cons] at h2
    unfold st2 at h2
    simp only [Option.bind_some] at h2
    split at h2
    · exact st2_len ms rs _ ws' (by simp [h1]) h2
    · have e := st2_none ms rs
      unfold st2 at e
      rw [e] at h2; cases h2
theorem mapSet {ws : List Nat} {j n : Nat} : (ws.map vN).set j (.int (n : Int)) = (ws.set j n).map vN := by rw [List.map_set]; rfl
def spCommon : Sp := fun vs H Q _ => ∃ t p one other, vs = [t, p] ∧ Dt H t (fD one) ∧ Dt H p (fD other) ∧ (∀ r ∈ one, r.1 < 6) ∧ (∀ r ∈ other, r.1 < 6) ∧ one.length ≤ 1000 ∧ other.length ≤ 1000 ∧
  (commonM one other = none → ∀ H', Same H H' → Q .non H') ∧ (∀ ws, commonM one other = some ws → ∀ p H', H p = none → H' p = some (.tup (ws.map vN)) → Same H H' → Q (.ref p) H')
section
variable {P : Program} {w : World} {K : PySem.W.Frag} {mg : Str → Option Value} {base : Heap}
abbrev s_common : Stmt := topS 13
abbrev ns_common : List Str := ["one", "other", "words", "masks", "index", "mask", "value"]
theorem sc_common : FnScope ns_common ["one", "other"] (defScope s_common) := ⟨rfl, rfl, rfl, by decide +kernel, rfl, by decide +kernel, by decide +kernel⟩

theorem ok_common {f : Addr} {fd : FuncData} (F : Fun K "common" "common" s_common f fd) (T : Txt mg) : FnOk P w K mg base CX0 1 f fd ["one", "other"] spCommon := by
  refine F.ok sc_common (fun vs H Q E h => ?_) (fun cdv A outer s H vs Q E hr h => ?_)
  · obtain ⟨t, p, one, other, rfl, _⟩ := h
    rfl
  · obtain ⟨t, p, one, other, rfl, h1, h2, i1, i2, z1, z2, kN, kS⟩ := h
    obtain ⟨a, xs, rfl, ha, hl, hx⟩ := fD_open h1
    obtain ⟨b, ys, rfl, hb, hl2, hy⟩ := fD_open h2
    refine ⟨_, (pss_cons (ps_set (i := 2) sc_common.nd rfl (Or.inl rfl) (pe_op op_rep (pe_lst (pa_cons pe_int pa_nil)) (pe_gint (by rfl) T.c_FIELDS)))
  (pss_cons (ps_set (i := 3) sc_common.nd rfl (Or.inl rfl) (pe_op op_rep (pe_lst (pa_cons pe_int pa_nil)) (pe_gint (by rfl) T.c_FIELDS)))
  (pss_cons (ps_for PassesOwn.never (by rfl) (kpiT K (pv 0)) (kpgT K (n := 3) (by rfl) (pgs_cons (pg_name (i := 4) sc_common.nd rfl (Or.inl rfl)) (pgs_cons (pg_name (i := 5) sc_common.nd rfl (Or.inl rfl)) (pgs_cons (pg_name (i := 6) sc_common.nd rfl (Or.inl rfl)) pgs_nil)))) (pss_cons (ps_asg (pv 5) (pg_sub (pv 3) (pv 4) set_list))
  (pss_one (ps_asg (pv 6) (pg_sub (pv 2) (pv 4) set_list)))))
  (pss_cons (ps_for PassesOwn.never (by rfl) (kpiT K (pv 1)) (kpgT K (n := 3) (by rfl) (pgs_cons (pg_name (i := 4) sc_common.nd rfl (Or.inl rfl)) (pgs_cons (pg_name (i := 5) sc_common.nd rfl (Or.inl rfl)) (pgs_cons (pg_name (i := 6) sc_common.nd rfl (Or.inl rfl)) pgs_nil)))) (pss_cons (ps_if (pt_truth (pe_op op_and (pe_op op_and (pe_op op_xor (pe_ix (kIxL K) (pv 2) (pv 4) (fun _ _ => rfl)) (pv 6)) (pe_ix (kIxL K) (pv 3) (pv 4) (fun _ _ => rfl))) (pv 5)) (by intro _; rfl)) (pss_one (ps_ret pe_non)) pss_nil)
  (pss_one (ps_asg (pe_op op_or (pe_ix (kIxL K) (pv 2) (pv 4) (fun _ _ => rfl)) (pv 6)) (pg_sub (pv 2) (pv 4) set_list)))))
  (pss_one (ps_ret (pe_callTy (kTupOf K) (by rfl) T.b_tuple (by decide +kernel) (pa_cons (pv 2) pa_nil)))))))), ?_⟩
    -- words, masks
    refine ⟨by decide, fun l0 n0 => ⟨_, _, _, rfl, rfl, upd_same, by decide, by decide, by decide, fun W hW => ?_⟩⟩
    refine ⟨by decide, fun l1 n1 => ⟨_, _, _, rfl, rfl, upd_same, by decide, by decide, by decide, fun M hM => ?_⟩⟩
    generalize eH0 : upd (upd (upd (upd H l0 _) W _) l1 _) M _ = H0
    have sW : Same H (upd (upd H l0 (.lst [.int 0])) W (.lst (List.replicate (Int.toNat 6) [V.int 0]).flatten)) := (Same.new n0).trans (Same.new hW)
    have s0 : Same H H0 := by
      rw [← eH0]
      exact (sW.trans (Same.new n1)).trans (Same.new hM)
    have fW : H W = none := (Same.new n0).free hW
    have fM : H M = none := (sW.trans (Same.new n1)).free hM
    have nWM : W ≠ M := fun e => by
      subst e
      have q : (upd (upd (upd H l0 (.lst [.int 0])) W (.lst (List.replicate (Int.toNat 6) [V.int 0]).flatten)) l1 (.lst [.int 0])) W = some _ := (Same.new n1) _ _ upd_same
      rw [q] at hM; cases hM
    have hW0 : H0 W = some (.lst (z6.map vN)) := by
      rw [← eH0, upd_ne nWM]
      exact (Same.new n1) _ _ upd_same
    have hM0 : H0 M = some (.lst (z6.map vN)) := by
      rw [← eH0]; exact upd_same
    -- the first loop
    refine ⟨_, rfl, _, rfl, ⟨_, SqT.of (s0 _ _ ha)⟩, for_tup (xs := xs) (fun i σ H1 => ∃ v4 v5 v6 : Option V, σ = [some (.ref a), some (.ref b), some (.ref W), some (.ref M), v4, v5, v6] ∧ Same H H1 ∧
      H1 W = some (.lst (((one.take i).foldl st1 (z6, z6)).2.map vN)) ∧ H1 M = some (.lst (((one.take i).foldl st1 (z6, z6)).1.map vN)))
      ⟨none, none, none, rfl, s0, hW0, hM0⟩ (fun i σ H1 _ ⟨_, _, _, _, s, _⟩ => SqT.of (s _ _ ha)) ?_ ?_⟩
    · rintro i x σ H1 hi ⟨v4, v5, v6, rfl, s1, hw, hm⟩
      obtain ⟨r, t, hr1, rfl, ht⟩ := hx i x hi
      have hir := i1 r (List.mem_of_getElem? hr1)
      obtain ⟨len1, len2⟩ := st1_len (one.take i) (z6, z6) rfl rfl
      refine ⟨t, _, rfl, SqT.of (s1 _ _ ht), rfl, _, _, rfl, _, _, rfl, _, _, rfl, rfl, ?_⟩
      refine ⟨_, rfl, _, rfl, _, rfl, _, _, _, _, rfl, rfl, hm, ixC r.1 rfl (by rw [List.length_map]; omega), ?_⟩
      refine ⟨_, rfl, _, rfl, _, rfl, _, _, _, _, rfl, rfl, Eq.trans (upd_ne nWM) hw, ixC r.1 rfl (by rw [List.length_map]; omega), ?_⟩
      refine ⟨_, _, _, rfl, Same.mut (Same.mut s1 fM) fW, ?_, ?_⟩
      · rw [foldl_take hr1, upd_same, mapSet]; rfl
      · rw [foldl_take hr1, upd_ne nWM.symm, upd_same, mapSet]; rfl
    · rintro σ H1 ⟨v4, v5, v6, rfl, s1, hw, hm⟩
      rw [hl, List.take_length] at hw hm
      -- the second loop
      refine ⟨_, rfl, _, rfl, ⟨_, SqT.of (s1 _ _ hb)⟩, for_tup (xs := ys) (fun i σ H1 => ∃ (v4 v5 v6 : Option V) (ws : List Nat), σ = [some (.ref a), some (.ref b), some (.ref W), some (.ref M), v4, v5, v6] ∧ Same H H1 ∧
        (other.take i).foldl (st2 (one1 one).1) (some (one1 one).2) = some ws ∧ H1 W = some (.lst (ws.map vN)) ∧ H1 M = some (.lst ((one1 one).1.map vN)))
        ⟨v4, v5, v6, _, rfl, s1, rfl, hw, hm⟩ (fun i σ H1 _ ⟨_, _, _, _, _, s, _⟩ => SqT.of (s _ _ hb)) ?_ ?_⟩
      · rintro i x σ H1 hi ⟨v4, v5, v6, ws, rfl, s1, hf, hw, hm⟩
        obtain ⟨r, t, hr1, rfl, ht⟩ := hy i x hi
        have hir := i2 r (List.mem_of_getElem? hr1)
        obtain ⟨len1, len2⟩ := st1_len one (z6, z6) rfl rfl
        have len3 := st2_len _ _ _ _ len2 hf
        have hf' : (other.take (i + 1)).foldl (st2 (one1 one).1) (some (one1 one).2) = st2 (one1 one).1 (some ws) r := by rw [foldl_take hr1, hf]
        refine ⟨t, _, rfl, SqT.of (s1 _ _ ht), rfl, _, _, rfl, _, _, rfl, _, _, rfl, rfl, ?_⟩
        have gw := getVN (ws := ws) (i := r.1) (by omega)
        have gm := getVN (ws := (one1 one).1) (i := r.1) (by show r.1 < (one.foldl st1 (z6, z6)).1.length; omega)
        refine ⟨_, rfl, _, rfl, _, _, _, _, rfl, rfl, SqL.of hw, atC r.1 rfl gw, ?_⟩
        refine ⟨_, rfl, _, _, rfl, rfl, _, rfl, _, rfl, _, _, _, _, rfl, rfl, SqL.of hm, atC r.1 rfl gm, ?_⟩
        walk_at "run"
        have ev : Builtin.bitAnd (Builtin.bitAnd (Builtin.bitXor (ws.getD r.1 0 : Nat) (r.2.2 : Nat)) ((one1 one).1.getD r.1 0 : Nat)) (r.2.1 : Nat) = ((((ws.getD r.1 0 ^^^ r.2.2) &&& (one1 one).1.getD r.1 0) &&& r.2.1 : Nat) : Int) := by
          rw [bitXor_nat, bitAnd_nat, bitAnd_nat]
        refine iteB (fun e => ?_) (fun e => ?_)
        · have e' : (Builtin.bitAnd (Builtin.bitAnd (Builtin.bitXor (ws.getD r.1 0 : Nat) (r.2.2 : Nat)) ((one1 one).1.getD r.1 0 : Nat)) (r.2.1 : Nat) != 0) = true := e
          rw [ev] at e'
          have hn : ((ws.getD r.1 0 ^^^ r.2.2) &&& (one1 one).1.getD r.1 0) &&& r.2.1 ≠ 0 := by
            intro q; rw [q] at e'; cases e'
          have hs : (other.take (i + 1)).foldl (st2 (one1 one).1) (some (one1 one).2) = none := by
            rw [hf']; show (if _ then _ else _) = _; rw [if_neg hn]
          refine kN ?_ _ s1
          unfold commonM
          rw [← List.take_append_drop (i + 1) other, List.foldl_append, hs]
          exact st2_none _ _
        · have e' : (Builtin.bitAnd (Builtin.bitAnd (Builtin.bitXor (ws.getD r.1 0 : Nat) (r.2.2 : Nat)) ((one1 one).1.getD r.1 0 : Nat)) (r.2.1 : Nat) != 0) = false := e
          rw [ev] at e'
          have hz : ((ws.getD r.1 0 ^^^ r.2.2) &&& (one1 one).1.getD r.1 0) &&& r.2.1 = 0 := by
            have q := (bne_eq_false_iff_eq).mp e'
            omega
          refine ⟨_, rfl, _, rfl, _, _, _, _, rfl, rfl, SqL.of hw, atC r.1 rfl gw, ?_⟩
          refine ⟨_, rfl, _, _, rfl, rfl, _, rfl, _, rfl, _, _, _, _, rfl, rfl, hw, ixC r.1 rfl (by rw [List.length_map]; omega), ?_⟩
          refine ⟨_, _, _, ws.set r.1 (ws.getD r.1 0 ||| r.2.2), rfl, Same.mut s1 fW, ?_, ?_, ?_⟩
          · rw [hf']; show (if _ then _ else _) = _; rw [if_pos hz]
          · rw [upd_same]
            show some (HO.lst ((ws.map vN).set r.1 (V.int (Builtin.bitOr (ws.getD r.1 0 : Nat) (r.2.2 : Nat))))) = _
            rw [bitOr_nat, mapSet]
          · rw [upd_ne nWM.symm]; exact hm
      · rintro σ H1 ⟨v4, v5, v6, ws, rfl, s1, hf, hw, hm⟩
        rw [hl2, List.take_length] at hf
        refine ⟨_, rfl, _, _, rfl, .inl ⟨SqL.of hw, fun l hl => ?_⟩⟩
        exact kS ws hf l _ (s1.free hl) upd_same (s1.trans (Same.new hl))
end
end My

namespace My
open PySem L2
local macro_rules | `(tactic| walk_at "ne") => `(tactic| first | assumption | exact Ne.symm (by assumption) | exact ne_of_none (by assumption) (by assumption) | exact Ne.symm (ne_of_none (by assumption) (by assumption)))
local macro_rules | `(tactic| walk_at "hp") => `(tactic| first | assumption | with_reducible exact upd_same | (with_reducible refine Eq.trans (upd_ne ?_) ?_; rotate_left; walk_at "hp"; walk_at "ne"))
local macro_rules | `(tactic| walk_at "cnd") => `(tactic| first | omega | (show (0 : Int) < _; omega) | exact ⟨by omega, by omega⟩ | exact Or.inl ⟨by omega, by omega⟩ | exact Or.inr ⟨by omega, by omega⟩ | exact ⟨by omega, by omega, by decide⟩ | exact ⟨by omega, by omega, by omega⟩)
local macro_rules | `(tactic| walk_at "at") => `(tactic| first | exact atC 0 rfl rfl | exact atC 1 rfl rfl | exact atC 2 rfl rfl | exact atC 3 rfl rfl | exact atC 4 rfl rfl | exact atC 5 rfl rfl | exact atC 6 rfl rfl | exact atC 7 rfl rfl)
local macro_rules | `(tactic| walk_at "ix") => `(tactic| first | exact ixC 0 rfl (Nat.le_of_ble_eq_true rfl) | exact ixC 1 rfl (Nat.le_of_ble_eq_true rfl) | exact ixC 2 rfl (Nat.le_of_ble_eq_true rfl) | exact ixC 3 rfl (Nat.le_of_ble_eq_true rfl) | exact ixC 4 rfl (Nat.le_of_ble_eq_true rfl) | exact ixC 5 rfl (Nat.le_of_ble_eq_true rfl))
local macro_rules | `(tactic| walk_at "st") => `(tactic| first
  | refine ⟨_, rfl, ?_⟩
  | refine ⟨_, _, rfl, rfl, (by walk_at "cnd" : (_ : Prop)), ?_⟩
  | refine ⟨_, _, rfl, rfl, ?_⟩
  | refine ⟨rfl, ?_⟩
  | refine Or.inl ⟨_, rfl, ?_⟩
  | refine ⟨_, _, _, _, rfl, rfl, by exact SqL.of (by walk_at "hp"), by walk_at "at", ?_⟩
  | refine ⟨_, _, _, _, rfl, rfl, by exact SqT.of (by walk_at "hp"), by walk_at "at", ?_⟩
  | refine ⟨_, _, _, _, rfl, rfl, by walk_at "hp", by walk_at "ix", ?_⟩
  | refine ⟨_, _, rfl, Or.inl (by exact SqL.of (by walk_at "hp")), ?_⟩
  | refine ⟨_, _, rfl, Or.inr (by exact SqT.of (by walk_at "hp")), ?_⟩)
local macro_rules | `(tactic| walk_at "run") => `(tactic| repeat walk_at "st")

def spMask : Sp := fun vs H Q _ => ∃ a t, vs = [.ref a] ∧ Tape H a t ∧ ∀ (m : Nat) H', 0 < m → m < 2 ^ 32 → Tape H' a t → Chg a H H' → Q (.int (m : Int)) H'
def spWd : Sp := fun vs H Q _ => ∃ a t, vs = [.ref a] ∧ Tape H a t ∧ ∀ (m : Nat) H', m < 2 ^ 32 → Tape H' a t → Chg a H H' → Q (.int (m : Int)) H'
def Good (rows : List Row3) : Prop := rows.Pairwise (fun r s => r.1 < s.1) ∧ (∀ r ∈ rows, r.1 < 6 ∧ 0 < r.2.1 ∧ r.2.1 < 2 ^ 32 ∧ r.2.2 &&& r.2.1 = r.2.2) ∧ rows.length ≤ 6
def spFil : Sp := fun vs H Q _ => ∃ a t, vs = [.ref a] ∧ Tape H a t ∧ ∀ rows v H', Good rows → Dt H' v (fD rows) → Tape H' a t → Chg a H H' → Q v H'
theorem shl_nat (j : Nat) : (1 : Int) * 2 ^ ((j : Int).toNat) = ((2 ^ j : Nat) : Int) := by
  rw [Int.one_mul, Int.toNat_natCast]; simp
theorem or_lt {x y : Nat} (hx : x < 2 ^ 32) (hy : y < 2 ^ 32) : x ||| y < 2 ^ 32 := Nat.or_lt_two_pow hx hy
section
variable {P : Program} {w : World} {K : PySem.W.Frag} {mg : Str → Option Value} {base : Heap}
abbrev s_law_mask : Stmt := topS 16
abbrev ns_law_mask : List Str := ["tape", "kind", "mask", "k"]
theorem sc_law_mask : FnScope ns_law_mask ["tape"] (defScope s_law_mask) := ⟨rfl, rfl, rfl, by decide +kernel, rfl, by decide +kernel, by decide +kernel⟩

theorem ok_law_mask {f : Addr} {fd : FuncData} (F : Fun K "_law_mask" "_law_mask" s_law_mask f fd) (T : Txt mg) (D_law_next : Dfn P w K mg base CX0 1 "_law_next" ["tape", "many"] spNext) : FnOk P w K mg base CX0 2 f fd ["tape"] spMask := by
  refine F.ok sc_law_mask (fun vs H Q E h => ?_) (fun cdv A outer s H vs Q E hr h => ?_)
  · obtain ⟨a, t, rfl, _⟩ := h
    rfl
  · obtain ⟨a, t, rfl, t0, k⟩ := h
    refine ⟨_, (pss_cons (ps_set (i := 1) sc_law_mask.nd rfl (Or.inl rfl) (pe_dcall D_law_next (hr.mono (by decide)) (by rfl) pass0 (pa_cons (pv 0) (pa_cons pe_int pa_nil))))
  (pss_cons (ps_if (pt_cmpR op_eq (pv 1) pe_int (nomark _)) (pss_one (ps_ret (pe_op op_sub (pe_op op_pow pe_int pe_int) pe_int))) pss_nil)
  (pss_cons (ps_set (i := 2) sc_law_mask.nd rfl (Or.inl rfl) (pe_op op_shl pe_int (pe_dcall D_law_next (hr.mono (by decide)) (by rfl) pass0 (pa_cons (pv 0) (pa_cons pe_int pa_nil)))))
  (pss_cons (ps_for PassesOwn.never (by rfl) (pi_range1 (by rfl) T.b_range (pa_cons (pe_dcall D_law_next (hr.mono (by decide)) (by rfl) pass0 (pa_cons (pv 0) (pa_cons pe_int pa_nil))) pa_nil)) (pg_name (i := 3) sc_law_mask.nd rfl (Or.inl rfl)) (pss_one (ps_set (i := 2) sc_law_mask.nd rfl (Or.inl rfl) (pe_op op_or (pv 2) (pe_op op_shl pe_int (pe_ix (kIxL K) (pe_lst (pa_cons (pe_dcall D_law_next (hr.mono (by decide)) (by rfl) pass0 (pa_cons (pv 0) (pa_cons pe_int pa_nil))) (pa_cons pe_int pa_nil))) (pe_dcall D_law_next (hr.mono (by decide)) (by rfl) pass0 (pa_cons (pv 0) (pa_cons pe_int pa_nil))) (fun _ _ => rfl)))))))
  (pss_one (ps_ret (pv 2))))))), ?_⟩
    walk_at "run"
    refine ⟨a, t, 4, rfl, by decide, by decide, t0, fun v H1 v0 v1 t1 c1 => ?_⟩
    walk_at "run"
    refine iteD (fun e => ?_) (fun e => ?_)
    · walk_at "run"
      exact k 4294967295 H1 (by decide) (by decide) t1 c1
    · walk_at "run"
      refine ⟨a, t, 3, rfl, by decide, by decide, t1, fun n H2 n0 n1 t2 c2 => ?_⟩
      obtain ⟨n', rfl⟩ := Int.eq_ofNat_of_zero_le n0
      walk_at "run"
      refine ⟨a, t, 3, rfl, by decide, by decide, t2, fun m H3 m0 m1 t3 c3 => ?_⟩
      walk_at "run"
      refine ⟨by omega, by omega, for_range (fun i σ H' => ∃ (mk : Nat) (vk : Option V), σ = [some (.ref a), some (.int v), some (.int (mk : Int)), vk] ∧ 0 < mk ∧ mk < 2 ^ 32 ∧ Tape H' a t ∧ Chg a H H') ?_ ?_ ?_⟩
      · refine ⟨2 ^ n', none, ?_, Nat.two_pow_pos _, ?_, t3, (c1.trans c2).trans c3⟩
        · show [_, _, some (V.int (1 * 2 ^ ((n' : Int)).toNat)), _] = _
          rw [shl_nat]
        · exact Nat.pow_lt_pow_right (by decide) (by omega)
      · rintro i σ H' hi ⟨mk, vk, rfl, p0, p1, t', c'⟩
        walk_at "run"
        refine ⟨a, t, 4, rfl, by decide, by decide, t', fun x H4 x0 x1 t4 c4 => ?_⟩
        obtain ⟨x', rfl⟩ := Int.eq_ofNat_of_zero_le x0
        walk_at "run"
        refine ⟨szl rfl, fun p hp => ?_⟩
        walk_at "run"
        refine ⟨a, t, 2, rfl, by decide, by decide, t4.same (Same.new hp), fun y H5 y0 y1 t5 c5 => ?_⟩
        have hp5 := c5 p _ (t4.at hp) upd_same
        have c05 : Chg a H H5 := ((c'.trans c4).trans (Same.chg (Same.new hp))).trans c5
        have hy : y = 0 ∨ y = 1 := by omega
        rcases hy with rfl | rfl
        · walk_at "run"
          refine ⟨mk ||| 2 ^ x', some (.int (0 + (i : Int))), ?_, by have := @Nat.left_le_or mk (2 ^ x'); omega, or_lt p1 (Nat.pow_lt_pow_right (by decide) (by omega)), t5, c05⟩
          show [_, _, some (V.int (Builtin.bitOr (mk : Int) (1 * 2 ^ ((x' : Int)).toNat))), _] = _
          rw [shl_nat, bitOr_nat]
        · walk_at "run"
          refine ⟨mk ||| 2 ^ 31, some (.int (0 + (i : Int))), ?_, by have := @Nat.left_le_or mk (2 ^ 31); omega, or_lt p1 (by decide), t5, c05⟩
          show [_, _, some (V.int (Builtin.bitOr (mk : Int) ((2147483648 : Nat) : Int))), _] = _
          rw [bitOr_nat]
      · rintro σ H' ⟨mk, vk, rfl, p0, p1, t', c'⟩
        walk_at "run"
        exact k mk H' p0 p1 t' c'
abbrev s_law_word : Stmt := topS 18
abbrev ns_law_word : List Str := ["tape"]
theorem sc_law_word : FnScope ns_law_word ["tape"] (defScope s_law_word) := ⟨rfl, rfl, rfl, by decide +kernel, rfl, by decide +kernel, by decide +kernel⟩

theorem ok_law_word {f : Addr} {fd : FuncData} (F : Fun K "_law_word" "_law_word" s_law_word f fd) (T : Txt mg) (D_law_next : Dfn P w K mg base CX0 1 "_law_next" ["tape", "many"] spNext) : FnOk P w K mg base CX0 2 f fd ["tape"] spWd := by
  refine F.ok sc_law_word (fun vs H Q E h => ?_) (fun cdv A outer s H vs Q E hr h => ?_)
  · obtain ⟨a, t, rfl, _⟩ := h
    rfl
  · obtain ⟨a, t, rfl, t0, k⟩ := h
    refine ⟨_, (pss_one (ps_ret (pe_ix (kIxL K) (pe_lst (pa_cons (pe_dcall D_law_next (hr.mono (by decide)) (by rfl) pass0 (pa_cons (pv 0) (pa_cons pe_int pa_nil))) (pa_cons (pe_op op_mul (pe_dcall D_law_next (hr.mono (by decide)) (by rfl) pass0 (pa_cons (pv 0) (pa_cons pe_int pa_nil))) pe_int) (pa_cons (pe_op op_sub (pe_op op_pow pe_int pe_int) pe_int) pa_nil)))) (pe_dcall D_law_next (hr.mono (by decide)) (by rfl) pass0 (pa_cons (pv 0) (pa_cons pe_int pa_nil))) (fun _ _ => rfl)))), ?_⟩
    walk_at "run"
    refine ⟨a, t, 16, rfl, by decide, by decide, t0, fun v H1 v0 v1 t1 c1 => ?_⟩
    walk_at "run"
    refine ⟨a, t, 16, rfl, by decide, by decide, t1, fun u H2 u0 u1 t2 c2 => ?_⟩
    walk_at "run"
    refine ⟨szl rfl, fun p hp => ?_⟩
    walk_at "run"
    refine ⟨a, t, 3, rfl, by decide, by decide, t2.same (Same.new hp), fun n H3 n0 n1 t3 c3 => ?_⟩
    have hp3 := c3 p _ (t2.at hp) upd_same
    have c03 : Chg a H H3 := ((c1.trans c2).trans (Same.chg (Same.new hp))).trans c3
    obtain ⟨v', rfl⟩ := Int.eq_ofNat_of_zero_le v0
    obtain ⟨u', rfl⟩ := Int.eq_ofNat_of_zero_le u0
    have hn : n = 0 ∨ n = 1 ∨ n = 2 := by omega
    rcases hn with rfl | rfl | rfl
    · walk_at "run"
      exact k v' H3 (by omega) t3 c03
    · walk_at "run"
      exact k (u' * 134217729) H3 (by omega) t3 c03
    · walk_at "run"
      exact k 4294967295 H3 (by omega) t3 c03
end
end My

namespace My
open PySem L2
local macro_rules | `(tactic| walk_at "ne") => `(tactic| first | assumption | exact Ne.symm (by assumption) | exact ne_of_none (by assumption) (by assumption) | exact Ne.symm (ne_of_none (by assumption) (by assumption)))
local macro_rules | `(tactic| walk_at "hp") => `(tactic| first | assumption | with_reducible exact upd_same | (with_reducible refine Eq.trans (upd_ne ?_) ?_; rotate_left; walk_at "hp"; walk_at "ne"))
local macro_rules | `(tactic| walk_at "cnd") => `(tactic| first | omega | (show (0 : Int) < _; omega) | exact ⟨by omega, by omega⟩ | exact Or.inl ⟨by omega, by omega⟩ | exact Or.inr ⟨by omega, by omega⟩ | exact ⟨by omega, by omega, by decide⟩ | exact ⟨by omega, by omega, by omega⟩)
local macro_rules | `(tactic| walk_at "at") => `(tactic| first | exact atC 0 rfl rfl | exact atC 1 rfl rfl | exact atC 2 rfl rfl | exact atC 3 rfl rfl | exact atC 4 rfl rfl | exact atC 5 rfl rfl | exact atC 6 rfl rfl | exact atC 7 rfl rfl)
local macro_rules | `(tactic| walk_at "ix") => `(tactic| first | exact ixC 0 rfl (Nat.le_of_ble_eq_true rfl) | exact ixC 1 rfl (Nat.le_of_ble_eq_true rfl) | exact ixC 2 rfl (Nat.le_of_ble_eq_true rfl) | exact ixC 3 rfl (Nat.le_of_ble_eq_true rfl) | exact ixC 4 rfl (Nat.le_of_ble_eq_true rfl) | exact ixC 5 rfl (Nat.le_of_ble_eq_true rfl))
local macro_rules | `(tactic| walk_at "st") => `(tactic| first
  | refine ⟨_, rfl, ?_⟩
  | refine ⟨_, _, rfl, rfl, (by walk_at "cnd" : (_ : Prop)), ?_⟩
  | refine ⟨_, _, rfl, rfl, ?_⟩
  | refine ⟨rfl, ?_⟩
  | refine Or.inl ⟨_, rfl, ?_⟩
  | refine ⟨_, _, _, _, rfl, rfl, by exact SqL.of (by walk_at "hp"), by walk_at "at", ?_⟩
  | refine ⟨_, _, _, _, rfl, rfl, by exact SqT.of (by walk_at "hp"), by walk_at "at", ?_⟩
  | refine ⟨_, _, _, _, rfl, rfl, by walk_at "hp", by walk_at "ix", ?_⟩
  | refine ⟨_, _, rfl, Or.inl (by exact SqL.of (by walk_at "hp")), ?_⟩
  | refine ⟨_, _, rfl, Or.inr (by exact SqT.of (by walk_at "hp")), ?_⟩)
local macro_rules | `(tactic| walk_at "run") => `(tactic| repeat walk_at "st")

def spPkt : Sp := fun vs H Q _ => ∃ a t v rows, vs = [.ref a, v] ∧ Tape H a t ∧ Dt H v (fD rows) ∧ Good rows ∧ ∀ ws u H', ws.length = 6 → (∀ n ∈ ws, n < 2 ^ 32) → Dt H' u (pD ws) → Tape H' a t → Chg a H H' → Q u H'
theorem and_le32 {v m : Nat} (h : v &&& m = v) (hm : m < 2 ^ 32) : v < 2 ^ 32 := by
  rw [← h]; exact Nat.lt_of_le_of_lt Nat.and_le_right hm
theorem mem_set32 {ws : List Nat} {j n : Nat} (h : ∀ x ∈ ws, x < 2 ^ 32) (hn : n < 2 ^ 32) : ∀ x ∈ ws.set j n, x < 2 ^ 32 := fun x hx => by
  rcases List.mem_or_eq_of_mem_set hx with q | q
  · exact h x q
  · rw [q]; exact hn
section
variable {P : Program} {w : World} {K : PySem.W.Frag} {mg : Str → Option Value} {base : Heap}
abbrev s_law_filter : Stmt := topS 17
abbrev ns_law_filter : List Str := ["tape", "rows", "index", "mask"]
theorem sc_law_filter : FnScope ns_law_filter ["tape"] (defScope s_law_filter) := ⟨rfl, rfl, rfl, by decide +kernel, rfl, by decide +kernel, by decide +kernel⟩

theorem ok_law_filter {f : Addr} {fd : FuncData} (F : Fun K "_law_filter" "_law_filter" s_law_filter f fd) (T : Txt mg) (D_law_next : Dfn P w K mg base CX0 1 "_law_next" ["tape", "many"] spNext)
    (D_law_mask : Dfn P w K mg base CX0 2 "_law_mask" ["tape"] spMask) : FnOk P w K mg base CX0 3 f fd ["tape"] spFil := by
  refine F.ok sc_law_filter (fun vs H Q E h => ?_) (fun cdv A outer s H vs Q E hr h => ?_)
  · obtain ⟨a, t, rfl, _⟩ := h
    rfl
  · obtain ⟨a, t, rfl, t0, k⟩ := h
    refine ⟨_, (pss_cons (ps_set (i := 1) sc_law_filter.nd rfl (Or.inl rfl) (pe_lst pa_nil))
  (pss_cons (ps_for PassesOwn.never (by rfl) (pi_range1 (by rfl) T.b_range (pa_cons pe_int pa_nil)) (pg_name (i := 2) sc_law_filter.nd rfl (Or.inl rfl)) (pss_one (ps_if (pt_cmpR op_eq (pe_dcall D_law_next (hr.mono (by decide)) (by rfl) pass0 (pa_cons (pv 0) (pa_cons pe_int pa_nil))) pe_int (nomark _)) (pss_cons (ps_set (i := 3) sc_law_filter.nd rfl (Or.inl rfl) (pe_dcall D_law_mask (hr.mono (by decide)) (by rfl) pass0 (pa_cons (pv 0) pa_nil)))
  (pss_one (ps_expr (kBM K PySem.F.plainAttrs_list PySem.F.slot_list_append PySem.F.type_list_append mt_append (pv 1) (pa_cons (pe_tup (pa_cons (pv 2) (pa_cons (pv 3) (pa_cons (pe_op op_and (pe_op op_mul (pe_dcall D_law_next (hr.mono (by decide)) (by rfl) pass0 (pa_cons (pv 0) (pa_cons pe_int pa_nil))) pe_int) (pv 3)) pa_nil)))) pa_nil))))) pss_nil)))
  (pss_one (ps_ret (pe_callTy (kTupOf K) (by rfl) T.b_tuple (by decide +kernel) (pa_cons (pv 1) pa_nil)))))), ?_⟩
    refine ⟨szl rfl, fun R hR => ?_⟩
    have nRa := t0.at hR
    have nRt := t0.at2 hR
    walk_at "run"
    refine ⟨by omega, by omega, for_range (fun i σ H' => ∃ (rows : List Row3) (xs : List V) (v2 v3 : Option V), σ = [some (.ref a), some (.ref R), v2, v3] ∧ Good rows ∧ (∀ r ∈ rows, r.1 < i) ∧ rows.length ≤ i ∧ H' R = some (.lst xs) ∧ DtAll H' xs (rows.map rowD) ∧ Tape H' a t ∧ Chg a H H') ?_ ?_ ?_⟩
    · exact ⟨[], [], none, none, rfl, ⟨.nil, fun _ h => (by cases h), Nat.zero_le _⟩, fun _ h => (by cases h), Nat.zero_le _, upd_same, .nil, t0.same (Same.new hR), Same.chg (Same.new hR)⟩
    · rintro i σ H1 hi ⟨rows, xs, v2, v3, rfl, g, gi, gl, hr1, hd, t1, c1⟩
      have hi6 : i < 6 := hi
      walk_at "run"
      refine ⟨a, t, 3, rfl, by decide, by decide, t1, fun v H2 v0 v1 t2 c2 => ?_⟩
      walk_at "run"
      have hr2 := c2 R _ nRa hr1
      have hd2 := hd.ts (t1.ts c2) (rows_tonly rows)
      refine iteD (fun e => ?_) (fun e => ?_)
      · walk_at "run"
        refine ⟨a, t, rfl, t2, fun m H3 m0 m1 t3 c3 => ?_⟩
        walk_at "run"
        have hr3 := c3 R _ nRa hr2
        have hd3 := hd2.ts (t2.ts c3) (rows_tonly rows)
        refine ⟨.inl ⟨rfl, _, SqL.of hr3⟩, ?_⟩
        walk_at "run"
        refine ⟨a, t, 16, rfl, by decide, by decide, t3, fun u H4 u0 u1 t4 c4 => ?_⟩
        obtain ⟨u', rfl⟩ := Int.eq_ofNat_of_zero_le u0
        have hr4 := c4 R _ nRa hr3
        have hd4 := hd3.ts (t3.ts c4) (rows_tonly rows)
        walk_at "run"
        refine ⟨szl rfl, fun p hp => ?_⟩
        have nRp : R ≠ p := ne_of_none hr4 hp
        have xl : xs.length = rows.length := by rw [hd.len, List.length_map]
        refine ⟨_, _, _, rfl, rfl, Eq.trans (upd_ne nRp) hr4, szt (by omega), ?_⟩
        have en : Builtin.bitAnd ((u' : Int) * 134217729) (m : Int) = ((u' * 134217729 &&& m : Nat) : Int) := by
          rw [show ((u' : Int) * 134217729) = ((u' * 134217729 : Nat) : Int) by simp, bitAnd_nat]
        have fR : ∀ b ys, L2.upd H4 p (.tup [.int (0 + (i : Int)), .int (m : Int), .int (Builtin.bitAnd ((u' : Int) * 134217729) (m : Int))]) b = some (.tup ys) → L2.upd (L2.upd H4 p (.tup [.int (0 + (i : Int)), .int (m : Int), .int (Builtin.bitAnd ((u' : Int) * 134217729) (m : Int))])) R (.lst (xs ++ [.ref p])) b = some (.tup ys) := fun b ys e => by
          rw [upd_ne]
          · exact e
          · intro q; subst q
            rw [upd_ne nRp, hr4] at e; cases e
        have tsN : TS H4 (L2.upd (L2.upd H4 p (.tup [.int (0 + (i : Int)), .int (m : Int), .int (Builtin.bitAnd ((u' : Int) * 134217729) (m : Int))])) R (.lst (xs ++ [.ref p]))) := (Same.ts (Same.new hp)).trans fR
        refine ⟨rows ++ [(i, m, u' * 134217729 &&& m)], xs ++ [.ref p], _, _, rfl, ⟨?_, ?_, ?_⟩, ?_, ?_, upd_same, ?_, ?_, ?_⟩
        · rw [List.pairwise_append]
          refine ⟨g.1, List.pairwise_singleton _ _, fun x hx y hy => ?_⟩
          rw [List.mem_singleton.mp hy]
          exact gi x hx
        · intro r hr
          rcases List.mem_append.mp hr with q | q
          · exact g.2.1 r q
          · rw [List.mem_singleton.mp q]
            refine ⟨hi6, m0, m1, ?_⟩
            show (u' * 134217729 &&& m) &&& m = _
            rw [Nat.and_assoc, Nat.and_self]
        · rw [List.length_append, List.length_singleton]; omega
        · intro r hr
          rcases List.mem_append.mp hr with q | q
          · have := gi r q; omega
          · rw [List.mem_singleton.mp q]; show i < i + 1; omega
        · rw [List.length_append, List.length_singleton]; omega
        · rw [List.map_append]
          refine (hd4.ts tsN (rows_tonly rows)).append (.cons ?_ .nil)
          refine .tup (xs := [.int (i : Int), .int (m : Int), .int ((u' * 134217729 &&& m : Nat) : Int)]) ?_ (.cons (.int _) (.cons (.int _) (.cons (.int _) .nil)))
          rw [upd_ne nRp.symm, upd_same, en, Int.zero_add]
        · exact (t4.same (Same.new hp)).upd nRa nRt
        · refine Chg.mut ?_ hR
          exact (((c1.trans c2).trans c3).trans c4).trans (Same.chg (Same.new hp))
      · exact ⟨rows, xs, _, v3, rfl, g, fun r hr => by have := gi r hr; omega, by omega, hr2, hd2, t2, c1.trans c2⟩
    · rintro σ H1 ⟨rows, xs, v2, v3, rfl, g, gi, gl, hr1, hd, t1, c1⟩
      walk_at "run"
      refine ⟨_, _, rfl, .inl ⟨SqL.of hr1, fun p hp => ?_⟩⟩
      refine k rows _ _ g (.tup upd_same (hd.same (Same.new hp))) (t1.same (Same.new hp)) (c1.trans (Same.chg (Same.new hp)))
end
end My

namespace My
open PySem L2
local macro_rules | `(tactic| walk_at "ne") => `(tactic| first | assumption | exact Ne.symm (by assumption) | exact ne_of_none (by assumption) (by assumption) | exact Ne.symm (ne_of_none (by assumption) (by assumption)))
local macro_rules | `(tactic| walk_at "hp") => `(tactic| first | assumption | with_reducible exact upd_same | (with_reducible refine Eq.trans (upd_ne ?_) ?_; rotate_left; walk_at "hp"; walk_at "ne"))
local macro_rules | `(tactic| walk_at "cnd") => `(tactic| first | omega | (show (0 : Int) < _; omega) | exact ⟨by omega, by omega⟩ | exact Or.inl ⟨by omega, by omega⟩ | exact Or.inr ⟨by omega, by omega⟩ | exact ⟨by omega, by omega, by decide⟩ | exact ⟨by omega, by omega, by omega⟩)
local macro_rules | `(tactic| walk_at "at") => `(tactic| first | exact atC 0 rfl rfl | exact atC 1 rfl rfl | exact atC 2 rfl rfl | exact atC 3 rfl rfl | exact atC 4 rfl rfl | exact atC 5 rfl rfl | exact atC 6 rfl rfl | exact atC 7 rfl rfl)
local macro_rules | `(tactic| walk_at "ix") => `(tactic| first | exact ixC 0 rfl (Nat.le_of_ble_eq_true rfl) | exact ixC 1 rfl (Nat.le_of_ble_eq_true rfl) | exact ixC 2 rfl (Nat.le_of_ble_eq_true rfl) | exact ixC 3 rfl (Nat.le_of_ble_eq_true rfl) | exact ixC 4 rfl (Nat.le_of_ble_eq_true rfl) | exact ixC 5 rfl (Nat.le_of_ble_eq_true rfl))
local macro_rules | `(tactic| walk_at "st") => `(tactic| first
  | refine ⟨_, rfl, ?_⟩
  | refine ⟨_, _, rfl, rfl, (by walk_at "cnd" : (_ : Prop)), ?_⟩
  | refine ⟨_, _, rfl, rfl, ?_⟩
  | refine ⟨rfl, ?_⟩
  | refine Or.inl ⟨_, rfl, ?_⟩
  | refine ⟨_, _, _, _, rfl, rfl, by exact SqL.of (by walk_at "hp"), by walk_at "at", ?_⟩
  | refine ⟨_, _, _, _, rfl, rfl, by exact SqT.of (by walk_at "hp"), by walk_at "at", ?_⟩
  | refine ⟨_, _, _, _, rfl, rfl, by walk_at "hp", by walk_at "ix", ?_⟩
  | refine ⟨_, _, rfl, Or.inl (by exact SqL.of (by walk_at "hp")), ?_⟩
  | refine ⟨_, _, rfl, Or.inr (by exact SqT.of (by walk_at "hp")), ?_⟩)
local macro_rules | `(tactic| walk_at "run") => `(tactic| repeat walk_at "st")

section
variable {P : Program} {w : World} {K : PySem.W.Frag} {mg : Str → Option Value} {base : Heap}
abbrev s_law_packet : Stmt := topS 19
abbrev ns_law_packet : List Str := ["tape", "rows", "words", "k", "index", "mask", "value"]
theorem sc_law_packet : FnScope ns_law_packet ["tape", "rows"] (defScope s_law_packet) := ⟨rfl, rfl, rfl, by decide +kernel, rfl, by decide +kernel, by decide +kernel⟩

theorem ok_law_packet {f : Addr} {fd : FuncData} (F : Fun K "_law_packet" "_law_packet" s_law_packet f fd) (T : Txt mg) (D_law_next : Dfn P w K mg base CX0 1 "_law_next" ["tape", "many"] spNext)
    (D_law_word : Dfn P w K mg base CX0 2 "_law_word" ["tape"] spWd) : FnOk P w K mg base CX0 3 f fd ["tape", "rows"] spPkt := by
  refine F.ok sc_law_packet (fun vs H Q E h => ?_) (fun cdv A outer s H vs Q E hr h => ?_)
  · obtain ⟨a, t, v, rows, rfl, _⟩ := h
    rfl
  · obtain ⟨a, t, v, rows, rfl, t0, hv, g, k⟩ := h
    obtain ⟨b, xs, rfl, hb, hl, hx⟩ := fD_open hv
    refine ⟨_, (pss_cons (ps_setLc (i := 2) (own := [("k", 3)]) (by rfl) sc_law_packet.nd rfl rfl (sw_true rfl rfl rfl (by decide +kernel)) (pi_range1 (by rfl) T.b_range (pa_cons pe_int pa_nil)) (blkOk_by (N := ns_law_packet) (sc := defScope s_law_packet) (by decide +kernel)) (fun _ _ _ _ _ => (pg_name (i := 3) sc_law_packet.nd rfl (Or.inl rfl))) (fun _ _ _ _ _ => pts_nil) (fun _ _ _ _ _ => (pe_dcall D_law_word (hr.mono (by decide)) (by rfl) pass0 (pa_cons (pv 0) pa_nil))))
  (pss_cons (ps_for PassesOwn.never (by rfl) (kpiT K (pv 1)) (kpgT K (n := 3) (by rfl) (pgs_cons (pg_name (i := 4) sc_law_packet.nd rfl (Or.inl rfl)) (pgs_cons (pg_name (i := 5) sc_law_packet.nd rfl (Or.inl rfl)) (pgs_cons (pg_name (i := 6) sc_law_packet.nd rfl (Or.inl rfl)) pgs_nil)))) (pss_one (ps_if (pt_cmpR op_gt (pe_dcall D_law_next (hr.mono (by decide)) (by rfl) pass0 (pa_cons (pv 0) (pa_cons pe_int pa_nil))) pe_int (nomark _)) (pss_one (ps_asg (pe_op op_xor (pe_op op_xor (pe_op op_or (pe_ix (kIxL K) (pv 2) (pv 4) (fun _ _ => rfl)) (pv 5)) (pv 5)) (pv 6)) (pg_sub (pv 2) (pv 4) set_list))) pss_nil)))
  (pss_one (ps_ret (pe_callTy (kTupOf K) (by rfl) T.b_tuple (by decide +kernel) (pa_cons (pv 2) pa_nil)))))), ?_⟩
    walk_at "run"
    refine ⟨by omega, by omega, fun D hD => ?_⟩
    have nDa := t0.at hD
    have nDt := t0.at2 hD
    refine lc_range (fun i H' => ∃ ws : List Nat, ws.length = i ∧ (∀ n ∈ ws, n < 2 ^ 32) ∧ H' D = some (.lst (ws.map vN)) ∧ Tape H' a t ∧ Chg a H H') ?_ ?_ ?_
    · exact ⟨[], rfl, fun _ h => (by cases h), upd_same, t0.same (Same.new hD), Same.chg (Same.new hD)⟩
    · rintro i H1 hi ⟨ws, wl, w32, hd, t1, c1⟩
      refine ⟨rfl, ?_⟩
      walk_at "run"
      refine ⟨a, t, rfl, t1, fun m H2 m1 t2 c2 => ?_⟩
      refine ⟨_, c2 D _ nDa hd, szt (by rw [List.length_map, wl]; have : i < 6 := hi; omega), ws ++ [m], by simp [wl], ?_, ?_, t2.upd nDa nDt, Chg.mut (c1.trans c2) hD⟩
      · intro n hn
        rcases List.mem_append.mp hn with q | q
        · exact w32 n q
        · rw [List.mem_singleton.mp q]; exact m1
      · rw [upd_same, List.map_append]; rfl
    · rintro H1 ⟨ws, wl, w32, hd, t1, c1⟩
      have ts1 := t0.ts c1
      refine ⟨_, rfl, _, rfl, ⟨_, SqT.of (ts1 _ _ hb)⟩, for_tup (xs := xs) (fun i σ H' => ∃ (ws : List Nat) (v3 v4 v5 v6 : Option V), σ = [some (.ref a), some (.ref b), some (.ref D), v3, v4, v5, v6] ∧ ws.length = 6 ∧ (∀ n ∈ ws, n < 2 ^ 32) ∧ H' D = some (.lst (ws.map vN)) ∧ Tape H' a t ∧ Chg a H H') ?_ ?_ ?_ ?_⟩
      · exact ⟨ws, none, none, none, none, rfl, wl, w32, hd, t1, c1⟩
      · rintro i σ H' _ ⟨_, _, _, _, _, _, _, _, _, _, c'⟩
        exact SqT.of (t0.ts c' _ _ hb)
      · rintro i x σ H2 hi ⟨ws, v3, v4, v5, v6, rfl, wl, w32, hd, t2, c2⟩
        obtain ⟨r, p, hr1, rfl, ht⟩ := hx i x hi
        obtain ⟨g1, g2, g3, g4⟩ := g.2.1 r (List.mem_of_getElem? hr1)
        have g5 := and_le32 g4 g3
        refine ⟨p, _, rfl, SqT.of (t0.ts c2 _ _ ht), rfl, _, _, rfl, _, _, rfl, _, _, rfl, rfl, ?_⟩
        refine ⟨_, rfl, a, t, 4, rfl, by decide, by decide, t2, fun u H3 u0 u1 t3 c3 => ?_⟩
        walk_at "run"
        have hd3 := c3 D _ nDa hd
        refine iteD (fun e => ?_) (fun e => ?_)
        · have gw := getVN (ws := ws) (i := r.1) (by omega)
          refine ⟨_, rfl, _, rfl, _, _, _, _, rfl, rfl, SqL.of hd3, atC r.1 rfl gw, ?_⟩
          refine ⟨_, rfl, _, _, rfl, rfl, _, rfl, _, _, rfl, rfl, _, rfl, _, _, rfl, rfl, ?_⟩
          refine ⟨_, rfl, _, rfl, _, _, _, _, rfl, rfl, hd3, ixC r.1 rfl (by rw [List.length_map]; omega), ?_⟩
          refine ⟨ws.set r.1 (((ws.getD r.1 0 ||| r.2.1) ^^^ r.2.1) ^^^ r.2.2), _, _, _, _, rfl, by simp [wl], ?_, ?_, t3.upd nDa nDt, Chg.mut (c2.trans c3) hD⟩
          · refine mem_set32 w32 ?_
            have hw : ws.getD r.1 0 < 2 ^ 32 := by
              rw [List.getD_eq_getElem?_getD, List.getElem?_eq_getElem (by omega)]
              exact w32 _ (List.getElem_mem _)
            exact Nat.xor_lt_two_pow (Nat.xor_lt_two_pow (or_lt hw g3) g3) g5
          · rw [upd_same]
            show some (HO.lst ((ws.map vN).set r.1 (V.int (Builtin.bitXor (Builtin.bitXor (Builtin.bitOr (ws.getD r.1 0 : Nat) (r.2.1 : Nat)) (r.2.1 : Nat)) (r.2.2 : Nat))))) = _
            rw [bitOr_nat, bitXor_nat, bitXor_nat, mapSet]
        · exact ⟨ws, v3, _, _, _, rfl, wl, w32, hd3, t3, c2.trans c3⟩
      · rintro σ H2 ⟨ws, v3, v4, v5, v6, rfl, wl, w32, hd, t2, c2⟩
        walk_at "run"
        refine ⟨_, _, rfl, .inl ⟨SqL.of hd, fun p hp => ?_⟩⟩
        exact k ws _ _ wl w32 (pD_mk upd_same) (t2.same (Same.new hp)) (c2.trans (Same.chg (Same.new hp)))
/-! bits -/
theorem bitV (m b : Nat) : decide (V.int ((m : Int) / 2 ^ ((b : Int)).toNat % 2) = V.int 1) = m.testBit b := by
  rw [dec_int, Nat.testBit_eq_decide_div_mod_eq, Int.toNat_natCast]
  have e : (m : Int) / 2 ^ b % 2 = ((m / 2 ^ b % 2 : Nat) : Int) := by simp
  rw [e]
  by_cases h : m / 2 ^ b % 2 = 1
  · rw [h]; rfl
  · rw [decide_eq_false h, decide_eq_false (by omega)]
theorem bitNe (m n b : Nat) : (!decide (V.int ((m : Int) / 2 ^ ((b : Int)).toNat % 2) = V.int ((n : Int) / 2 ^ ((b : Int)).toNat % 2))) = (m.testBit b != n.testBit b) := by
  rw [dec_int, Nat.testBit_eq_decide_div_mod_eq, Nat.testBit_eq_decide_div_mod_eq, Int.toNat_natCast]
  have e : (m : Int) / 2 ^ b % 2 = ((m / 2 ^ b % 2 : Nat) : Int) := by simp
  have e2 : (n : Int) / 2 ^ b % 2 = ((n / 2 ^ b % 2 : Nat) : Int) := by simp
  rw [e, e2]
  have h1 : m / 2 ^ b % 2 < 2 := Nat.mod_lt _ (by decide)
  have h2 : n / 2 ^ b % 2 < 2 := Nat.mod_lt _ (by decide)
  generalize m / 2 ^ b % 2 = x at *
  generalize n / 2 ^ b % 2 = y at *
  have hx : x = 0 ∨ x = 1 := by omega
  have hy : y = 0 ∨ y = 1 := by omega
  rcases hx with rfl | rfl <;> rcases hy with rfl | rfl <;> rfl
def Mt (rows : List Row3) (ws : List Nat) : Prop := ∀ r ∈ rows, ∀ b, b < 32 → r.2.1.testBit b = true → (ws.getD r.1 0).testBit b = r.2.2.testBit b
def spLMeets : Sp := fun vs H Q _ => ∃ t p rows ws, vs = [t, p] ∧ Dt H t (fD rows) ∧ Dt H p (pD ws) ∧ ws.length = 6 ∧ (∀ r ∈ rows, r.1 < 6) ∧ ∀ b : Bool, (b = true ↔ Mt rows ws) → Q (.bl b) H
def Ap (one other : List Row3) : Prop := ∃ r ∈ one, ∃ s ∈ other, s.1 = r.1 ∧ ∃ b, b < 32 ∧ r.2.1.testBit b = true ∧ s.2.1.testBit b = true ∧ r.2.2.testBit b ≠ s.2.2.testBit b
def spApart : Sp := fun vs H Q _ => ∃ t p one other, vs = [t, p] ∧ Dt H t (fD one) ∧ Dt H p (fD other) ∧ ∀ b : Bool, (b = true ↔ Ap one other) → Q (.bl b) H
abbrev s_law_meets : Stmt := topS 20
abbrev ns_law_meets : List Str := ["rows", "packet", "index", "mask", "value", "bit"]
theorem sc_law_meets : FnScope ns_law_meets ["rows", "packet"] (defScope s_law_meets) := ⟨rfl, rfl, rfl, by decide +kernel, rfl, by decide +kernel, by decide +kernel⟩

theorem ok_law_meets {f : Addr} {fd : FuncData} (F : Fun K "_law_meets" "_law_meets" s_law_meets f fd) (T : Txt mg) : FnOk P w K mg base CX0 1 f fd ["rows", "packet"] spLMeets := by
  refine F.ok sc_law_meets (fun vs H Q E h => ?_) (fun cdv A outer s H vs Q E hr h => ?_)
  · obtain ⟨t, p, rows, ws, rfl, _⟩ := h
    rfl
  · obtain ⟨t, p, rows, ws, rfl, ht, hp, h6, hi, k⟩ := h
    obtain ⟨a, xs, rfl, ha, hl, hx⟩ := fD_open ht
    obtain ⟨b, rfl, hb⟩ := pD_open hp
    refine ⟨_, (pss_cons (ps_for PassesOwn.never (by rfl) (kpiT K (pv 0)) (kpgT K (n := 3) (by rfl) (pgs_cons (pg_name (i := 2) sc_law_meets.nd rfl (Or.inl rfl)) (pgs_cons (pg_name (i := 3) sc_law_meets.nd rfl (Or.inl rfl)) (pgs_cons (pg_name (i := 4) sc_law_meets.nd rfl (Or.inl rfl)) pgs_nil)))) (pss_one (ps_for PassesOwn.never (by rfl) (pi_range1 (by rfl) T.b_range (pa_cons pe_int pa_nil)) (pg_name (i := 5) sc_law_meets.nd rfl (Or.inl rfl)) (pss_one (ps_if (PW.pt (pw_and (pt_cmpR op_eq (pe_op op_mod (pe_op op_shr (pv 3) (pv 5)) pe_int) pe_int (nomark _)) (pw_and1 (pt_cmpR op_ne (pe_op op_mod (pe_op op_shr (pe_ix (kIxT K) (pv 1) (pv 2) (fun _ _ => rfl)) (pv 5)) pe_int) (pe_op op_mod (pe_op op_shr (pv 4) (pv 5)) pe_int) (nomark _))))) (pss_one (ps_ret pe_bl)) pss_nil)))))
  (pss_one (ps_ret pe_bl))), ?_⟩
    refine ⟨_, rfl, _, rfl, ⟨_, SqT.of ha⟩, for_tup (xs := xs) (fun i σ H' => ∃ v2 v3 v4 v5 : Option V, σ = [some (.ref a), some (.ref b), v2, v3, v4, v5] ∧ H' = H ∧ Mt (rows.take i) ws) ?_ ?_ ?_ ?_⟩
    · exact ⟨none, none, none, none, rfl, rfl, fun _ h => (by cases h)⟩
    · rintro i σ H' _ ⟨_, _, _, _, _, rfl, _⟩
      exact SqT.of ha
    · rintro i x σ H1 hi1 ⟨v2, v3, v4, v5, rfl, rfl, hm⟩
      obtain ⟨r, p, hr1, rfl, ht⟩ := hx i x hi1
      have hr6 := hi r (List.mem_of_getElem? hr1)
      refine ⟨p, _, rfl, SqT.of ht, rfl, _, _, rfl, _, _, rfl, _, _, rfl, rfl, ?_⟩
      refine ⟨32, rfl, by decide, by decide, for_range (fun j σ H' => ∃ v5 : Option V, σ = [some (.ref a), some (.ref b), some (.int r.1), some (.int r.2.1), some (.int r.2.2), v5] ∧ H' = H1 ∧ ∀ bb, bb < j → r.2.1.testBit bb = true → (ws.getD r.1 0).testBit bb = r.2.2.testBit bb) ?_ ?_ ?_⟩
      · exact ⟨v5, rfl, rfl, fun _ h => (by omega)⟩
      · rintro j σ H' hj ⟨v5', rfl, rfl, hb2⟩
        refine ⟨_, rfl, _, rfl, _, _, rfl, rfl, by omega, _, _, rfl, rfl, (by show (0 : Int) < 2; decide), rfl, _, rfl, ?_⟩
        have ej : (0 : Int) + (j : Int) = (j : Int) := Int.zero_add _
        rw [ej]
        have e1 := bitV r.2.1 j
        refine iteB (fun e => ?_) (fun e => ?_)
        · have e' : r.2.1.testBit j = true := by rw [← e1]; exact e
          refine ⟨_, rfl, _, rfl, _, _, _, _, rfl, rfl, SqT.of hb, atC r.1 rfl (getVN (by omega)), ?_⟩
          refine ⟨_, rfl, _, _, rfl, rfl, by omega, _, _, rfl, rfl, (by show (0 : Int) < 2; decide), _, rfl, _, rfl, _, _, rfl, rfl, by omega, _, _, rfl, rfl, (by show (0 : Int) < 2; decide), rfl, _, rfl, ?_⟩
          have e2 := bitNe (ws.getD r.1 0) r.2.2 j
          refine iteB (fun q => ?_) (fun q => ?_)
          · have q' : ((ws.getD r.1 0).testBit j != r.2.2.testBit j) = true := by rw [← e2]; exact q
            refine k false ⟨fun z => (by cases z), fun z => ?_⟩
            have := z r (List.mem_of_getElem? hr1) j hj e'
            rw [this] at q'; simp at q'
          · have q' : ((ws.getD r.1 0).testBit j != r.2.2.testBit j) = false := by rw [← e2]; exact q
            refine ⟨_, rfl, rfl, fun bb hbb hm1 => ?_⟩
            rcases Nat.lt_or_ge bb j with l | l
            · exact hb2 bb l hm1
            · have : bb = j := by omega
              subst this
              exact (bne_eq_false_iff_eq).mp q'
        · have e' : r.2.1.testBit j = false := by rw [← e1]; exact e
          refine iteF ⟨_, rfl, rfl, fun bb hbb hm1 => ?_⟩
          rcases Nat.lt_or_ge bb j with l | l
          · exact hb2 bb l hm1
          · have : bb = j := by omega
            subst this
            rw [e'] at hm1; cases hm1
      · rintro σ H' ⟨v5', rfl, rfl, hb2⟩
        refine ⟨_, _, _, _, rfl, rfl, fun r' hr' => ?_⟩
        rw [← take_snoc hr1] at hr'
        rcases List.mem_append.mp hr' with q | q
        · exact hm r' q
        · rw [List.mem_singleton.mp q]; exact hb2
    · rintro σ H1 ⟨v2, v3, v4, v5, rfl, rfl, hm⟩
      rw [hl, List.take_length] at hm
      exact k true ⟨fun _ => hm, fun _ => rfl⟩
end
end My

namespace My
open PySem L2
local macro_rules | `(tactic| walk_at "ne") => `(tactic| first | assumption | exact Ne.symm (by assumption) | exact ne_of_none (by assumption) (by assumption) | exact Ne.symm (ne_of_none (by assumption) (by assumption)))
local macro_rules | `(tactic| walk_at "hp") => `(tactic| first | assumption | with_reducible exact upd_same | (with_reducible refine Eq.trans (upd_ne ?_) ?_; rotate_left; walk_at "hp"; walk_at "ne"))
local macro_rules | `(tactic| walk_at "cnd") => `(tactic| first | omega | (show (0 : Int) < _; omega) | exact ⟨by omega, by omega⟩ | exact Or.inl ⟨by omega, by omega⟩ | exact Or.inr ⟨by omega, by omega⟩ | exact ⟨by omega, by omega, by decide⟩ | exact ⟨by omega, by omega, by omega⟩)
local macro_rules | `(tactic| walk_at "at") => `(tactic| first | exact atC 0 rfl rfl | exact atC 1 rfl rfl | exact atC 2 rfl rfl | exact atC 3 rfl rfl | exact atC 4 rfl rfl | exact atC 5 rfl rfl | exact atC 6 rfl rfl | exact atC 7 rfl rfl)
local macro_rules | `(tactic| walk_at "ix") => `(tactic| first | exact ixC 0 rfl (Nat.le_of_ble_eq_true rfl) | exact ixC 1 rfl (Nat.le_of_ble_eq_true rfl) | exact ixC 2 rfl (Nat.le_of_ble_eq_true rfl) | exact ixC 3 rfl (Nat.le_of_ble_eq_true rfl) | exact ixC 4 rfl (Nat.le_of_ble_eq_true rfl) | exact ixC 5 rfl (Nat.le_of_ble_eq_true rfl))
local macro_rules | `(tactic| walk_at "st") => `(tactic| first
  | refine ⟨_, rfl, ?_⟩
  | refine ⟨_, _, rfl, rfl, (by walk_at "cnd" : (_ : Prop)), ?_⟩
  | refine ⟨_, _, rfl, rfl, ?_⟩
  | refine ⟨rfl, ?_⟩
  | refine Or.inl ⟨_, rfl, ?_⟩
  | refine ⟨_, _, _, _, rfl, rfl, by exact SqL.of (by walk_at "hp"), by walk_at "at", ?_⟩
  | refine ⟨_, _, _, _, rfl, rfl, by exact SqT.of (by walk_at "hp"), by walk_at "at", ?_⟩
  | refine ⟨_, _, _, _, rfl, rfl, by walk_at "hp", by walk_at "ix", ?_⟩
  | refine ⟨_, _, rfl, Or.inl (by exact SqL.of (by walk_at "hp")), ?_⟩
  | refine ⟨_, _, rfl, Or.inr (by exact SqT.of (by walk_at "hp")), ?_⟩)
local macro_rules | `(tactic| walk_at "run") => `(tactic| repeat walk_at "st")

section
variable {P : Program} {w : World} {K : PySem.W.Frag} {mg : Str → Option Value} {base : Heap}
/-- none of the first bits, of the first rows -/
def NoBit (r s : Row3) (j : Nat) : Prop := ∀ b, b < j → ¬ (r.2.1.testBit b = true ∧ s.2.1.testBit b = true ∧ r.2.2.testBit b ≠ s.2.2.testBit b)
def NoAp (one other : List Row3) : Prop := ∀ r ∈ one, ∀ s ∈ other, s.1 = r.1 → NoBit r s 32
abbrev s_law_apart : Stmt := topS 21
abbrev ns_law_apart : List Str := ["one", "other", "index", "mask", "value", "place", "second", "wanted", "bit"]
theorem sc_law_apart : FnScope ns_law_apart ["one", "other"] (defScope s_law_apart) := ⟨rfl, rfl, rfl, by decide +kernel, rfl, by decide +kernel, by decide +kernel⟩

theorem ok_law_apart {f : Addr} {fd : FuncData} (F : Fun K "_law_apart" "_law_apart" s_law_apart f fd) (T : Txt mg) : FnOk P w K mg base CX0 1 f fd ["one", "other"] spApart := by
  refine F.ok sc_law_apart (fun vs H Q E h => ?_) (fun cdv A outer s H vs Q E hr h => ?_)
  · obtain ⟨t, p, one, other, rfl, _⟩ := h
    rfl
  · obtain ⟨t, p, one, other, rfl, ht, hp, k⟩ := h
    obtain ⟨a, xs, rfl, ha, hl, hx⟩ := fD_open ht
    obtain ⟨b, ys, rfl, hb, hl2, hy⟩ := fD_open hp
    refine ⟨_, (pss_cons (ps_for PassesOwn.never (by rfl) (kpiT K (pv 0)) (kpgT K (n := 3) (by rfl) (pgs_cons (pg_name (i := 2) sc_law_apart.nd rfl (Or.inl rfl)) (pgs_cons (pg_name (i := 3) sc_law_apart.nd rfl (Or.inl rfl)) (pgs_cons (pg_name (i := 4) sc_law_apart.nd rfl (Or.inl rfl)) pgs_nil)))) (pss_one (ps_for PassesOwn.never (by rfl) (kpiT K (pv 1)) (kpgT K (n := 3) (by rfl) (pgs_cons (pg_name (i := 5) sc_law_apart.nd rfl (Or.inl rfl)) (pgs_cons (pg_name (i := 6) sc_law_apart.nd rfl (Or.inl rfl)) (pgs_cons (pg_name (i := 7) sc_law_apart.nd rfl (Or.inl rfl)) pgs_nil)))) (pss_one (ps_if (pt_cmpR op_eq (pv 5) (pv 2) (nomark _)) (pss_one (ps_for PassesOwn.never (by rfl) (pi_range1 (by rfl) T.b_range (pa_cons pe_int pa_nil)) (pg_name (i := 8) sc_law_apart.nd rfl (Or.inl rfl)) (pss_one (ps_if (PW.pt (pw_and (pt_cmpR op_eq (pe_op op_mod (pe_op op_shr (pv 3) (pv 8)) pe_int) pe_int (nomark _)) (pw_and (pt_cmpR op_eq (pe_op op_mod (pe_op op_shr (pv 6) (pv 8)) pe_int) pe_int (nomark _)) (pw_and1 (pt_cmpR op_ne (pe_op op_mod (pe_op op_shr (pv 4) (pv 8)) pe_int) (pe_op op_mod (pe_op op_shr (pv 7) (pv 8)) pe_int) (nomark _)))))) (pss_one (ps_ret pe_bl)) pss_nil)))) pss_nil)))))
  (pss_one (ps_ret pe_bl))), ?_⟩
    refine ⟨_, rfl, _, rfl, ⟨_, SqT.of ha⟩, for_tup (xs := xs) (fun i σ H' => ∃ v2 v3 v4 v5 v6 v7 v8 : Option V, σ = [some (.ref a), some (.ref b), v2, v3, v4, v5, v6, v7, v8] ∧ H' = H ∧ NoAp (one.take i) other) ?_ ?_ ?_ ?_⟩
    · exact ⟨none, none, none, none, none, none, none, rfl, rfl, fun _ h => (by cases h)⟩
    · rintro i σ H' _ ⟨_, _, _, _, _, _, _, _, rfl, _⟩
      exact SqT.of ha
    · rintro i x σ H1 hi1 ⟨v2, v3, v4, v5, v6, v7, v8, rfl, rfl, hm⟩
      obtain ⟨r, p, hr1, rfl, ht⟩ := hx i x hi1
      refine ⟨p, _, rfl, SqT.of ht, rfl, _, _, rfl, _, _, rfl, _, _, rfl, rfl, ?_⟩
      refine ⟨_, rfl, _, rfl, ⟨_, SqT.of hb⟩, for_tup (xs := ys) (fun i σ H' => ∃ v5 v6 v7 v8 : Option V, σ = [some (.ref a), some (.ref b), some (.int r.1), some (.int r.2.1), some (.int r.2.2), v5, v6, v7, v8] ∧ H' = H1 ∧ ∀ s ∈ other.take i, s.1 = r.1 → NoBit r s 32) ?_ ?_ ?_ ?_⟩
      · exact ⟨v5, v6, v7, v8, rfl, rfl, fun _ h => (by cases h)⟩
      · rintro i σ H' _ ⟨_, _, _, _, _, rfl, _⟩
        exact SqT.of hb
      · rintro i2 y σ H2 hi2 ⟨v5, v6, v7, v8, rfl, rfl, hm2⟩
        obtain ⟨s, q, hs1, rfl, hq⟩ := hy i2 y hi2
        refine ⟨q, _, rfl, SqT.of hq, rfl, _, _, rfl, _, _, rfl, _, _, rfl, rfl, ?_⟩
        have fin : (s.1 = r.1 → NoBit r s 32) → ∀ s' ∈ other.take (i2 + 1), s'.1 = r.1 → NoBit r s' 32 := by
          intro h s' hs' e
          rw [← take_snoc hs1] at hs'
          rcases List.mem_append.mp hs' with z | z
          · exact hm2 s' z e
          · rw [List.mem_singleton.mp z] at e ⊢
            exact h e
        refine ⟨_, rfl, _, rfl, rfl, _, rfl, ?_⟩
        have en : decide (V.int (s.1 : Int) = V.int (r.1 : Int)) = decide (s.1 = r.1) := dec_nat _ _
        refine iteB (fun e => ?_) (fun e => ?_)
        · have e' : s.1 = r.1 := by
            have : decide (s.1 = r.1) = true := by rw [← en]; exact e
            exact of_decide_eq_true this
          refine ⟨32, rfl, by decide, by decide, for_range (fun j σ H' => ∃ v8 : Option V, σ = [some (.ref a), some (.ref b), some (.int r.1), some (.int r.2.1), some (.int r.2.2), some (.int s.1), some (.int s.2.1), some (.int s.2.2), v8] ∧ H' = H2 ∧ NoBit r s j) ?_ ?_ ?_⟩
          · exact ⟨v8, rfl, rfl, fun _ h => (by omega)⟩
          · rintro j σ H' hj ⟨v8', rfl, rfl, nb⟩
            refine ⟨_, rfl, _, rfl, _, _, rfl, rfl, by omega, _, _, rfl, rfl, (by show (0 : Int) < 2; decide), rfl, _, rfl, ?_⟩
            have ej : (0 : Int) + (j : Int) = (j : Int) := Int.zero_add _
            rw [ej]
            have step : ¬ (r.2.1.testBit j = true ∧ s.2.1.testBit j = true ∧ r.2.2.testBit j ≠ s.2.2.testBit j) → NoBit r s (j + 1) := by
              intro h b hb
              rcases Nat.lt_or_ge b j with l | l
              · exact nb b l
              · have : b = j := by omega
                subst this; exact h
            have e1 := bitV r.2.1 j
            refine iteB (fun q1 => ?_) (fun q1 => ?_)
            · have q1' : r.2.1.testBit j = true := by rw [← e1]; exact q1
              refine ⟨_, rfl, _, rfl, _, _, rfl, rfl, by omega, _, _, rfl, rfl, (by show (0 : Int) < 2; decide), rfl, _, rfl, ?_⟩
              have e2 := bitV s.2.1 j
              refine iteB (fun q2 => ?_) (fun q2 => ?_)
              · have q2' : s.2.1.testBit j = true := by rw [← e2]; exact q2
                refine ⟨_, rfl, _, rfl, _, _, rfl, rfl, by omega, _, _, rfl, rfl, (by show (0 : Int) < 2; decide), _, rfl, _, rfl, _, _, rfl, rfl, by omega, _, _, rfl, rfl, (by show (0 : Int) < 2; decide), rfl, _, rfl, ?_⟩
                have e3 := bitNe r.2.2 s.2.2 j
                refine iteB (fun q3 => ?_) (fun q3 => ?_)
                · have q3' : (r.2.2.testBit j != s.2.2.testBit j) = true := by rw [← e3]; exact q3
                  exact k true ⟨fun _ => ⟨r, List.mem_of_getElem? hr1, s, List.mem_of_getElem? hs1, e', j, hj, q1', q2', bne_iff_ne.mp q3'⟩, fun _ => rfl⟩
                · have q3' : (r.2.2.testBit j != s.2.2.testBit j) = false := by rw [← e3]; exact q3
                  exact ⟨_, rfl, rfl, step fun h => h.2.2 (bne_eq_false_iff_eq.mp q3')⟩
              · have q2' : s.2.1.testBit j = false := by rw [← e2]; exact q2
                refine iteF ⟨_, rfl, rfl, step fun h => ?_⟩
                rw [q2'] at h; exact absurd h.2.1 (by decide)
            · have q1' : r.2.1.testBit j = false := by rw [← e1]; exact q1
              refine iteF ⟨_, rfl, rfl, step fun h => ?_⟩
              rw [q1'] at h; exact absurd h.1 (by decide)
          · rintro σ H' ⟨v8', rfl, rfl, nb⟩
            exact ⟨_, _, _, _, rfl, rfl, fin fun _ => nb⟩
        · have e' : ¬ s.1 = r.1 := by
            have : decide (s.1 = r.1) = false := by rw [← en]; exact e
            exact of_decide_eq_false this
          exact ⟨_, _, _, v8, rfl, rfl, fin fun z => absurd z e'⟩
      · rintro σ H2 ⟨v5, v6, v7, v8, rfl, rfl, hm2⟩
        rw [hl2, List.take_length] at hm2
        refine ⟨_, _, _, _, _, _, _, rfl, rfl, fun r' hr' => ?_⟩
        rw [← take_snoc hr1] at hr'
        rcases List.mem_append.mp hr' with q | q
        · exact hm r' q
        · rw [List.mem_singleton.mp q]; exact hm2
    · rintro σ H1 ⟨v2, v3, v4, v5, v6, v7, v8, rfl, rfl, hm⟩
      rw [hl, List.take_length] at hm
      refine k false ⟨fun z => (by cases z), fun z => ?_⟩
      obtain ⟨r, hr, s, hs, e, b, hb, h⟩ := z
      exact absurd h (hm r hr s hs e b hb)
end
end My

namespace My
open PySem L2
local macro_rules | `(tactic| walk_at "ne") => `(tactic| first | assumption | exact Ne.symm (by assumption) | exact ne_of_none (by assumption) (by assumption) | exact Ne.symm (ne_of_none (by assumption) (by assumption)))
local macro_rules | `(tactic| walk_at "hp") => `(tactic| first | assumption | with_reducible exact upd_same | (with_reducible refine Eq.trans (upd_ne ?_) ?_; rotate_left; walk_at "hp"; walk_at "ne"))
local macro_rules | `(tactic| walk_at "cnd") => `(tactic| first | omega | (show (0 : Int) < _; omega) | exact ⟨by omega, by omega⟩ | exact Or.inl ⟨by omega, by omega⟩ | exact Or.inr ⟨by omega, by omega⟩ | exact ⟨by omega, by omega, by decide⟩ | exact ⟨by omega, by omega, by omega⟩)
local macro_rules | `(tactic| walk_at "at") => `(tactic| first | exact atC 0 rfl rfl | exact atC 1 rfl rfl | exact atC 2 rfl rfl | exact atC 3 rfl rfl | exact atC 4 rfl rfl | exact atC 5 rfl rfl | exact atC 6 rfl rfl | exact atC 7 rfl rfl)
local macro_rules | `(tactic| walk_at "ix") => `(tactic| first | exact ixC 0 rfl (Nat.le_of_ble_eq_true rfl) | exact ixC 1 rfl (Nat.le_of_ble_eq_true rfl) | exact ixC 2 rfl (Nat.le_of_ble_eq_true rfl) | exact ixC 3 rfl (Nat.le_of_ble_eq_true rfl) | exact ixC 4 rfl (Nat.le_of_ble_eq_true rfl) | exact ixC 5 rfl (Nat.le_of_ble_eq_true rfl))
local macro_rules | `(tactic| walk_at "st") => `(tactic| first
  | refine ⟨_, rfl, ?_⟩
  | refine ⟨_, _, rfl, rfl, (by walk_at "cnd" : (_ : Prop)), ?_⟩
  | refine ⟨_, _, rfl, rfl, ?_⟩
  | refine ⟨rfl, ?_⟩
  | refine Or.inl ⟨_, rfl, ?_⟩
  | refine ⟨_, _, _, _, rfl, rfl, by exact SqL.of (by walk_at "hp"), by walk_at "at", ?_⟩
  | refine ⟨_, _, _, _, rfl, rfl, by exact SqT.of (by walk_at "hp"), by walk_at "at", ?_⟩
  | refine ⟨_, _, _, _, rfl, rfl, by walk_at "hp", by walk_at "ix", ?_⟩
  | refine ⟨_, _, rfl, Or.inl (by exact SqL.of (by walk_at "hp")), ?_⟩
  | refine ⟨_, _, rfl, Or.inr (by exact SqT.of (by walk_at "hp")), ?_⟩)
local macro_rules | `(tactic| walk_at "run") => `(tactic| repeat walk_at "st")

/-! what the package's tests say of drawn rows -/
theorem isI_nat {n : Nat} {hi : Int} (h : (n : Int) ≤ hi) : isI (.int (n : Int)) 0 hi = true := by
  show (decide ((0 : Int) ≤ n) && decide ((n : Int) ≤ hi)) = true
  rw [decide_eq_true (Int.natCast_nonneg n), decide_eq_true h]; rfl
theorem isTst_row {r : Row3} (h1 : r.1 < 6) (h2 : 0 < r.2.1) (h3 : r.2.1 < 2 ^ 32) (h4 : r.2.2 &&& r.2.1 = r.2.2) : isTst (rowD r) = true := by
  have h5 := and_le32 h4 h3
  show (isI (.int (r.1 : Int)) 0 5 && isI (.int (r.2.1 : Int)) 0 4294967295 && isI (.int (r.2.2 : Int)) 0 4294967295 && okVal (.int (r.2.1 : Int)) (.int (r.2.2 : Int))) = true
  rw [isI_nat (by omega), isI_nat (by omega), isI_nat (by omega)]
  show ((!decide ((r.2.1 : Int) = 0)) && decide (Builtin.bitAnd (r.2.2 : Int) (r.2.1 : Int) = (r.2.2 : Int))) = true
  rw [bitAnd_nat, h4, decide_eq_false (by omega), decide_eq_true rfl]; rfl
theorem isFl_of {ds : List PyData} (h1 : ds.length ≤ 6) (h2 : ∀ d ∈ ds, isTst d = true) (h3 : ∀ i, i + 1 < ds.length → idxD (ds.getD i .none) < idxD (ds.getD (i + 1) .none)) : isFl (.tuple ds) = true := by
  show (decide (ds.length ≤ 6) && ds.all isTst && (List.range (ds.length - 1)).all fun i => decide (idxD (ds.getD i .none) < idxD (ds.getD (i + 1) .none))) = true
  rw [decide_eq_true h1, List.all_eq_true.mpr h2, List.all_eq_true.mpr]
  · rfl
  · intro i hi
    have := List.mem_range.mp hi
    exact decide_eq_true (h3 i (by omega))
theorem getD_row {rows : List Row3} {i : Nat} (h : i < rows.length) : (rows.map rowD).getD i .none = rowD rows[i] := by
  rw [List.getD_eq_getElem?_getD, List.getElem?_map, List.getElem?_eq_getElem h]; rfl
theorem isFl_good {rows : List Row3} (g : Good rows) : isFl (fD rows) = true := by
  refine isFl_of (by rw [List.length_map]; exact g.2.2) ?_ ?_
  · intro d hd
    obtain ⟨r, hr, rfl⟩ := List.mem_map.mp hd
    obtain ⟨a, b, c, d⟩ := g.2.1 r hr
    exact isTst_row a b c d
  · intro i hi
    rw [List.length_map] at hi
    rw [getD_row (by omega), getD_row hi]
    have := List.pairwise_iff_getElem.mp g.1 i (i + 1) (by omega) hi (by omega)
    show ((rows[i].1 : Nat) : Int) < (rows[i + 1].1 : Nat)
    omega
theorem isFl_bad {ds : List PyData} {x : PyData} (hx : x ∈ ds) (h : isTst x = false) : isFl (.tuple ds) = false := by
  show (decide (ds.length ≤ 6) && ds.all isTst && _) = false
  have : ds.all isTst = false := by
    rw [List.all_eq_false]
    exact ⟨x, hx, by rw [h]; decide⟩
  rw [this]
  cases decide (ds.length ≤ 6) <;> rfl
theorem isFl_twice {rows : List Row3} (g : Good rows) (hne : rows ≠ []) : isFl (.tuple (rows.map rowD ++ rows.map rowD)) = false := by
  have hp : 0 < rows.length := List.length_pos_iff.mpr hne
  show (_ && _ && (List.range ((rows.map rowD ++ rows.map rowD).length - 1)).all fun i => decide (idxD ((rows.map rowD ++ rows.map rowD).getD i .none) < idxD ((rows.map rowD ++ rows.map rowD).getD (i + 1) .none))) = false
  have : ((List.range ((rows.map rowD ++ rows.map rowD).length - 1)).all fun i => decide (idxD ((rows.map rowD ++ rows.map rowD).getD i .none) < idxD ((rows.map rowD ++ rows.map rowD).getD (i + 1) .none))) = false := by
    rw [List.all_eq_false]
    refine ⟨rows.length - 1, List.mem_range.mpr (by simp; omega), ?_⟩
    have e1 : (rows.map rowD ++ rows.map rowD).getD (rows.length - 1) .none = rowD rows[rows.length - 1] := by
      rw [List.getD_eq_getElem?_getD, List.getElem?_append_left (by simp; omega), List.getElem?_map, List.getElem?_eq_getElem (by omega)]; rfl
    have e2 : (rows.map rowD ++ rows.map rowD).getD (rows.length - 1 + 1) .none = rowD rows[0] := by
      rw [List.getD_eq_getElem?_getD, List.getElem?_append_right (by simp; omega), List.getElem?_map]
      rw [show rows.length - 1 + 1 - (rows.map rowD).length = 0 by simp; omega, List.getElem?_eq_getElem hp]; rfl
    rw [e1, e2]
    have h : ¬ (((rows[rows.length - 1].1 : Nat) : Int) < (rows[0].1 : Nat)) := by
      rcases Nat.lt_or_ge 0 (rows.length - 1) with l | l
      · have := List.pairwise_iff_getElem.mp g.1 0 (rows.length - 1) (by omega) (by omega) l
        omega
      · have e : rows.length - 1 = 0 := by omega
        simp only [e]; omega
    show ¬ decide (((rows[rows.length - 1].1 : Nat) : Int) < (rows[0].1 : Nat)) = true
    rw [decide_eq_false h]; decide
  rw [this]
  simp
theorem isPk_good {ws : List Nat} (h : ws.length = 6) (h2 : ∀ n ∈ ws, n < 2 ^ 32) : isPk (pD ws) = true := by
  show (decide ((ws.map fun n : Nat => PyData.int (n : Int)).length = 6) && (ws.map fun n : Nat => PyData.int (n : Int)).all fun d => isI d 0 4294967295) = true
  rw [List.length_map, decide_eq_true h, List.all_eq_true.mpr]
  · rfl
  · intro d hd
    obtain ⟨n, hn, rfl⟩ := List.mem_map.mp hd
    have := h2 n hn
    exact isI_nat (by omega)
def spSpoilt : Sp := fun vs H Q _ => ∃ v rows, vs = [v] ∧ Dt H v (fD rows) ∧ Good rows ∧ ∀ H', Same H H' → Q (.bl true) H'
theorem dt_wrap {H : Hp} {a1 a2 : Addr} {xs : List V} {ds : List PyData} (h : DtAll H xs ds) (m1 : H a1 = none) (m2 : upd H a1 (.tup xs) a2 = none) :
    Dt (upd (upd H a1 (.tup xs)) a2 (.tup [.ref a1])) (.ref a2) (.tuple [.tuple ds]) ∧ Same H (upd (upd H a1 (.tup xs)) a2 (.tup [.ref a1])) :=
  ⟨Dt.new (.cons (Dt.new h m1) .nil) m2, (Same.new m1).trans (Same.new m2)⟩
section
variable {P : Program} {w : World} {K : PySem.W.Frag} {mg : Str → Option Value} {base : Heap}
abbrev s_law_spoilt : Stmt := topS 22
abbrev ns_law_spoilt : List Str := ["rows", "bad", "row"]
theorem sc_law_spoilt : FnScope ns_law_spoilt ["rows"] (defScope s_law_spoilt) := ⟨rfl, rfl, rfl, by decide +kernel, rfl, by decide +kernel, by decide +kernel⟩

theorem ok_law_spoilt {f : Addr} {fd : FuncData} (F : Fun K "_law_spoilt" "_law_spoilt" s_law_spoilt f fd) (T : Txt mg) (D_is_filter : Dfn P w K mg base CX0 5 "is_filter" ["value"] spFl) : FnOk P w K mg base CX0 6 f fd ["rows"] spSpoilt := by
  refine F.ok sc_law_spoilt (fun vs H Q E h => ?_) (fun cdv A outer s H vs Q E hr h => ?_)
  · obtain ⟨v, rows, rfl, _⟩ := h
    rfl
  · obtain ⟨v, rows, rfl, hv, g, k⟩ := h
    have hl6 := g.2.2
    have hlm : (rows.map rowD).length ≤ 6 := by rw [List.length_map]; exact hl6
    obtain ⟨ra, rxs, rfl, hra, hrl, _⟩ := fD_open hv
    refine ⟨_, (pss_cons (ps_set (i := 1) sc_law_spoilt.nd rfl (Or.inl rfl) (pe_lst (pa_cons (pe_callTy (kListOf K) (by rfl) T.b_list (by decide +kernel) (pa_cons (pv 0) pa_nil)) (pa_cons (pe_op (kCatT K) (pv 0) (pe_tup (pa_cons (pe_tup (pa_cons pe_int (pa_cons pe_int (pa_cons pe_int pa_nil)))) pa_nil))) (pa_cons (pe_op (kCatT K) (pv 0) (pe_tup (pa_cons (pe_tup (pa_cons pe_int (pa_cons pe_int (pa_cons pe_int pa_nil)))) pa_nil))) (pa_cons (pe_op (kCatT K) (pv 0) (pe_tup (pa_cons (pe_tup (pa_cons pe_int (pa_cons pe_int (pa_cons pe_int pa_nil)))) pa_nil))) (pa_cons (pe_tup (pa_cons (pe_tup (pa_cons pe_bl (pa_cons pe_int (pa_cons pe_int pa_nil)))) pa_nil)) (pa_cons (pe_tup (pa_cons (pe_tup (pa_cons pe_int (pa_cons pe_int pa_nil))) pa_nil)) (pa_cons (pe_op (kCatT K) (pv 0) (pv 0)) pa_nil)))))))))
  (pss_cons (ps_for PassesOwn.never (by rfl) (kpiL K (pv 1)) (pg_name (i := 2) sc_law_spoilt.nd rfl (Or.inl rfl)) (pss_one (ps_if (PW.pt (pw_and (pt_val (pe_dcall D_is_filter (hr.mono (by decide)) (by rfl) pass0 (pa_cons (pv 2) pa_nil))) (pw_and1 (PW.pt (pw_or (pt_cmpR (kNeD K hr.units) (pv 2) (pe_op (kCatT K) (pv 0) (pv 0)) (nomark _)) (pw_or1 (pt_cmpR op_gt (pe_callB (kLen K) (by rfl) T.b_len (by decide +kernel) (pa_cons (pv 0) pa_nil)) pe_int (nomark _)))))))) (pss_one (ps_ret pe_bl)) pss_nil)))
  (pss_one (ps_ret pe_bl)))), ?_⟩
    -- list(rows)
    refine ⟨_, rfl, _, _, rfl, .inr (SqT.of hra), fun p1 n1 => ?_⟩
    have hs1 : DtAll H rxs (rows.map rowD) := by
      unfold fD at hv
      cases hv with
      | tup h hs =>
        rw [hra] at h
        cases h; exact hs
    have v1 : Dt (upd H p1 (.lst rxs)) (.ref p1) (.list (rows.map rowD)) := .lst upd_same (hs1.same (Same.new n1))
    have s1 : Same H (upd H p1 (.lst rxs)) := Same.new n1
    generalize upd H p1 (.lst rxs) = G1 at v1 s1
    -- rows + ((6, 1, 1),)
    refine ⟨_, rfl, szl rfl, fun a1 m1 => ⟨szl rfl, fun a2 m2 => ?_⟩⟩
    obtain ⟨w1, s2⟩ := dt_wrap (.cons (.int 6) (.cons (.int 1) (.cons (.int 1) .nil))) m1 m2
    refine r_catD ((hv.same s1).same s2) w1 (by show (rows.map rowD).length + 1 ≤ _; omega) fun b1 G2 s3 v2 => ?_
    have s02 := (s1.trans s2).trans s3
    replace v1 := (v1.same s2).same s3
    -- rows + ((5, 0, 0),)
    refine ⟨_, rfl, szl rfl, fun a3 m3 => ⟨szl rfl, fun a4 m4 => ?_⟩⟩
    obtain ⟨w2, s4⟩ := dt_wrap (.cons (.int 5) (.cons (.int 0) (.cons (.int 0) .nil))) m3 m4
    refine r_catD ((hv.same s02).same s4) w2 (by show (rows.map rowD).length + 1 ≤ _; omega) fun b2 G3 s5 v3 => ?_
    have s03 := (s02.trans s4).trans s5
    replace v1 := (v1.same s4).same s5
    replace v2 := (v2.same s4).same s5
    -- rows + ((5, 1, 2),)
    refine ⟨_, rfl, szl rfl, fun a5 m5 => ⟨szl rfl, fun a6 m6 => ?_⟩⟩
    obtain ⟨w3, s6⟩ := dt_wrap (.cons (.int 5) (.cons (.int 1) (.cons (.int 2) .nil))) m5 m6
    refine r_catD ((hv.same s03).same s6) w3 (by show (rows.map rowD).length + 1 ≤ _; omega) fun b3 G4 s7 v4 => ?_
    have s04 := (s03.trans s6).trans s7
    replace v1 := (v1.same s6).same s7
    replace v2 := (v2.same s6).same s7
    replace v3 := (v3.same s6).same s7
    -- ((True, 1, 1),), ((1, 1),)
    refine ⟨szl rfl, fun a7 m7 => ⟨szl rfl, fun a8 m8 => ?_⟩⟩
    obtain ⟨v5, s8⟩ := dt_wrap (.cons (.bl true) (.cons (.int 1) (.cons (.int 1) .nil))) m7 m8
    refine ⟨szl rfl, fun a9 m9 => ⟨szl rfl, fun a10 m10 => ?_⟩⟩
    obtain ⟨v6, s9⟩ := dt_wrap (.cons (.int 1) (.cons (.int 1) .nil)) m9 m10
    replace v5 := v5.same s9
    replace v1 := (v1.same s8).same s9
    replace v2 := (v2.same s8).same s9
    replace v3 := (v3.same s8).same s9
    replace v4 := (v4.same s8).same s9
    have s05 := (s04.trans s8).trans s9
    -- rows + rows
    refine ⟨_, rfl, _, rfl, r_catD (hv.same s05) (hv.same s05) (by show (rows.map rowD).length + (rows.map rowD).length ≤ _; omega) fun b4 G5 s10 v7 => ?_⟩
    have s06 := s05.trans s10
    replace v1 := v1.same s10
    replace v2 := v2.same s10
    replace v3 := v3.same s10
    replace v4 := v4.same s10
    replace v5 := v5.same s10
    replace v6 := v6.same s10
    refine ⟨szl rfl, fun B hB => ?_⟩
    have all7 : DtAll G5 _ _ := .cons v1 (.cons v2 (.cons v3 (.cons v4 (.cons v5 (.cons v6 (.cons v7 .nil))))))
    have h6 := upd_same (H := G5) (a := B) (o := .lst [.ref p1, b1, b2, b3, .ref a8, .ref a10, b4])
    have s07 := s06.trans (Same.new (o := .lst [.ref p1, b1, b2, b3, .ref a8, .ref a10, b4]) hB)
    replace all7 := all7.same (Same.new (o := .lst [.ref p1, b1, b2, b3, .ref a8, .ref a10, b4]) hB)
    generalize upd G5 B _ = G6 at h6 s07 all7
    have key : ∀ d, d ∈ [PyData.list (rows.map rowD), .tuple (rows.map rowD ++ [.tuple [.int 6, .int 1, .int 1]]), .tuple (rows.map rowD ++ [.tuple [.int 5, .int 0, .int 0]]), .tuple (rows.map rowD ++ [.tuple [.int 5, .int 1, .int 2]]),
        .tuple [.tuple [.bool true, .int 1, .int 1]], .tuple [.tuple [.int 1, .int 1]], .tuple (rows.map rowD ++ rows.map rowD)] → (∀ ds, d = .tuple ds → ds.length ≤ 1000) ∧ (isFl d = false ∨ (d = .tuple [] ∧ rows = [])) := by
      intro d hd
      simp only [List.mem_cons, List.not_mem_nil, or_false] at hd
      rcases hd with rfl | rfl | rfl | rfl | rfl | rfl | rfl
      · exact ⟨fun ds e => (by cases e), .inl rfl⟩
      · exact ⟨fun ds e => by cases e; rw [List.length_append]; show _ + 1 ≤ 1000; omega, .inl (isFl_bad (List.mem_append_right _ (List.mem_singleton.mpr rfl)) rfl)⟩
      · exact ⟨fun ds e => by cases e; rw [List.length_append]; show _ + 1 ≤ 1000; omega, .inl (isFl_bad (List.mem_append_right _ (List.mem_singleton.mpr rfl)) rfl)⟩
      · exact ⟨fun ds e => by cases e; rw [List.length_append]; show _ + 1 ≤ 1000; omega, .inl (isFl_bad (List.mem_append_right _ (List.mem_singleton.mpr rfl)) (by decide +kernel))⟩
      · exact ⟨fun ds e => by cases e; decide, .inl (isFl_bad (List.mem_singleton.mpr rfl) rfl)⟩
      · exact ⟨fun ds e => by cases e; decide, .inl (isFl_bad (List.mem_singleton.mpr rfl) rfl)⟩
      · refine ⟨fun ds e => by cases e; rw [List.length_append]; omega, ?_⟩
        by_cases he : rows = []
        · exact .inr ⟨by rw [he]; rfl, he⟩
        · exact .inl (isFl_twice g he)
    refine ⟨_, rfl, _, rfl, ⟨_, SqL.of h6⟩, for_list (xs := [.ref p1, b1, b2, b3, .ref a8, .ref a10, b4]) (fun i σ H' => ∃ v2 : Option V, σ = [some (.ref ra), some (.ref B), v2] ∧ Same G6 H') ?_ ?_ ?_ ?_⟩
    · exact ⟨none, rfl, Same.refl _⟩
    · rintro i σ H' _ ⟨_, _, s⟩
      exact SqL.of (s _ _ h6)
    · rintro i x σ H1 hi ⟨v2, rfl, s⟩
      obtain ⟨d, hd, hD⟩ := all7.getV hi
      obtain ⟨hz, hk⟩ := key d (List.mem_of_getElem? hd)
      refine ⟨_, rfl, x, d, rfl, hD.same s, hz, fun H2 s2 => ⟨_, rfl, ?_⟩⟩
      rcases hk with e | ⟨rfl, rfl⟩
      · rw [e]
        exact iteF (iteF ⟨_, rfl, s.trans s2⟩)
      · refine iteT ⟨_, rfl, _, rfl, _, rfl, ?_⟩
        have s8 := (s07.trans s).trans s2
        refine r_catD (hv.same s8) (hv.same s8) (by decide) fun v' H3 s3 w' => ?_
        refine ⟨.tuple [], .tuple [], ((hD.same s).same s2).same s3 |>.dp, w'.dp, rfl, rfl, _, rfl, ?_⟩
        refine iteF ⟨_, rfl, _, _, rfl, .inr (SqT.of ((s8.trans s3) _ _ hra)), _, _, rfl, rfl, _, rfl, ?_⟩
        refine iteD (fun q => ?_) (fun q => ?_)
        · exfalso
          rw [hrl] at q
          exact absurd q (by decide)
        · exact ⟨_, rfl, (s.trans s2).trans s3⟩
    · rintro σ H1 ⟨v2, rfl, s⟩
      exact k H1 (s07.trans s)
end
end My

namespace My
open PySem L2
/-! ### the mathematics of common packets -/
theorem getD_set_self {ws : List Nat} {i x : Nat} (h : i < ws.length) : (ws.set i x).getD i 0 = x := by
  rw [List.getD_eq_getElem?_getD, List.getElem?_set_self h]; rfl
theorem getD_set_ne {ws : List Nat} {i j x : Nat} (h : i ≠ j) : (ws.set i x).getD j 0 = ws.getD j 0 := by
  rw [List.getD_eq_getElem?_getD, List.getElem?_set_ne h, List.getD_eq_getElem?_getD]
def Up (rows : List Row3) : Prop := rows.Pairwise (fun r s => r.1 < s.1)
theorem Up.ne {r : Row3} {rs : List Row3} (h : Up (r :: rs)) : ∀ s ∈ rs, s.1 ≠ r.1 := fun s hs => by
  have := (List.pairwise_cons.mp h).1 s hs
  omega
theorem st1_out : ∀ (rows : List Row3) (p : List Nat × List Nat) (i : Nat), (∀ r ∈ rows, r.1 ≠ i) → (rows.foldl st1 p).1.getD i 0 = p.1.getD i 0 ∧ (rows.foldl st1 p).2.getD i 0 = p.2.getD i 0
  | [], p, i, _ => ⟨rfl, rfl⟩
  | r :: rs, p, i, h => by
    have h0 := h r (List.mem_cons_self)
    obtain ⟨a, b⟩ := st1_out rs (st1 p r) i fun s hs => h s (List.mem_cons_of_mem _ hs)
    rw [List.foldl_cons, a, b]
    exact ⟨getD_set_ne h0, getD_set_ne h0⟩
theorem st1_in : ∀ (rows : List Row3) (p : List Nat × List Nat) (r : Row3), Up rows → p.1.length = 6 → p.2.length = 6 → r ∈ rows → r.1 < 6 → (rows.foldl st1 p).1.getD r.1 0 = r.2.1 ∧ (rows.foldl st1 p).2.getD r.1 0 = r.2.2
  | [], p, r, _, _, _, h, _ => by cases h
  | q :: rs, p, r, hu, l1, l2, h, h6 => by
    rcases List.mem_cons.mp h with e | h
    · subst e
      obtain ⟨a, b⟩ := st1_out rs (st1 p r) r.1 (hu.ne)
      rw [List.foldl_cons, a, b]
      exact ⟨getD_set_self (by omega), getD_set_self (by omega)⟩
    · exact st1_in rs (st1 p q) r (List.pairwise_cons.mp hu).2 (by simp [st1, l1]) (by simp [st1, l2]) h h6
def stO (ws : List Nat) (r : Row3) : List Nat := ws.set r.1 (ws.getD r.1 0 ||| r.2.2)
theorem stO_len : ∀ (rows : List Row3) (ws : List Nat), (rows.foldl stO ws).length = ws.length
  | [], ws => rfl
  | r :: rs, ws => by rw [List.foldl_cons, stO_len rs]; simp [stO]
theorem stO_out : ∀ (rows : List Row3) (ws : List Nat) (i : Nat), (∀ r ∈ rows, r.1 ≠ i) → (rows.foldl stO ws).getD i 0 = ws.getD i 0
  | [], ws, i, _ => rfl
  | r :: rs, ws, i, h => by
    rw [List.foldl_cons, stO_out rs (stO ws r) i fun s hs => h s (List.mem_cons_of_mem _ hs)]
    exact getD_set_ne (h r List.mem_cons_self)
theorem stO_in : ∀ (rows : List Row3) (ws : List Nat) (r : Row3), Up rows → r ∈ rows → r.1 < ws.length → (rows.foldl stO ws).getD r.1 0 = ws.getD r.1 0 ||| r.2.2
  | [], ws, r, _, h, _ => by cases h
  | q :: rs, ws, r, hu, h, h6 => by
    rcases List.mem_cons.mp h with e | h
    · subst e
      rw [List.foldl_cons, stO_out rs (stO ws r) r.1 hu.ne]
      exact getD_set_self h6
    · rw [List.foldl_cons, stO_in rs (stO ws q) r (List.pairwise_cons.mp hu).2 h (by simp [stO]; exact h6)]
      rw [show (stO ws q).getD r.1 0 = ws.getD r.1 0 from getD_set_ne (fun e => hu.ne r h e.symm)]
/-- a clash -/
def Cl (ms ws : List Nat) (s : Row3) : Prop := ((ws.getD s.1 0 ^^^ s.2.2) &&& ms.getD s.1 0) &&& s.2.1 ≠ 0
theorem Cl.set {ms ws : List Nat} {q s : Row3} {x : Nat} (h : s.1 ≠ q.1) : Cl ms (ws.set q.1 x) s ↔ Cl ms ws s := by
  unfold Cl
  rw [getD_set_ne (fun e => h e.symm)]
theorem st2_some (ms : List Nat) : ∀ (rows : List Row3) (ws : List Nat), Up rows → (∀ s ∈ rows, ¬ Cl ms ws s) → rows.foldl (st2 ms) (some ws) = some (rows.foldl stO ws)
  | [], ws, _, _ => rfl
  | r :: rs, ws, hu, h => by
    have h0 : ((ws.getD r.1 0 ^^^ r.2.2) &&& ms.getD r.1 0) &&& r.2.1 = 0 := Decidable.of_not_not (h r List.mem_cons_self)
    have e : st2 ms (some ws) r = some (stO ws r) := by
      show (if _ then _ else _) = _
      rw [if_pos h0]; rfl
    rw [List.foldl_cons, List.foldl_cons, e]
    exact st2_some ms rs (stO ws r) (List.pairwise_cons.mp hu).2 fun s hs => by
      rw [show stO ws r = ws.set r.1 (ws.getD r.1 0 ||| r.2.2) from rfl, Cl.set (hu.ne s hs)]
      exact h s (List.mem_cons_of_mem _ hs)
theorem st2_clash (ms : List Nat) : ∀ (rows : List Row3) (ws : List Nat), Up rows → (∃ s ∈ rows, Cl ms ws s) → rows.foldl (st2 ms) (some ws) = none
  | [], ws, _, h => by obtain ⟨_, h, _⟩ := h; cases h
  | r :: rs, ws, hu, h => by
    rw [List.foldl_cons]
    by_cases h0 : ((ws.getD r.1 0 ^^^ r.2.2) &&& ms.getD r.1 0) &&& r.2.1 = 0
    · have e : st2 ms (some ws) r = some (stO ws r) := by
        show (if _ then _ else _) = _
        rw [if_pos h0]; rfl
      rw [e]
      refine st2_clash ms rs (stO ws r) (List.pairwise_cons.mp hu).2 ?_
      obtain ⟨s, hs, hc⟩ := h
      rcases List.mem_cons.mp hs with q | q
      · subst q; exact absurd h0 hc
      · refine ⟨s, q, ?_⟩
        rw [show stO ws r = ws.set r.1 (ws.getD r.1 0 ||| r.2.2) from rfl, Cl.set (hu.ne s q)]
        exact hc
    · have e : st2 ms (some ws) r = none := by
        show (if _ then _ else _) = _
        rw [if_neg h0]
      rw [e]; exact st2_none ms rs
theorem tb_lt {m b : Nat} (hm : m < 2 ^ 32) (h : m.testBit b = true) : b < 32 := by
  rcases Nat.lt_or_ge b 32 with l | l
  · exact l
  · have : m < 2 ^ b := Nat.lt_of_lt_of_le hm (Nat.pow_le_pow_right (by decide) l)
    rw [Nat.testBit_lt_two_pow this] at h; cases h
theorem clash_bits {rv sv rm sm : Nat} : (((rv ^^^ sv) &&& rm) &&& sm ≠ 0) ↔ ∃ b, rm.testBit b = true ∧ sm.testBit b = true ∧ rv.testBit b ≠ sv.testBit b := by
  constructor
  · intro h
    obtain ⟨b, hb⟩ := Nat.exists_testBit_of_ne_zero h
    rw [Nat.testBit_and, Nat.testBit_and, Nat.testBit_xor, Bool.and_eq_true, Bool.and_eq_true] at hb
    refine ⟨b, hb.1.2, hb.2, ?_⟩
    have q := hb.1.1
    intro e
    rw [e] at q
    cases h : sv.testBit b <;> rw [h] at q <;> cases q
  · rintro ⟨b, h1, h2, h3⟩ e
    have : (((rv ^^^ sv) &&& rm) &&& sm).testBit b = true := by
      rw [Nat.testBit_and, Nat.testBit_and, Nat.testBit_xor, h1, h2]
      cases h4 : rv.testBit b with
      | false => cases h5 : sv.testBit b with
        | false => rw [h4, h5] at h3; exact absurd rfl h3
        | true => rfl
      | true => cases h5 : sv.testBit b with
        | true => rw [h4, h5] at h3; exact absurd rfl h3
        | false => rfl
    rw [e, Nat.zero_testBit] at this; cases this
section
variable {one other : List Row3}
theorem clash_ap (g1 : Good one) (g2 : Good other) : (∃ s ∈ other, Cl (one1 one).1 (one1 one).2 s) ↔ Ap one other := by
  constructor
  · rintro ⟨s, hs, hc⟩
    by_cases h : ∃ r ∈ one, r.1 = s.1
    · obtain ⟨r, hr, e⟩ := h
      obtain ⟨a, b⟩ := st1_in one (z6, z6) r g1.1 rfl rfl hr (g1.2.1 r hr).1
      unfold Cl at hc
      rw [← e] at hc
      have a' : (one1 one).1.getD r.1 0 = r.2.1 := a
      have b' : (one1 one).2.getD r.1 0 = r.2.2 := b
      rw [a', b'] at hc
      obtain ⟨bt, h1, h2, h3⟩ := clash_bits.mp hc
      exact ⟨r, hr, s, hs, e.symm, bt, tb_lt (g1.2.1 r hr).2.2.1 h1, h1, h2, h3⟩
    · exfalso
      have h' : ∀ r ∈ one, r.1 ≠ s.1 := fun r hr e => h ⟨r, hr, e⟩
      obtain ⟨a, b⟩ := st1_out one (z6, z6) s.1 h'
      apply hc
      have a' : (one1 one).1.getD s.1 0 = 0 := by
        refine Eq.trans a ?_
        show z6.getD s.1 0 = 0
        have := (g2.2.1 s hs).1
        unfold z6
        match s.1, this with
        | 0, _ => rfl
        | 1, _ => rfl
        | 2, _ => rfl
        | 3, _ => rfl
        | 4, _ => rfl
        | 5, _ => rfl
      rw [a', Nat.and_zero, Nat.zero_and]
  · rintro ⟨r, hr, s, hs, e, b, hb, h1, h2, h3⟩
    refine ⟨s, hs, ?_⟩
    obtain ⟨a, c⟩ := st1_in one (z6, z6) r g1.1 rfl rfl hr (g1.2.1 r hr).1
    unfold Cl
    rw [e, show (one1 one).1.getD r.1 0 = r.2.1 from a, show (one1 one).2.getD r.1 0 = r.2.2 from c]
    exact clash_bits.mpr ⟨b, h1, h2, h3⟩
theorem common_none (g1 : Good one) (g2 : Good other) : commonM one other = none ↔ Ap one other := by
  rw [← clash_ap g1 g2]
  constructor
  · intro h
    apply Classical.byContradiction
    intro hn
    have := st2_some (one1 one).1 other (one1 one).2 g2.1 fun s hs hc => hn ⟨s, hs, hc⟩
    unfold commonM at h
    rw [this] at h; cases h
  · exact st2_clash _ _ _ g2.1
theorem z6_getD (i : Nat) : z6.getD i 0 = 0 := by
  unfold z6
  match i with
  | 0 => rfl
  | 1 => rfl
  | 2 => rfl
  | 3 => rfl
  | 4 => rfl
  | 5 => rfl
  | n + 6 => rfl
/-- what stands at a place of the common packet -/
theorem common_some (g1 : Good one) (g2 : Good other) {ws : List Nat} (h : commonM one other = some ws) : ws = (one ++ other).foldl stO z6 ∧ ws.length = 6 ∧ (∀ n ∈ ws, n < 2 ^ 32) ∧ Mt one ws ∧ Mt other ws := by
  have nap : ¬ Ap one other := fun q => by
    rw [(common_none g1 g2).mpr q] at h; cases h
  have ncl : ∀ s ∈ other, ¬ Cl (one1 one).1 (one1 one).2 s := fun s hs hc => nap ((clash_ap g1 g2).mp ⟨s, hs, hc⟩)
  have e := st2_some (one1 one).1 other (one1 one).2 g2.1 ncl
  unfold commonM at h
  rw [e] at h
  have hw : other.foldl stO (one1 one).2 = ws := Option.some.inj h
  obtain ⟨_, l2⟩ := st1_len one (z6, z6) rfl rfl
  have l2' : (one1 one).2.length = 6 := l2
  have wl : ws.length = 6 := by rw [← hw, stO_len]; exact l2
  have f1 : ∀ i, (one1 one).2.getD i 0 = (one.foldl stO z6).getD i 0 := by
    intro i
    by_cases q : ∃ r ∈ one, r.1 = i
    · obtain ⟨r, hr, e⟩ := q
      subst e
      have h6 := (g1.2.1 r hr).1
      rw [stO_in one z6 r g1.1 hr h6, z6_getD, Nat.zero_or]
      exact (st1_in one (z6, z6) r g1.1 rfl rfl hr h6).2
    · have q' : ∀ r ∈ one, r.1 ≠ i := fun r hr e => q ⟨r, hr, e⟩
      rw [stO_out one z6 i q']
      exact (st1_out one (z6, z6) i q').2
  have l3 : (one.foldl stO z6).length = 6 := stO_len one z6
  have eq2 : (one1 one).2 = one.foldl stO z6 := by
    refine List.ext_getElem (by rw [l2', l3]) fun i h1 h2 => ?_
    have := f1 i
    rw [List.getD_eq_getElem?_getD, List.getD_eq_getElem?_getD, List.getElem?_eq_getElem h1, List.getElem?_eq_getElem h2] at this
    exact this
  have lt1 : ∀ i, (one.foldl stO z6).getD i 0 < 2 ^ 32 := by
    intro i
    by_cases q : ∃ r ∈ one, r.1 = i
    · obtain ⟨r, hr, e⟩ := q
      subst e
      rw [stO_in one z6 r g1.1 hr (g1.2.1 r hr).1, z6_getD, Nat.zero_or]
      exact and_le32 (g1.2.1 r hr).2.2.2 (g1.2.1 r hr).2.2.1
    · rw [stO_out one z6 i fun r hr e => q ⟨r, hr, e⟩, z6_getD]; decide
  have at_in : ∀ s ∈ other, ws.getD s.1 0 = (one1 one).2.getD s.1 0 ||| s.2.2 := fun s hs => by
    rw [← hw]; exact stO_in other (one1 one).2 s g2.1 hs (by rw [l2']; exact (g2.2.1 s hs).1)
  have at_out : ∀ i, (∀ s ∈ other, s.1 ≠ i) → ws.getD i 0 = (one1 one).2.getD i 0 := fun i hi => by
    rw [← hw]; exact stO_out other (one1 one).2 i hi
  refine ⟨by rw [List.foldl_append, ← eq2, hw], wl, ?_, ?_, ?_⟩
  · intro n hn
    obtain ⟨i, hi, e⟩ := List.mem_iff_getElem.mp hn
    have en : n = ws.getD i 0 := by rw [List.getD_eq_getElem?_getD, List.getElem?_eq_getElem hi, e]; rfl
    rw [en]
    by_cases q : ∃ s ∈ other, s.1 = i
    · obtain ⟨s, hs, e⟩ := q
      subst e
      rw [at_in s hs, eq2]
      exact or_lt (lt1 _) (and_le32 (g2.2.1 s hs).2.2.2 (g2.2.1 s hs).2.2.1)
    · rw [at_out i fun s hs e => q ⟨s, hs, e⟩, eq2]
      exact lt1 i
  · intro r hr b hb hm
    have hr2 := (st1_in one (z6, z6) r g1.1 rfl rfl hr (g1.2.1 r hr).1).2
    have hr2' : (one1 one).2.getD r.1 0 = r.2.2 := hr2
    by_cases q : ∃ s ∈ other, s.1 = r.1
    · obtain ⟨s, hs, e⟩ := q
      rw [← e, at_in s hs, e, hr2', Nat.testBit_or]
      cases h2 : s.2.2.testBit b with
      | false => simp
      | true =>
        have hsm : s.2.1.testBit b = true := by
          have := congrArg (fun x => Nat.testBit x b) (g2.2.1 s hs).2.2.2
          simp only [Nat.testBit_and, h2, Bool.true_and] at this
          exact this
        cases h3 : r.2.2.testBit b with
        | true => rfl
        | false => exact absurd ⟨r, hr, s, hs, e, b, hb, hm, hsm, by rw [h2, h3]; decide⟩ nap
    · rw [at_out r.1 fun s hs e => q ⟨s, hs, e⟩, hr2']
  · intro s hs b hb hm
    rw [at_in s hs, Nat.testBit_or]
    by_cases q : ∃ r ∈ one, r.1 = s.1
    · obtain ⟨r, hr, e⟩ := q
      have hr2 : (one1 one).2.getD r.1 0 = r.2.2 := (st1_in one (z6, z6) r g1.1 rfl rfl hr (g1.2.1 r hr).1).2
      rw [← e, hr2]
      cases h3 : r.2.2.testBit b with
      | false => simp
      | true =>
        have hrm : r.2.1.testBit b = true := by
          have := congrArg (fun x => Nat.testBit x b) (g1.2.1 r hr).2.2.2
          simp only [Nat.testBit_and, h3, Bool.true_and] at this
          exact this
        cases h2 : s.2.2.testBit b with
        | true => rfl
        | false => exact absurd ⟨r, hr, s, hs, e.symm, b, hb, hrm, hm, by rw [h2, h3]; decide⟩ nap
    · have q' : ∀ r ∈ one, r.1 ≠ s.1 := fun r hr e => q ⟨r, hr, e⟩
      rw [show (one1 one).2.getD s.1 0 = 0 from (st1_out one (z6, z6) s.1 q').2.trans (z6_getD _)]
      simp
theorem meets_iff {rows : List Row3} {ws : List Nat} (g : Good rows) : meetsM rows ws = true ↔ Mt rows ws := by
  unfold meetsM Mt
  rw [List.all_eq_true]
  constructor
  · intro h r hr b hb hm
    have := of_decide_eq_true (h r hr)
    rw [← this, Nat.testBit_and, hm, Bool.and_true]
  · intro h r hr
    refine decide_eq_true (Nat.eq_of_testBit_eq fun b => ?_)
    rw [Nat.testBit_and]
    cases hm : r.2.1.testBit b with
    | true =>
      rw [Bool.and_true]
      exact h r hr b (tb_lt (g.2.1 r hr).2.2.1 hm) hm
    | false =>
      have := congrArg (fun x => Nat.testBit x b) (g.2.1 r hr).2.2.2
      simp only [Nat.testBit_and, hm, Bool.and_false] at this
      rw [Bool.and_false]; exact this
theorem ap_not_both {ws : List Nat} (h : Ap one other) (h1 : Mt one ws) (h2 : Mt other ws) : False := by
  obtain ⟨r, hr, s, hs, e, b, hb, q1, q2, q3⟩ := h
  have a1 := h1 r hr b hb q1
  have a2 := h2 s hs b hb q2
  rw [e] at a2
  exact q3 (a1.symm.trans a2)
end
end My

namespace My
open PySem L2
local macro_rules | `(tactic| walk_at "ne") => `(tactic| first | assumption | exact Ne.symm (by assumption) | exact ne_of_none (by assumption) (by assumption) | exact Ne.symm (ne_of_none (by assumption) (by assumption)))
local macro_rules | `(tactic| walk_at "hp") => `(tactic| first | assumption | with_reducible exact upd_same | (with_reducible refine Eq.trans (upd_ne ?_) ?_; rotate_left; walk_at "hp"; walk_at "ne"))
local macro_rules | `(tactic| walk_at "cnd") => `(tactic| first | omega | (show (0 : Int) < _; omega) | exact ⟨by omega, by omega⟩ | exact Or.inl ⟨by omega, by omega⟩ | exact Or.inr ⟨by omega, by omega⟩ | exact ⟨by omega, by omega, by decide⟩ | exact ⟨by omega, by omega, by omega⟩)
local macro_rules | `(tactic| walk_at "at") => `(tactic| first | exact atC 0 rfl rfl | exact atC 1 rfl rfl | exact atC 2 rfl rfl | exact atC 3 rfl rfl | exact atC 4 rfl rfl | exact atC 5 rfl rfl | exact atC 6 rfl rfl | exact atC 7 rfl rfl)
local macro_rules | `(tactic| walk_at "ix") => `(tactic| first | exact ixC 0 rfl (Nat.le_of_ble_eq_true rfl) | exact ixC 1 rfl (Nat.le_of_ble_eq_true rfl) | exact ixC 2 rfl (Nat.le_of_ble_eq_true rfl) | exact ixC 3 rfl (Nat.le_of_ble_eq_true rfl) | exact ixC 4 rfl (Nat.le_of_ble_eq_true rfl) | exact ixC 5 rfl (Nat.le_of_ble_eq_true rfl))
local macro_rules | `(tactic| walk_at "st") => `(tactic| first
  | refine ⟨_, rfl, ?_⟩
  | refine ⟨_, _, rfl, rfl, (by walk_at "cnd" : (_ : Prop)), ?_⟩
  | refine ⟨_, _, rfl, rfl, ?_⟩
  | refine ⟨rfl, ?_⟩
  | refine Or.inl ⟨_, rfl, ?_⟩
  | refine ⟨_, _, _, _, rfl, rfl, by exact SqL.of (by walk_at "hp"), by walk_at "at", ?_⟩
  | refine ⟨_, _, _, _, rfl, rfl, by exact SqT.of (by walk_at "hp"), by walk_at "at", ?_⟩
  | refine ⟨_, _, _, _, rfl, rfl, by walk_at "hp", by walk_at "ix", ?_⟩
  | refine ⟨_, _, rfl, Or.inl (by exact SqL.of (by walk_at "hp")), ?_⟩
  | refine ⟨_, _, rfl, Or.inr (by exact SqT.of (by walk_at "hp")), ?_⟩)
local macro_rules | `(tactic| walk_at "run") => `(tactic| repeat walk_at "st")

theorem pD_sh (ws : List Nat) : Sh 1 (pD ws) := Sh.tup fun d hd => by
  obtain ⟨n, _, rfl⟩ := List.mem_map.mp hd
  exact Sh.int _ _
def spLaw (K : PySem.W.Frag) : Sp := fun vs H Q _ => ∃ (a : Addr) (ns : List Int), vs = [.ref a] ∧ SqL K H a (ns.map V.int) ∧ ∀ H', Q (.bl true) H'
section
variable {P : Program} {w : World} {K : PySem.W.Frag} {mg : Str → Option Value} {base : Heap}
abbrev s_law : Stmt := topS 23
abbrev ns_law : List Str := ["script", "tape", "one", "other", "packet", "words", "index", "mask", "value", "turn", "drawn"]
theorem sc_law : FnScope ns_law ["script"] (defScope s_law) := ⟨rfl, rfl, rfl, by decide +kernel, rfl, by decide +kernel, by decide +kernel⟩

theorem ok_law {f : Addr} {fd : FuncData} (F : Fun K "law" "law" s_law f fd) (T : Txt mg) (D_law_filter : Dfn P w K mg base CX0 3 "_law_filter" ["tape"] spFil) (D_is_filter : Dfn P w K mg base CX0 5 "is_filter" ["value"] spFl)
    (D_law_spoilt : Dfn P w K mg base CX0 6 "_law_spoilt" ["rows"] spSpoilt) (D_is_packet : Dfn P w K mg base CX0 4 "is_packet" ["value"] spPk) (D_common : Dfn P w K mg base CX0 1 "common" ["one", "other"] spCommon)
    (D_law_apart : Dfn P w K mg base CX0 1 "_law_apart" ["one", "other"] spApart) (D_law_meets : Dfn P w K mg base CX0 1 "_law_meets" ["rows", "packet"] spLMeets) (D_meets : Dfn P w K mg base CX0 1 "meets" ["tests", "packet"] spMeets)
    (D_law_packet : Dfn P w K mg base CX0 3 "_law_packet" ["tape", "rows"] spPkt) : FnOk P w K mg base CX0 7 f fd ["script"] (spLaw K) := by
  refine F.ok sc_law (fun vs H Q E h => ?_) (fun cdv A outer s H vs Q E hr h => ?_)
  · obtain ⟨a, ns, rfl, _⟩ := h
    rfl
  · obtain ⟨a, ns, rfl, hS, k⟩ := h
    refine ⟨_, (pss_cons (ps_set (i := 1) sc_law.nd rfl (Or.inl rfl) (pe_lst (pa_cons (pe_callTy (kListOf K) (by rfl) T.b_list (by decide +kernel) (pa_cons (pv 0) pa_nil)) (pa_cons pe_int (pa_cons pe_int (pa_cons pe_int pa_nil))))))
  (pss_cons (ps_set (i := 2) sc_law.nd rfl (Or.inl rfl) (pe_dcall D_law_filter (hr.mono (by decide)) (by rfl) pass0 (pa_cons (pv 1) pa_nil)))
  (pss_cons (ps_set (i := 3) sc_law.nd rfl (Or.inl rfl) (pe_dcall D_law_filter (hr.mono (by decide)) (by rfl) pass0 (pa_cons (pv 1) pa_nil)))
  (pss_cons (ps_if (PW.pt (pw_or (pt_not (pt_val (pe_dcall D_is_filter (hr.mono (by decide)) (by rfl) pass0 (pa_cons (pv 2) pa_nil)))) (pw_or (pt_not (pt_val (pe_dcall D_is_filter (hr.mono (by decide)) (by rfl) pass0 (pa_cons (pv 3) pa_nil)))) (pw_or (pt_not (pt_val (pe_dcall D_law_spoilt (hr.mono (by decide)) (by rfl) pass0 (pa_cons (pv 2) pa_nil)))) (pw_or1 (pt_val (pe_dcall D_is_packet (hr.mono (by decide)) (by rfl) pass0 (pa_cons (pe_tup (pa_cons pe_int (pa_cons pe_int (pa_cons pe_int (pa_cons pe_int (pa_cons pe_int pa_nil)))))) pa_nil)))))))) (pss_one (ps_ret pe_bl)) pss_nil)
  (C8.pss_cut (ps_set (i := 4) sc_law.nd rfl (Or.inl rfl) (pe_dcall D_common (hr.mono (by decide)) (by rfl) pass0 (pa_cons (pv 2) (pa_cons (pv 3) pa_nil))))
  (pss_cons (ps_if (pt_cmpR op_ne (pe_dcall D_law_apart (hr.mono (by decide)) (by rfl) pass0 (pa_cons (pv 2) (pa_cons (pv 3) pa_nil))) (pe_cmpR op_isN (pv 4) pe_non (nomark _)) (nomark _)) (pss_one (ps_ret pe_bl)) pss_nil)
  (C8.pss_cut (ps_if (pt_cmpR op_notN (pv 4) pe_non (nomark _)) (pss_cons (ps_set (i := 5) sc_law.nd rfl (Or.inl rfl) (pe_op op_rep (pe_lst (pa_cons pe_int pa_nil)) pe_int))
  (pss_cons (ps_for PassesOwn.never (by rfl) (kpiT K (pe_op (kCatT K) (pv 2) (pv 3))) (kpgT K (n := 3) (by rfl) (pgs_cons (pg_name (i := 6) sc_law.nd rfl (Or.inl rfl)) (pgs_cons (pg_name (i := 7) sc_law.nd rfl (Or.inl rfl)) (pgs_cons (pg_name (i := 8) sc_law.nd rfl (Or.inl rfl)) pgs_nil)))) (pss_one (ps_asg (pe_op op_or (pe_ix (kIxL K) (pv 5) (pv 6) (fun _ _ => rfl)) (pv 8)) (pg_sub (pv 5) (pv 6) set_list))))
  (pss_cons (ps_if (PW.pt (pw_or (pt_cmpR (kNeD K hr.units) (pv 4) (pe_callTy (kTupOf K) (by rfl) T.b_tuple (by decide +kernel) (pa_cons (pv 5) pa_nil)) (nomark _)) (pw_or1 (pt_not (pt_val (pe_dcall D_is_packet (hr.mono (by decide)) (by rfl) pass0 (pa_cons (pv 4) pa_nil))))))) (pss_one (ps_ret pe_bl)) pss_nil)
  (pss_one (ps_if (PW.pt (pw_or (pt_not (pt_val (pe_dcall D_law_meets (hr.mono (by decide)) (by rfl) pass0 (pa_cons (pv 2) (pa_cons (pv 4) pa_nil))))) (pw_or1 (pt_not (pt_val (pe_dcall D_law_meets (hr.mono (by decide)) (by rfl) pass0 (pa_cons (pv 3) (pa_cons (pv 4) pa_nil)))))))) (pss_one (ps_ret pe_bl)) pss_nil))))) pss_nil)
  (pss_cons (ps_for PassesOwn.never (by rfl) (pi_range1 (by rfl) T.b_range (pa_cons pe_int pa_nil)) (pg_name (i := 9) sc_law.nd rfl (Or.inl rfl)) (pss_cons (ps_set (i := 10) sc_law.nd rfl (Or.inl rfl) (pe_dcall D_law_packet (hr.mono (by decide)) (by rfl) pass0 (pa_cons (pv 1) (pa_cons (pe_ifExp (pt_cmpR op_eq (pe_op op_mod (pv 9) pe_int) pe_int (nomark _)) (pv 2) (pv 3)) pa_nil))))
  (pss_cons (ps_if (PW.pt (pw_or (pt_not (pt_val (pe_dcall D_is_packet (hr.mono (by decide)) (by rfl) pass0 (pa_cons (pv 10) pa_nil)))) (pw_or1 (pt_cmpR op_ne (pe_dcall D_meets (hr.mono (by decide)) (by rfl) pass0 (pa_cons (pv 2) (pa_cons (pv 10) pa_nil))) (pe_dcall D_law_meets (hr.mono (by decide)) (by rfl) pass0 (pa_cons (pv 2) (pa_cons (pv 10) pa_nil))) (nomark _))))) (pss_one (ps_ret pe_bl)) pss_nil)
  (pss_one (ps_if (PW.pt (pw_and (pt_cmpR op_isN (pv 4) pe_non (nomark _)) (pw_and (pt_val (pe_dcall D_law_meets (hr.mono (by decide)) (by rfl) pass0 (pa_cons (pv 2) (pa_cons (pv 10) pa_nil)))) (pw_and1 (pt_val (pe_dcall D_law_meets (hr.mono (by decide)) (by rfl) pass0 (pa_cons (pv 3) (pa_cons (pv 10) pa_nil)))))))) (pss_one (ps_ret pe_bl)) pss_nil)))))
  (pss_one (ps_ret pe_bl)))))))))), ?_⟩
    refine ⟨_, rfl, _, _, rfl, .inl hS, fun p hp => ⟨szl rfl, fun tp htp => ?_⟩⟩
    have T0 : Tape (upd (upd H p (.lst (ns.map V.int))) tp (.lst [.ref p, .int 0, .int 0, .int 11])) tp p :=
      ⟨ns, 0, 0, 11, upd_same, Same.new htp _ _ upd_same, by decide, by decide, by decide, by decide⟩
    generalize upd (upd H p (.lst (ns.map V.int))) tp (.lst [.ref p, .int 0, .int 0, .int 11]) = G0 at T0
    refine ⟨_, rfl, tp, p, rfl, T0, fun one v1 H1 g1 d1 t1 c1 => ?_⟩
    refine ⟨_, rfl, tp, p, rfl, t1, fun other v2 H2 g2 d2 t2 c2 => ?_⟩
    replace d1 := d1.ts (t1.ts c2) (fD_tonly one)
    have z1 : (one.map rowD).length ≤ 6 := by rw [List.length_map]; exact g1.2.2
    have z2 : (other.map rowD).length ≤ 6 := by rw [List.length_map]; exact g2.2.2
    -- the filters, the spoilt ones
    refine ⟨_, rfl, v1, fD one, rfl, d1, fun ds e => (by cases e; omega), fun H3 s3 => ⟨_, rfl, ?_⟩⟩
    rw [isFl_good g1]
    refine iteF ⟨_, rfl, v2, fD other, rfl, d2.same s3, fun ds e => (by cases e; omega), fun H4 s4 => ⟨_, rfl, ?_⟩⟩
    rw [isFl_good g2]
    refine iteF ⟨_, rfl, v1, one, rfl, (d1.same s3).same s4, g1, fun H5 s5 => ⟨_, rfl, iteF ?_⟩⟩
    refine ⟨szl rfl, fun q hq => ⟨.ref q, _, rfl, Dt.new (.cons (.int 1) (.cons (.int 2) (.cons (.int 3) (.cons (.int 4) (.cons (.int 5) .nil))))) hq, fun ds e => (by cases e; decide), fun H6 s6 => ⟨_, rfl, ?_⟩⟩⟩
    refine iteF ?_
    have s06 : Same H2 H6 := (((s3.trans s4).trans s5).trans (Same.new hq)).trans s6
    replace d1 := d1.same s06
    replace d2 := d2.same s06
    have t6 := t2.same s06
    clear s3 s4 s5 s6 hq s06 H3 H4 H5 t2 c2 t1 c1
    -- the common packet
    refine ⟨fun σ H' => ∃ vp : V, σ = [some (.ref a), some (.ref tp), some v1, some v2, some vp, none, none, none, none, none, none] ∧ Same H6 H' ∧ ((vp = .non ∧ commonM one other = none) ∨ ∃ ws, Dt H' vp (pD ws) ∧ commonM one other = some ws), ?_, ?_⟩
    · refine ⟨_, rfl, _, rfl, v1, v2, one, other, rfl, d1, d2, fun r hr => (g1.2.1 r hr).1, fun r hr => (g2.2.1 r hr).1, by have := g1.2.2; omega, by have := g2.2.2; omega, fun e H' s => ⟨.non, rfl, s, .inl ⟨rfl, e⟩⟩, fun ws e p H' _ hp' s => ⟨.ref p, rfl, s, .inr ⟨ws, pD_mk hp', e⟩⟩⟩
    rintro σ H7 ⟨vp, rfl, s7, hpk⟩
    -- apart or not
    refine ⟨_, rfl, _, rfl, v1, v2, one, other, rfl, d1.same s7, d2.same s7, fun b hb => ⟨_, rfl, rfl, rfl, _, rfl, ?_⟩⟩
    have eb : decide (V.bl b = V.bl (decide (vp = V.non))) = true := by
      rcases hpk with ⟨rfl, e⟩ | ⟨ws, hd, e⟩
      · have : b = true := hb.mpr ((common_none g1 g2).mp e)
        subst this; rfl
      · have nb : b = false := by
          cases b with
          | false => rfl
          | true => rw [(common_none g1 g2).mpr (hb.mp rfl)] at e; cases e
        subst nb
        obtain ⟨pa, rfl, _⟩ := pD_open hd
        rfl
    rw [eb]
    refine iteF ?_
    -- what the common packet is
    refine ⟨fun σ H' => ∃ v5 v6 v7 v8 : Option V, σ = [some (.ref a), some (.ref tp), some v1, some v2, some vp, v5, v6, v7, v8, none, none] ∧ Same H7 H', ?_, ?_⟩
    · refine ⟨_, rfl, rfl, _, rfl, ?_⟩
      rcases hpk with ⟨rfl, e⟩ | ⟨ws, hd, e⟩
      · exact iteF ⟨none, none, none, none, rfl, Same.refl _⟩
      · obtain ⟨ews, wl, w32, m1, m2⟩ := common_some g1 g2 e
        have hd' := hd
        obtain ⟨pa, rfl, hpa⟩ := pD_open hd'
        refine iteT ?_
        refine ⟨szl rfl, fun l0 n0 => ⟨_, _, _, rfl, rfl, upd_same, by decide, by decide, by decide, fun W hW => ?_⟩⟩
        have sW : Same H7 (upd (upd H7 l0 (.lst [.int 0])) W (.lst (List.replicate (Int.toNat 6) [V.int 0]).flatten)) := (Same.new n0).trans (Same.new hW)
        have fW : H7 W = none := (Same.new n0).free hW
        have hW0 : (upd (upd H7 l0 (.lst [.int 0])) W (.lst (List.replicate (Int.toNat 6) [V.int 0]).flatten)) W = some (.lst (z6.map vN)) := upd_same
        generalize upd (upd H7 l0 (.lst [.int 0])) W (.lst (List.replicate (Int.toNat 6) [V.int 0]).flatten) = H8 at sW hW0
        have s8 := s7.trans sW
        refine ⟨_, rfl, _, rfl, r_catD (d1.same s8) (d2.same s8) (by omega) fun vc H9 s9 dc => ?_⟩
        have dc' : Dt H9 vc (fD (one ++ other)) := by unfold fD; rw [List.map_append]; exact dc
        obtain ⟨ca, xs, rfl, hca, hcl, hcx⟩ := fD_open dc'
        have fW9 : H9 W = some (.lst (z6.map vN)) := s9 _ _ hW0
        refine ⟨_, rfl, ⟨_, SqT.of hca⟩, for_tup (xs := xs) (fun i σ H' => ∃ v6 v7 v8 : Option V, σ = [some (.ref a), some (.ref tp), some v1, some v2, some (.ref pa), some (.ref W), v6, v7, v8, none, none] ∧ Same H7 H' ∧ TS H9 H' ∧ H' W = some (.lst ((((one ++ other).take i).foldl stO z6).map vN))) ?_ ?_ ?_ ?_⟩
        · exact ⟨none, none, none, rfl, sW.trans s9, TS.refl _, fW9⟩
        · rintro i σ H' _ ⟨_, _, _, _, _, ts, _⟩
          exact SqT.of (ts _ _ hca)
        · rintro i x σ H' hi ⟨v6, v7, v8, rfl, sx, ts, hw⟩
          obtain ⟨r, t, hr1, rfl, ht⟩ := hcx i x hi
          have hr6 : r.1 < 6 := by
            rcases List.mem_append.mp (List.mem_of_getElem? hr1) with q | q
            · exact (g1.2.1 r q).1
            · exact (g2.2.1 r q).1
          have len6 : (((one ++ other).take i).foldl stO z6).length = 6 := stO_len _ _
          refine ⟨t, _, rfl, SqT.of (ts _ _ ht), rfl, _, _, rfl, _, _, rfl, _, _, rfl, rfl, ?_⟩
          refine ⟨_, rfl, _, rfl, _, _, _, _, rfl, rfl, SqL.of hw, atC r.1 rfl (getVN (by omega)), ?_⟩
          refine ⟨_, rfl, _, _, rfl, rfl, _, rfl, _, rfl, _, _, _, _, rfl, rfl, hw, ixC r.1 rfl (by rw [List.length_map]; omega), ?_⟩
          refine ⟨_, _, _, rfl, Same.mut sx fW, ts.trans fun b ys e => ?_, ?_⟩
          · rw [upd_ne]
            · exact e
            · intro q; subst q
              rw [hw] at e; cases e
          · rw [foldl_take hr1, upd_same]
            show some (HO.lst ((_ : List V).set r.1 (V.int (Builtin.bitOr (_ : Int) (r.2.2 : Nat))))) = _
            rw [bitOr_nat, mapSet]; rfl
        · rintro σ H' ⟨v6, v7, v8, rfl, sx, ts, hw⟩
          rw [hcl, List.take_length, ← ews] at hw
          refine ⟨_, rfl, _, rfl, _, _, rfl, .inl ⟨SqL.of hw, fun q hq => ?_⟩⟩
          have sq := sx.trans (Same.new (o := .tup (ws.map vN)) hq)
          refine ⟨pD ws, pD ws, (hd.same sq).dp, (pD_mk upd_same).dp, (pD_sh ws).ok, (pD_sh ws).ok, _, rfl, ?_⟩
          rw [PySem.SeqAt.eqv_refl _ (pD_sh ws).1]
          refine iteF ⟨_, rfl, .ref pa, pD ws, rfl, hd.same sq, fun ds e => (by cases e; rw [List.length_map]; omega), fun H10 s10 => ⟨_, rfl, ?_⟩⟩
          rw [isPk_good wl w32]
          refine iteF ?_
          have sq2 := sq.trans s10
          refine ⟨_, rfl, _, rfl, v1, .ref pa, one, ws, rfl, (d1.same s7).same sq2, hd.same sq2, wl, fun r hr => (g1.2.1 r hr).1, fun b1 hb1 => ⟨_, rfl, ?_⟩⟩
          rw [hb1.mpr m1]
          refine iteF ⟨_, rfl, _, rfl, v2, .ref pa, other, ws, rfl, (d2.same s7).same sq2, hd.same sq2, wl, fun r hr => (g2.2.1 r hr).1, fun b2 hb2 => ⟨_, rfl, ?_⟩⟩
          rw [hb2.mpr m2]
          exact iteF ⟨_, _, _, _, rfl, sq2⟩
    rintro σ H8 ⟨v5, v6, v7, v8, rfl, s8⟩
    have s08 := s7.trans s8
    replace d1 := d1.same s08
    replace d2 := d2.same s08
    have t8 := t6.same s08
    -- drawn packets
    refine ⟨6, rfl, by decide, by decide, for_range (fun i σ H' => ∃ v9 v10 : Option V, σ = [some (.ref a), some (.ref tp), some v1, some v2, some vp, v5, v6, v7, v8, v9, v10] ∧ Tape H' tp p ∧ TS H8 H') ?_ ?_ ?_⟩
    · exact ⟨none, none, rfl, t8, TS.refl _⟩
    · rintro i σ H9 hi ⟨v9, v10, rfl, t9, ts⟩
      refine ⟨_, rfl, _, rfl, _, _, rfl, rfl, (by show (0 : Int) < 2; decide), rfl, _, rfl, ?_⟩
      have e1 := d1.ts ts (fD_tonly one)
      have e2 := d2.ts ts (fD_tonly other)
      refine iteB (fun q => ?_) (fun q => ?_)
      · refine ⟨_, rfl, tp, p, v1, one, rfl, t9, e1, g1, fun ws u H10 wl w32 du t10 c10 => ?_⟩
        have ts2 := t9.ts c10
        replace e1 := e1.ts ts2 (fD_tonly one)
        replace e2 := e2.ts ts2 (fD_tonly other)
        refine ⟨_, rfl, u, pD ws, rfl, du, fun ds e => (by cases e; rw [List.length_map]; omega), fun H11 s11 => ⟨_, rfl, ?_⟩⟩
        rw [isPk_good wl w32]
        refine iteF ⟨_, rfl, _, rfl, v1, u, one, ws, rfl, e1.same s11, du.same s11, wl, fun r hr => (g1.2.1 r hr).1, by have := g1.2.2; omega, fun H12 s12 => ?_⟩
        have s1112 := s11.trans s12
        refine ⟨_, rfl, _, rfl, v1, u, one, ws, rfl, e1.same s1112, du.same s1112, wl, fun r hr => (g1.2.1 r hr).1, fun b hb => ⟨rfl, _, rfl, ?_⟩⟩
        have ebm : meetsM one ws = b := by
          have := meets_iff (ws := ws) g1
          cases hm : meetsM one ws with
          | true => exact (hb.mpr (this.mp hm)).symm
          | false =>
            cases b with
            | false => rfl
            | true => rw [this.mpr (hb.mp rfl)] at hm; cases hm
        rw [show decide (V.bl (meetsM one ws) = V.bl b) = true by rw [ebm]; simp]
        refine iteF ?_
        refine ⟨_, rfl, rfl, _, rfl, ?_⟩
        have fin : Tape H12 tp p ∧ TS H8 H12 := ⟨t10.same s1112, ts.trans (ts2.trans (Same.ts s1112))⟩
        refine iteD (fun hn => ?_) (fun hn => ⟨_, _, rfl, fin.1, fin.2⟩)
        have hap : Ap one other := by
          rcases hpk with ⟨_, e⟩ | ⟨ws', hd, e⟩
          · exact (common_none g1 g2).mp e
          · obtain ⟨pa, rfl, _⟩ := pD_open hd
            cases hn
        refine ⟨_, rfl, _, rfl, v1, u, one, ws, rfl, e1.same s1112, du.same s1112, wl, fun r hr => (g1.2.1 r hr).1, fun b1 hb1 => ⟨_, rfl, ?_⟩⟩
        refine iteB (fun q1 => ?_) (fun q1 => iteF ⟨_, _, rfl, fin.1, fin.2⟩)
        refine ⟨_, rfl, _, rfl, v2, u, other, ws, rfl, e2.same s1112, du.same s1112, wl, fun r hr => (g2.2.1 r hr).1, fun b2 hb2 => ⟨_, rfl, ?_⟩⟩
        refine iteB (fun q2 => ?_) (fun q2 => ⟨_, _, rfl, fin.1, fin.2⟩)
        exact (ap_not_both hap (hb1.mp q1) (hb2.mp q2)).elim
      · refine ⟨_, rfl, tp, p, v2, other, rfl, t9, e2, g2, fun ws u H10 wl w32 du t10 c10 => ?_⟩
        have ts2 := t9.ts c10
        replace e1 := e1.ts ts2 (fD_tonly one)
        replace e2 := e2.ts ts2 (fD_tonly other)
        refine ⟨_, rfl, u, pD ws, rfl, du, fun ds e => (by cases e; rw [List.length_map]; omega), fun H11 s11 => ⟨_, rfl, ?_⟩⟩
        rw [isPk_good wl w32]
        refine iteF ⟨_, rfl, _, rfl, v1, u, one, ws, rfl, e1.same s11, du.same s11, wl, fun r hr => (g1.2.1 r hr).1, by have := g1.2.2; omega, fun H12 s12 => ?_⟩
        have s1112 := s11.trans s12
        refine ⟨_, rfl, _, rfl, v1, u, one, ws, rfl, e1.same s1112, du.same s1112, wl, fun r hr => (g1.2.1 r hr).1, fun b hb => ⟨rfl, _, rfl, ?_⟩⟩
        have ebm : meetsM one ws = b := by
          have := meets_iff (ws := ws) g1
          cases hm : meetsM one ws with
          | true => exact (hb.mpr (this.mp hm)).symm
          | false =>
            cases b with
            | false => rfl
            | true => rw [this.mpr (hb.mp rfl)] at hm; cases hm
        rw [show decide (V.bl (meetsM one ws) = V.bl b) = true by rw [ebm]; simp]
        refine iteF ?_
        refine ⟨_, rfl, rfl, _, rfl, ?_⟩
        have fin : Tape H12 tp p ∧ TS H8 H12 := ⟨t10.same s1112, ts.trans (ts2.trans (Same.ts s1112))⟩
        refine iteD (fun hn => ?_) (fun hn => ⟨_, _, rfl, fin.1, fin.2⟩)
        have hap : Ap one other := by
          rcases hpk with ⟨_, e⟩ | ⟨ws', hd, e⟩
          · exact (common_none g1 g2).mp e
          · obtain ⟨pa, rfl, _⟩ := pD_open hd
            cases hn
        refine ⟨_, rfl, _, rfl, v1, u, one, ws, rfl, e1.same s1112, du.same s1112, wl, fun r hr => (g1.2.1 r hr).1, fun b1 hb1 => ⟨_, rfl, ?_⟩⟩
        refine iteB (fun q1 => ?_) (fun q1 => iteF ⟨_, _, rfl, fin.1, fin.2⟩)
        refine ⟨_, rfl, _, rfl, v2, u, other, ws, rfl, e2.same s1112, du.same s1112, wl, fun r hr => (g2.2.1 r hr).1, fun b2 hb2 => ⟨_, rfl, ?_⟩⟩
        refine iteB (fun q2 => ?_) (fun q2 => ⟨_, _, rfl, fin.1, fin.2⟩)
        exact (ap_not_both hap (hb1.mp q1) (hb2.mp q2)).elim
    · rintro σ H9 ⟨v9, v10, rfl, t9, ts⟩
      exact k H9
end
end My

namespace My
open PySem L2
/-! ### what the top has written, and the end -/
theorem all_mk {l : PySem.W.OpenLaw} {w : World} {K : PySem.W.Frag} {h : Heap} {mg : Str → Option Value} {fa : Addr} (X : K.In h) (G : h.Ns mainGlobals mg) (hfa : mg "law" = some (.ref fa))
    {f_law_next : Addr} {od_law_next an_law_next : Option Addr} {sl_law_next : Array (Option Value)} {oc_law_next kV_law_next dc_law_next pm_law_next cd_law_next ct_law_next : Value}
    {f_is_at_least : Addr} {od_is_at_least an_is_at_least : Option Addr} {sl_is_at_least : Array (Option Value)} {oc_is_at_least kV_is_at_least dc_is_at_least pm_is_at_least cd_is_at_least ct_is_at_least : Value}
    {f_is_between : Addr} {od_is_between an_is_between : Option Addr} {sl_is_between : Array (Option Value)} {oc_is_between kV_is_between dc_is_between pm_is_between cd_is_between ct_is_between : Value}
    {f_is_index : Addr} {od_is_index an_is_index : Option Addr} {sl_is_index : Array (Option Value)} {oc_is_index kV_is_index dc_is_index pm_is_index cd_is_index ct_is_index : Value}
    {f_is_word : Addr} {od_is_word an_is_word : Option Addr} {sl_is_word : Array (Option Value)} {oc_is_word kV_is_word dc_is_word pm_is_word cd_is_word ct_is_word : Value}
    {f_is_packet : Addr} {od_is_packet an_is_packet : Option Addr} {sl_is_packet : Array (Option Value)} {oc_is_packet kV_is_packet dc_is_packet pm_is_packet cd_is_packet ct_is_packet : Value}
    {f_is_test : Addr} {od_is_test an_is_test : Option Addr} {sl_is_test : Array (Option Value)} {oc_is_test kV_is_test dc_is_test pm_is_test cd_is_test ct_is_test : Value}
    {f_is_filter : Addr} {od_is_filter an_is_filter : Option Addr} {sl_is_filter : Array (Option Value)} {oc_is_filter kV_is_filter dc_is_filter pm_is_filter cd_is_filter ct_is_filter : Value}
    {f_meets : Addr} {od_meets an_meets : Option Addr} {sl_meets : Array (Option Value)} {oc_meets kV_meets dc_meets pm_meets cd_meets ct_meets : Value}
    {f_common : Addr} {od_common an_common : Option Addr} {sl_common : Array (Option Value)} {oc_common kV_common dc_common pm_common cd_common ct_common : Value}
    {f_law_mask : Addr} {od_law_mask an_law_mask : Option Addr} {sl_law_mask : Array (Option Value)} {oc_law_mask kV_law_mask dc_law_mask pm_law_mask cd_law_mask ct_law_mask : Value}
    {f_law_word : Addr} {od_law_word an_law_word : Option Addr} {sl_law_word : Array (Option Value)} {oc_law_word kV_law_word dc_law_word pm_law_word cd_law_word ct_law_word : Value}
    {f_law_filter : Addr} {od_law_filter an_law_filter : Option Addr} {sl_law_filter : Array (Option Value)} {oc_law_filter kV_law_filter dc_law_filter pm_law_filter cd_law_filter ct_law_filter : Value}
    {f_law_packet : Addr} {od_law_packet an_law_packet : Option Addr} {sl_law_packet : Array (Option Value)} {oc_law_packet kV_law_packet dc_law_packet pm_law_packet cd_law_packet ct_law_packet : Value}
    {f_law_meets : Addr} {od_law_meets an_law_meets : Option Addr} {sl_law_meets : Array (Option Value)} {oc_law_meets kV_law_meets dc_law_meets pm_law_meets cd_law_meets ct_law_meets : Value}
    {f_law_apart : Addr} {od_law_apart an_law_apart : Option Addr} {sl_law_apart : Array (Option Value)} {oc_law_apart kV_law_apart dc_law_apart pm_law_apart cd_law_apart ct_law_apart : Value}
    {f_law_spoilt : Addr} {od_law_spoilt an_law_spoilt : Option Addr} {sl_law_spoilt : Array (Option Value)} {oc_law_spoilt kV_law_spoilt dc_law_spoilt pm_law_spoilt cd_law_spoilt ct_law_spoilt : Value}
    {f_law : Addr} {od_law an_law : Option Addr} {sl_law : Array (Option Value)} {oc_law kV_law dc_law pm_law cd_law ct_law : Value}
    {t_FIELDS : Tok}
    {t_TOP : Tok}
    (a_law_next : PySem.W.nsIn K mainGlobals "_law_next" = some (some (.ref f_law_next)))
    (l_law_next : K.lookup f_law_next = some ⟨oc_law_next, od_law_next, .func (PySem.W.fnOf "_law_next" "_law_next" (defArgs s_law_next) (defBody s_law_next) (defScope s_law_next) .none kV_law_next dc_law_next pm_law_next an_law_next cd_law_next ct_law_next), sl_law_next⟩)
    (q_law_next : PySem.W.codeIn K cd_law_next "_law_next" = true)
    (k_law_next : PySem.W.keepIn K (.ref f_law_next) = true)
    (a_is_at_least : PySem.W.nsIn K mainGlobals "is_at_least" = some (some (.ref f_is_at_least)))
    (l_is_at_least : K.lookup f_is_at_least = some ⟨oc_is_at_least, od_is_at_least, .func (PySem.W.fnOf "is_at_least" "is_at_least" (defArgs s_is_at_least) (defBody s_is_at_least) (defScope s_is_at_least) .none kV_is_at_least dc_is_at_least pm_is_at_least an_is_at_least cd_is_at_least ct_is_at_least), sl_is_at_least⟩)
    (q_is_at_least : PySem.W.codeIn K cd_is_at_least "is_at_least" = true)
    (k_is_at_least : PySem.W.keepIn K (.ref f_is_at_least) = true)
    (a_is_between : PySem.W.nsIn K mainGlobals "is_between" = some (some (.ref f_is_between)))
    (l_is_between : K.lookup f_is_between = some ⟨oc_is_between, od_is_between, .func (PySem.W.fnOf "is_between" "is_between" (defArgs s_is_between) (defBody s_is_between) (defScope s_is_between) .none kV_is_between dc_is_between pm_is_between an_is_between cd_is_between ct_is_between), sl_is_between⟩)
    (q_is_between : PySem.W.codeIn K cd_is_between "is_between" = true)
    (k_is_between : PySem.W.keepIn K (.ref f_is_between) = true)
    (a_is_index : PySem.W.nsIn K mainGlobals "is_index" = some (some (.ref f_is_index)))
    (l_is_index : K.lookup f_is_index = some ⟨oc_is_index, od_is_index, .func (PySem.W.fnOf "is_index" "is_index" (defArgs s_is_index) (defBody s_is_index) (defScope s_is_index) .none kV_is_index dc_is_index pm_is_index an_is_index cd_is_index ct_is_index), sl_is_index⟩)
    (q_is_index : PySem.W.codeIn K cd_is_index "is_index" = true)
    (k_is_index : PySem.W.keepIn K (.ref f_is_index) = true)
    (a_is_word : PySem.W.nsIn K mainGlobals "is_word" = some (some (.ref f_is_word)))
    (l_is_word : K.lookup f_is_word = some ⟨oc_is_word, od_is_word, .func (PySem.W.fnOf "is_word" "is_word" (defArgs s_is_word) (defBody s_is_word) (defScope s_is_word) .none kV_is_word dc_is_word pm_is_word an_is_word cd_is_word ct_is_word), sl_is_word⟩)
    (q_is_word : PySem.W.codeIn K cd_is_word "is_word" = true)
    (k_is_word : PySem.W.keepIn K (.ref f_is_word) = true)
    (a_is_packet : PySem.W.nsIn K mainGlobals "is_packet" = some (some (.ref f_is_packet)))
    (l_is_packet : K.lookup f_is_packet = some ⟨oc_is_packet, od_is_packet, .func (PySem.W.fnOf "is_packet" "is_packet" (defArgs s_is_packet) (defBody s_is_packet) (defScope s_is_packet) .none kV_is_packet dc_is_packet pm_is_packet an_is_packet cd_is_packet ct_is_packet), sl_is_packet⟩)
    (q_is_packet : PySem.W.codeIn K cd_is_packet "is_packet" = true)
    (k_is_packet : PySem.W.keepIn K (.ref f_is_packet) = true)
    (a_is_test : PySem.W.nsIn K mainGlobals "_is_test" = some (some (.ref f_is_test)))
    (l_is_test : K.lookup f_is_test = some ⟨oc_is_test, od_is_test, .func (PySem.W.fnOf "_is_test" "_is_test" (defArgs s_is_test) (defBody s_is_test) (defScope s_is_test) .none kV_is_test dc_is_test pm_is_test an_is_test cd_is_test ct_is_test), sl_is_test⟩)
    (q_is_test : PySem.W.codeIn K cd_is_test "_is_test" = true)
    (k_is_test : PySem.W.keepIn K (.ref f_is_test) = true)
    (a_is_filter : PySem.W.nsIn K mainGlobals "is_filter" = some (some (.ref f_is_filter)))
    (l_is_filter : K.lookup f_is_filter = some ⟨oc_is_filter, od_is_filter, .func (PySem.W.fnOf "is_filter" "is_filter" (defArgs s_is_filter) (defBody s_is_filter) (defScope s_is_filter) .none kV_is_filter dc_is_filter pm_is_filter an_is_filter cd_is_filter ct_is_filter), sl_is_filter⟩)
    (q_is_filter : PySem.W.codeIn K cd_is_filter "is_filter" = true)
    (k_is_filter : PySem.W.keepIn K (.ref f_is_filter) = true)
    (a_meets : PySem.W.nsIn K mainGlobals "meets" = some (some (.ref f_meets)))
    (l_meets : K.lookup f_meets = some ⟨oc_meets, od_meets, .func (PySem.W.fnOf "meets" "meets" (defArgs s_meets) (defBody s_meets) (defScope s_meets) .none kV_meets dc_meets pm_meets an_meets cd_meets ct_meets), sl_meets⟩)
    (q_meets : PySem.W.codeIn K cd_meets "meets" = true)
    (k_meets : PySem.W.keepIn K (.ref f_meets) = true)
    (a_common : PySem.W.nsIn K mainGlobals "common" = some (some (.ref f_common)))
    (l_common : K.lookup f_common = some ⟨oc_common, od_common, .func (PySem.W.fnOf "common" "common" (defArgs s_common) (defBody s_common) (defScope s_common) .none kV_common dc_common pm_common an_common cd_common ct_common), sl_common⟩)
    (q_common : PySem.W.codeIn K cd_common "common" = true)
    (k_common : PySem.W.keepIn K (.ref f_common) = true)
    (a_law_mask : PySem.W.nsIn K mainGlobals "_law_mask" = some (some (.ref f_law_mask)))
    (l_law_mask : K.lookup f_law_mask = some ⟨oc_law_mask, od_law_mask, .func (PySem.W.fnOf "_law_mask" "_law_mask" (defArgs s_law_mask) (defBody s_law_mask) (defScope s_law_mask) .none kV_law_mask dc_law_mask pm_law_mask an_law_mask cd_law_mask ct_law_mask), sl_law_mask⟩)
    (q_law_mask : PySem.W.codeIn K cd_law_mask "_law_mask" = true)
    (k_law_mask : PySem.W.keepIn K (.ref f_law_mask) = true)
    (a_law_word : PySem.W.nsIn K mainGlobals "_law_word" = some (some (.ref f_law_word)))
    (l_law_word : K.lookup f_law_word = some ⟨oc_law_word, od_law_word, .func (PySem.W.fnOf "_law_word" "_law_word" (defArgs s_law_word) (defBody s_law_word) (defScope s_law_word) .none kV_law_word dc_law_word pm_law_word an_law_word cd_law_word ct_law_word), sl_law_word⟩)
    (q_law_word : PySem.W.codeIn K cd_law_word "_law_word" = true)
    (k_law_word : PySem.W.keepIn K (.ref f_law_word) = true)
    (a_law_filter : PySem.W.nsIn K mainGlobals "_law_filter" = some (some (.ref f_law_filter)))
    (l_law_filter : K.lookup f_law_filter = some ⟨oc_law_filter, od_law_filter, .func (PySem.W.fnOf "_law_filter" "_law_filter" (defArgs s_law_filter) (defBody s_law_filter) (defScope s_law_filter) .none kV_law_filter dc_law_filter pm_law_filter an_law_filter cd_law_filter ct_law_filter), sl_law_filter⟩)
    (q_law_filter : PySem.W.codeIn K cd_law_filter "_law_filter" = true)
    (k_law_filter : PySem.W.keepIn K (.ref f_law_filter) = true)
    (a_law_packet : PySem.W.nsIn K mainGlobals "_law_packet" = some (some (.ref f_law_packet)))
    (l_law_packet : K.lookup f_law_packet = some ⟨oc_law_packet, od_law_packet, .func (PySem.W.fnOf "_law_packet" "_law_packet" (defArgs s_law_packet) (defBody s_law_packet) (defScope s_law_packet) .none kV_law_packet dc_law_packet pm_law_packet an_law_packet cd_law_packet ct_law_packet), sl_law_packet⟩)
    (q_law_packet : PySem.W.codeIn K cd_law_packet "_law_packet" = true)
    (k_law_packet : PySem.W.keepIn K (.ref f_law_packet) = true)
    (a_law_meets : PySem.W.nsIn K mainGlobals "_law_meets" = some (some (.ref f_law_meets)))
    (l_law_meets : K.lookup f_law_meets = some ⟨oc_law_meets, od_law_meets, .func (PySem.W.fnOf "_law_meets" "_law_meets" (defArgs s_law_meets) (defBody s_law_meets) (defScope s_law_meets) .none kV_law_meets dc_law_meets pm_law_meets an_law_meets cd_law_meets ct_law_meets), sl_law_meets⟩)
    (q_law_meets : PySem.W.codeIn K cd_law_meets "_law_meets" = true)
    (k_law_meets : PySem.W.keepIn K (.ref f_law_meets) = true)
    (a_law_apart : PySem.W.nsIn K mainGlobals "_law_apart" = some (some (.ref f_law_apart)))
    (l_law_apart : K.lookup f_law_apart = some ⟨oc_law_apart, od_law_apart, .func (PySem.W.fnOf "_law_apart" "_law_apart" (defArgs s_law_apart) (defBody s_law_apart) (defScope s_law_apart) .none kV_law_apart dc_law_apart pm_law_apart an_law_apart cd_law_apart ct_law_apart), sl_law_apart⟩)
    (q_law_apart : PySem.W.codeIn K cd_law_apart "_law_apart" = true)
    (k_law_apart : PySem.W.keepIn K (.ref f_law_apart) = true)
    (a_law_spoilt : PySem.W.nsIn K mainGlobals "_law_spoilt" = some (some (.ref f_law_spoilt)))
    (l_law_spoilt : K.lookup f_law_spoilt = some ⟨oc_law_spoilt, od_law_spoilt, .func (PySem.W.fnOf "_law_spoilt" "_law_spoilt" (defArgs s_law_spoilt) (defBody s_law_spoilt) (defScope s_law_spoilt) .none kV_law_spoilt dc_law_spoilt pm_law_spoilt an_law_spoilt cd_law_spoilt ct_law_spoilt), sl_law_spoilt⟩)
    (q_law_spoilt : PySem.W.codeIn K cd_law_spoilt "_law_spoilt" = true)
    (k_law_spoilt : PySem.W.keepIn K (.ref f_law_spoilt) = true)
    (a_law : PySem.W.nsIn K mainGlobals "law" = some (some (.ref f_law)))
    (l_law : K.lookup f_law = some ⟨oc_law, od_law, .func (PySem.W.fnOf "law" "law" (defArgs s_law) (defBody s_law) (defScope s_law) .none kV_law dc_law pm_law an_law cd_law ct_law), sl_law⟩)
    (q_law : PySem.W.codeIn K cd_law "law" = true)
    (k_law : PySem.W.keepIn K (.ref f_law) = true)
    (z_abs : PySem.W.nsIn K mainGlobals "abs" = some none)
    (z_all : PySem.W.nsIn K mainGlobals "all" = some none)
    (z_bool : PySem.W.nsIn K mainGlobals "bool" = some none)
    (z_int : PySem.W.nsIn K mainGlobals "int" = some none)
    (z_isinstance : PySem.W.nsIn K mainGlobals "isinstance" = some none)
    (z_len : PySem.W.nsIn K mainGlobals "len" = some none)
    (z_list : PySem.W.nsIn K mainGlobals "list" = some none)
    (z_range : PySem.W.nsIn K mainGlobals "range" = some none)
    (z_tuple : PySem.W.nsIn K mainGlobals "tuple" = some none)
    (y_FIELDS : PySem.W.nsIn K mainGlobals "FIELDS" = some (some (.int 6 t_FIELDS)))
    (y_TOP : PySem.W.nsIn K mainGlobals "TOP" = some (some (.int 4294967295 t_TOP))) :
    ∃ fd : FuncData, (∀ (s : Shared) (v : Value), BindsTo s fd ⟨[v], []⟩ [("script", v)]) ∧ ∀ base : Heap, K.In base → base.Ns mainGlobals mg → FnOk l.prog w K mg base CX0 7 fa fd ["script"] (spLaw K) := by
  have e := hfa.symm.trans (PySem.W.mg_of X G a_law)
  cases e
  have T : Txt mg := ⟨PySem.W.mg_none_of X G z_abs, PySem.W.mg_none_of X G z_all, PySem.W.mg_none_of X G z_bool, PySem.W.mg_none_of X G z_int, PySem.W.mg_none_of X G z_isinstance, PySem.W.mg_none_of X G z_len, PySem.W.mg_none_of X G z_list, PySem.W.mg_none_of X G z_range, PySem.W.mg_none_of X G z_tuple, ⟨_, PySem.W.mg_of X G y_FIELDS⟩, ⟨_, PySem.W.mg_of X G y_TOP⟩⟩
  have F_law_next := fun_mk (st := s_law_next) l_law_next q_law_next k_law_next
  have B_law_next := F_law_next.binds (ps := ["tape", "many"]) fun _ _ _ _ _ _ us hl => match us, hl with | [_, _], _ => rfl
  have F_is_at_least := fun_mk (st := s_is_at_least) l_is_at_least q_is_at_least k_is_at_least
  have B_is_at_least := F_is_at_least.binds (ps := ["value", "least"]) fun _ _ _ _ _ _ us hl => match us, hl with | [_, _], _ => rfl
  have F_is_between := fun_mk (st := s_is_between) l_is_between q_is_between k_is_between
  have B_is_between := F_is_between.binds (ps := ["value", "least", "most"]) fun _ _ _ _ _ _ us hl => match us, hl with | [_, _, _], _ => rfl
  have F_is_index := fun_mk (st := s_is_index) l_is_index q_is_index k_is_index
  have B_is_index := F_is_index.binds (ps := ["value", "many"]) fun _ _ _ _ _ _ us hl => match us, hl with | [_, _], _ => rfl
  have F_is_word := fun_mk (st := s_is_word) l_is_word q_is_word k_is_word
  have B_is_word := F_is_word.binds (ps := ["value"]) fun _ _ _ _ _ _ us hl => match us, hl with | [_], _ => rfl
  have F_is_packet := fun_mk (st := s_is_packet) l_is_packet q_is_packet k_is_packet
  have B_is_packet := F_is_packet.binds (ps := ["value"]) fun _ _ _ _ _ _ us hl => match us, hl with | [_], _ => rfl
  have F_is_test := fun_mk (st := s_is_test) l_is_test q_is_test k_is_test
  have B_is_test := F_is_test.binds (ps := ["value"]) fun _ _ _ _ _ _ us hl => match us, hl with | [_], _ => rfl
  have F_is_filter := fun_mk (st := s_is_filter) l_is_filter q_is_filter k_is_filter
  have B_is_filter := F_is_filter.binds (ps := ["value"]) fun _ _ _ _ _ _ us hl => match us, hl with | [_], _ => rfl
  have F_meets := fun_mk (st := s_meets) l_meets q_meets k_meets
  have B_meets := F_meets.binds (ps := ["tests", "packet"]) fun _ _ _ _ _ _ us hl => match us, hl with | [_, _], _ => rfl
  have F_common := fun_mk (st := s_common) l_common q_common k_common
  have B_common := F_common.binds (ps := ["one", "other"]) fun _ _ _ _ _ _ us hl => match us, hl with | [_, _], _ => rfl
  have F_law_mask := fun_mk (st := s_law_mask) l_law_mask q_law_mask k_law_mask
  have B_law_mask := F_law_mask.binds (ps := ["tape"]) fun _ _ _ _ _ _ us hl => match us, hl with | [_], _ => rfl
  have F_law_word := fun_mk (st := s_law_word) l_law_word q_law_word k_law_word
  have B_law_word := F_law_word.binds (ps := ["tape"]) fun _ _ _ _ _ _ us hl => match us, hl with | [_], _ => rfl
  have F_law_filter := fun_mk (st := s_law_filter) l_law_filter q_law_filter k_law_filter
  have B_law_filter := F_law_filter.binds (ps := ["tape"]) fun _ _ _ _ _ _ us hl => match us, hl with | [_], _ => rfl
  have F_law_packet := fun_mk (st := s_law_packet) l_law_packet q_law_packet k_law_packet
  have B_law_packet := F_law_packet.binds (ps := ["tape", "rows"]) fun _ _ _ _ _ _ us hl => match us, hl with | [_, _], _ => rfl
  have F_law_meets := fun_mk (st := s_law_meets) l_law_meets q_law_meets k_law_meets
  have B_law_meets := F_law_meets.binds (ps := ["rows", "packet"]) fun _ _ _ _ _ _ us hl => match us, hl with | [_, _], _ => rfl
  have F_law_apart := fun_mk (st := s_law_apart) l_law_apart q_law_apart k_law_apart
  have B_law_apart := F_law_apart.binds (ps := ["one", "other"]) fun _ _ _ _ _ _ us hl => match us, hl with | [_, _], _ => rfl
  have F_law_spoilt := fun_mk (st := s_law_spoilt) l_law_spoilt q_law_spoilt k_law_spoilt
  have B_law_spoilt := F_law_spoilt.binds (ps := ["rows"]) fun _ _ _ _ _ _ us hl => match us, hl with | [_], _ => rfl
  have F_law := fun_mk (st := s_law) l_law q_law k_law
  refine ⟨PySem.W.fnOf "law" "law" (defArgs s_law) (defBody s_law) (defScope s_law) .none kV_law dc_law pm_law an_law cd_law ct_law, fun s v => .of_eq rfl, fun base _ _ => ?_⟩
  have D_law_next : Dfn l.prog w K mg base CX0 1 "_law_next" ["tape", "many"] spNext := ⟨f_law_next, _, ok_law_next F_law_next T , PySem.W.mg_of X G a_law_next, k_law_next, B_law_next⟩
  have D_is_at_least : Dfn l.prog w K mg base CX0 1 "is_at_least" ["value", "least"] spGe := ⟨f_is_at_least, _, ok_is_at_least F_is_at_least T , PySem.W.mg_of X G a_is_at_least, k_is_at_least, B_is_at_least⟩
  have D_is_between : Dfn l.prog w K mg base CX0 2 "is_between" ["value", "least", "most"] spBtw := ⟨f_is_between, _, ok_is_between F_is_between T D_is_at_least, PySem.W.mg_of X G a_is_between, k_is_between, B_is_between⟩
  have D_is_index : Dfn l.prog w K mg base CX0 3 "is_index" ["value", "many"] spIdx := ⟨f_is_index, _, ok_is_index F_is_index T D_is_between, PySem.W.mg_of X G a_is_index, k_is_index, B_is_index⟩
  have D_is_word : Dfn l.prog w K mg base CX0 3 "is_word" ["value"] spWord := ⟨f_is_word, _, ok_is_word F_is_word T D_is_between, PySem.W.mg_of X G a_is_word, k_is_word, B_is_word⟩
  have D_is_packet : Dfn l.prog w K mg base CX0 4 "is_packet" ["value"] spPk := ⟨f_is_packet, _, ok_is_packet F_is_packet T D_is_word, PySem.W.mg_of X G a_is_packet, k_is_packet, B_is_packet⟩
  have D_is_test : Dfn l.prog w K mg base CX0 4 "_is_test" ["value"] spTst := ⟨f_is_test, _, ok_is_test F_is_test T D_is_word D_is_index, PySem.W.mg_of X G a_is_test, k_is_test, B_is_test⟩
  have D_is_filter : Dfn l.prog w K mg base CX0 5 "is_filter" ["value"] spFl := ⟨f_is_filter, _, ok_is_filter F_is_filter T D_is_test, PySem.W.mg_of X G a_is_filter, k_is_filter, B_is_filter⟩
  have D_meets : Dfn l.prog w K mg base CX0 1 "meets" ["tests", "packet"] spMeets := ⟨f_meets, _, ok_meets F_meets T , PySem.W.mg_of X G a_meets, k_meets, B_meets⟩
  have D_common : Dfn l.prog w K mg base CX0 1 "common" ["one", "other"] spCommon := ⟨f_common, _, ok_common F_common T , PySem.W.mg_of X G a_common, k_common, B_common⟩
  have D_law_mask : Dfn l.prog w K mg base CX0 2 "_law_mask" ["tape"] spMask := ⟨f_law_mask, _, ok_law_mask F_law_mask T D_law_next, PySem.W.mg_of X G a_law_mask, k_law_mask, B_law_mask⟩
  have D_law_word : Dfn l.prog w K mg base CX0 2 "_law_word" ["tape"] spWd := ⟨f_law_word, _, ok_law_word F_law_word T D_law_next, PySem.W.mg_of X G a_law_word, k_law_word, B_law_word⟩
  have D_law_filter : Dfn l.prog w K mg base CX0 3 "_law_filter" ["tape"] spFil := ⟨f_law_filter, _, ok_law_filter F_law_filter T D_law_next D_law_mask, PySem.W.mg_of X G a_law_filter, k_law_filter, B_law_filter⟩
  have D_law_packet : Dfn l.prog w K mg base CX0 3 "_law_packet" ["tape", "rows"] spPkt := ⟨f_law_packet, _, ok_law_packet F_law_packet T D_law_next D_law_word, PySem.W.mg_of X G a_law_packet, k_law_packet, B_law_packet⟩
  have D_law_meets : Dfn l.prog w K mg base CX0 1 "_law_meets" ["rows", "packet"] spLMeets := ⟨f_law_meets, _, ok_law_meets F_law_meets T , PySem.W.mg_of X G a_law_meets, k_law_meets, B_law_meets⟩
  have D_law_apart : Dfn l.prog w K mg base CX0 1 "_law_apart" ["one", "other"] spApart := ⟨f_law_apart, _, ok_law_apart F_law_apart T , PySem.W.mg_of X G a_law_apart, k_law_apart, B_law_apart⟩
  have D_law_spoilt : Dfn l.prog w K mg base CX0 6 "_law_spoilt" ["rows"] spSpoilt := ⟨f_law_spoilt, _, ok_law_spoilt F_law_spoilt T D_is_filter, PySem.W.mg_of X G a_law_spoilt, k_law_spoilt, B_law_spoilt⟩
  exact ok_law F_law T D_law_filter D_is_filter D_law_spoilt D_is_packet D_common D_law_apart D_law_meets D_meets D_law_packet
theorem walk {l : PySem.W.OpenLaw} {q : Program} {loose : List Str} {XP : (Str → Option Value) → Heap → Prop} {YP : World → Heap → Prop} {d : DefRec} {K : Params → PySem.W.Frag} (hn : l.most = some 63) (hdf : d.params.defaults = [])
    (hY : ∀ (w : World) (h : Heap), YP w h → (K w.params).In h)
    (F : ∀ (w : World) (mg : Str → Option Value) (fa : Addr) (h : Heap), (K w.params).In h → h.Ns mainGlobals mg → mg d.name = some (.ref fa) →
      ∃ fd : FuncData, (∀ (s : Shared) (u : Value), BindsTo s fd ⟨[u], []⟩ [("script", u)]) ∧ ∀ base : Heap, (K w.params).In base → base.Ns mainGlobals mg → FnOk l.prog w (K w.params) mg base CX0 7 fa fd ["script"] (spLaw (K w.params))) :
    PySem.W.WalkO q loose XP YP l.row.toRowW d [] (fun f vs => PySem.call f vs) :=
  L2.walk_of (n := 63) (k := 7) (x := "script") (CX := fun _ => CX0) (sp := fun w => spLaw (K w.params)) hn (by decide) hdf ⟨rfl, by decide, by decide⟩ hY F (fun _ _ a ns hl _ hS => ⟨a, ns, rfl, hS, fun _ => rfl⟩) fun _ _ _ _ _ z => z
end My
open PySem PySem.W PyProof.Rows in
set_option maxRecDepth 100000 in
set_option maxHeartbeats 0 in
theorem PySem.Challenge.cw_steadhold_k34_filters_and_their_common_p_holds : PySem.Challenge.rw_steadhold_k34_filters_and_their_common_p.Holds := by
  w_on; o_law; k_head; (case hw => w_witness2)
  k_fill
  refine My.walk (l := PySem.Challenge.rw_steadhold_k34_filters_and_their_common_p) rfl rfl (fun w h Y => PySem.W.kIn_of Y) ?F
  case F =>
    intro w mg fa h KX G hmg
    refine' My.all_mk KX G hmg ?a_law_next ?l_law_next ?q_law_next ?k_law_next ?a_is_at_least ?l_is_at_least ?q_is_at_least ?k_is_at_least ?a_is_between ?l_is_between ?q_is_between ?k_is_between ?a_is_index ?l_is_index ?q_is_index ?k_is_index ?a_is_word ?l_is_word ?q_is_word ?k_is_word ?a_is_packet ?l_is_packet ?q_is_packet ?k_is_packet ?a_is_test ?l_is_test ?q_is_test ?k_is_test ?a_is_filter ?l_is_filter ?q_is_filter ?k_is_filter ?a_meets ?l_meets ?q_meets ?k_meets ?a_common ?l_common ?q_common ?k_common ?a_law_mask ?l_law_mask ?q_law_mask ?k_law_mask ?a_law_word ?l_law_word ?q_law_word ?k_law_word ?a_law_filter ?l_law_filter ?q_law_filter ?k_law_filter ?a_law_packet ?l_law_packet ?q_law_packet ?k_law_packet ?a_law_meets ?l_law_meets ?q_law_meets ?k_law_meets ?a_law_apart ?l_law_apart ?q_law_apart ?k_law_apart ?a_law_spoilt ?l_law_spoilt ?q_law_spoilt ?k_law_spoilt ?a_law ?l_law ?q_law ?k_law ?z_abs ?z_all ?z_bool ?z_int ?z_isinstance ?z_len ?z_list ?z_range ?z_tuple ?y_FIELDS ?y_TOP
    (case a_law_next => k_is)
    (case l_law_next => k_is)
    (case q_law_next => k_is)
    (case k_law_next => k_is)
    (case a_is_at_least => k_is)
    (case l_is_at_least => k_is)
    (case q_is_at_least => k_is)
    (case k_is_at_least => k_is)
    (case a_is_between => k_is)
    (case l_is_between => k_is)
    (case q_is_between => k_is)
    (case k_is_between => k_is)
    (case a_is_index => k_is)
    (case l_is_index => k_is)
    (case q_is_index => k_is)
    (case k_is_index => k_is)
    (case a_is_word => k_is)
    (case l_is_word => k_is)
    (case q_is_word => k_is)
    (case k_is_word => k_is)
    (case a_is_packet => k_is)
    (case l_is_packet => k_is)
    (case q_is_packet => k_is)
    (case k_is_packet => k_is)
    (case a_is_test => k_is)
    (case l_is_test => k_is)
    (case q_is_test => k_is)
    (case k_is_test => k_is)
    (case a_is_filter => k_is)
    (case l_is_filter => k_is)
    (case q_is_filter => k_is)
    (case k_is_filter => k_is)
    (case a_meets => k_is)
    (case l_meets => k_is)
    (case q_meets => k_is)
    (case k_meets => k_is)
    (case a_common => k_is)
    (case l_common => k_is)
    (case q_common => k_is)
    (case k_common => k_is)
    (case a_law_mask => k_is)
    (case l_law_mask => k_is)
    (case q_law_mask => k_is)
    (case k_law_mask => k_is)
    (case a_law_word => k_is)
    (case l_law_word => k_is)
    (case q_law_word => k_is)
    (case k_law_word => k_is)
    (case a_law_filter => k_is)
    (case l_law_filter => k_is)
    (case q_law_filter => k_is)
    (case k_law_filter => k_is)
    (case a_law_packet => k_is)
    (case l_law_packet => k_is)
    (case q_law_packet => k_is)
    (case k_law_packet => k_is)
    (case a_law_meets => k_is)
    (case l_law_meets => k_is)
    (case q_law_meets => k_is)
    (case k_law_meets => k_is)
    (case a_law_apart => k_is)
    (case l_law_apart => k_is)
    (case q_law_apart => k_is)
    (case k_law_apart => k_is)
    (case a_law_spoilt => k_is)
    (case l_law_spoilt => k_is)
    (case q_law_spoilt => k_is)
    (case k_law_spoilt => k_is)
    (case a_law => k_is)
    (case l_law => k_is)
    (case q_law => k_is)
    (case k_law => k_is)
    (case z_abs => k_is)
    (case z_all => k_is)
    (case z_bool => k_is)
    (case z_int => k_is)
    (case z_isinstance => k_is)
    (case z_len => k_is)
    (case z_list => k_is)
    (case z_range => k_is)
    (case z_tuple => k_is)
    (case y_FIELDS => k_is)
    (case y_TOP => k_is)
