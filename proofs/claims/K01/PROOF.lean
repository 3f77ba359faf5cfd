import PyProof.Rows.All
import Wide.All
import OpenK.AllK
import Wide.FinOn
import HandS.ForMost
import HandS.ForExc
import HandS.IsInst
import HandS.Flow
import HandS.Zip
import HandS.Wide
import HandS.Steps
import KE.DatumMoreOrd
import PySem.Challenge.RW_onebell_k01_marks_in_order
set_option Elab.async false
set_option linter.all false
set_option maxRecDepth 100000
/-! The layer: readings opened by simp, callees as one fact, data. -/
namespace Y
open PySem PySem.Spec PyProof.Rows L2

/-- a new object, and what is wanted then -/
def NewO (H : Hp) (o : HO) (Q : VK) : Prop := ∀ p, H p = none → Q (.ref p) (upd H p o)
/-- the object at a becomes o, and what is wanted then -/
def WrO (H : Hp) (a : Addr) (o : HO) (R : Hp → Prop) : Prop := R (upd H a o)
/-! ### readings, one step each -/
section
variable {σ : L2.St} {H : Hp} {Q : VK} {D : Ends} {i : Nat} {v : V} {ta tb te tv : TE} {t u : TT} {r : R2} {ts ts' : TS} {g : TG} {K : PySem.W.Frag} {QT : Bool → Hp → Prop} {tas : TA} {QA : List V → Hp → Prop}
theorem a_var : tVar i σ H Q = ∃ v, σ[i]? = some (some v) ∧ Q v H := rfl
theorem a_c : tC v σ H Q = Q v H := rfl
theorem a_op : tOp r ta tb σ H Q = ta σ H fun x H1 => tb σ H1 fun y H2 => r x y H2 Q := rfl
theorem a_un {r : V → Hp → VK → Prop} : tUn r ta σ H Q = ta σ H fun x H1 => r x H1 Q := rfl
theorem a_I0 {f : Int → Int → V} {x y : V} : rI0 f x y H Q = ∃ i j, x = .int i ∧ y = .int j ∧ Q (f i j) H := rfl
theorem a_I {C : Int → Int → Prop} {f : Int → Int → V} {x y : V} : rI C f x y H Q = ∃ i j, x = .int i ∧ y = .int j ∧ C i j ∧ Q (f i j) H := rfl
theorem a_U {f : Int → V} {x : V} : rU f x H Q = ∃ i, x = .int i ∧ Q (f i) H := rfl
theorem a_eq {x y : V} : rEq x y H Q = (scal x y = true ∧ Q (.bl (decide (x = y))) H) := rfl
theorem a_ne {x y : V} : rNe x y H Q = (scal x y = true ∧ Q (.bl (!decide (x = y))) H) := rfl
theorem a_B : tB te σ H QT = te σ H fun x H1 => ∃ c, x = .bl c ∧ QT c H1 := rfl
theorem a_test : tTest te σ H QT = te σ H fun x H1 => ∃ c, x = .bl c ∧ QT c H1 := rfl
theorem a_and : tAnd t u σ H QT = t σ H fun c H1 => if c = true then u σ H1 QT else QT false H1 := rfl
theorem a_or : tOr t u σ H QT = t σ H fun c H1 => if c = true then QT true H1 else u σ H1 QT := rfl
theorem a_not : tNot t σ H QT = t σ H fun c H1 => QT (!c) H1 := rfl
theorem a_andV : tAndV ta tb σ H Q = ta σ H fun x H1 => ∃ c, x = .bl c ∧ if c = true then tb σ H1 Q else Q (.bl false) H1 := rfl
theorem a_orV : tOrV ta tb σ H Q = ta σ H fun x H1 => ∃ c, x = .bl c ∧ if c = true then Q (.bl true) H1 else tb σ H1 Q := rfl
theorem a_notV : tNotV ta σ H Q = ta σ H fun x H1 => ∃ c, x = .bl c ∧ Q (.bl (!c)) H1 := rfl
theorem a_isN : tIsN ta σ H Q = ta σ H fun x H1 => Q (.bl (decide (x = .non))) H1 := rfl
theorem a_notN : tNotN ta σ H Q = ta σ H fun x H1 => Q (.bl (!decide (x = .non))) H1 := rfl
theorem a_if : tIf t ta tb σ H Q = t σ H fun c H1 => if c = true then ta σ H1 Q else tb σ H1 Q := rfl
theorem a_next : tNext D σ H = D.nx σ H := rfl
theorem a_seq : tSeq ts ts' D σ H = ts { D with nx := ts' D } σ H := rfl
theorem a_brk : tBreak D σ H = D.bk σ H := rfl
theorem a_cont : tCont D σ H = D.ct σ H := rfl
theorem a_drop : tDrop te D σ H = te σ H fun _ H1 => D.nx σ H1 := rfl
theorem a_ret : tRet te D σ H = te σ H D.rt := rfl
theorem a_retN : tRetN D σ H = D.rt .non H := rfl
theorem a_ifS : tIfS t ts ts' D σ H = t σ H fun b H1 => if b = true then ts D σ H1 else ts' D σ H1 := rfl
theorem a_asg : tAsg te g D σ H = te σ H fun x H1 => g x σ H1 D.nx := rfl
theorem a_gName {q : L2.St → Hp → Prop} : gName i v σ H q = q (σ.set i (some v)) H := rfl
theorem a_nil : tNil σ H QA = QA [] H := rfl
theorem a_cons : tCons te tas σ H QA = te σ H fun x H1 => tas σ H1 fun xs H2 => QA (x :: xs) H2 := rfl
theorem a_tup : tTup tas σ H Q = tas σ H fun xs H1 => xs.length ≤ sizeLine ∧ NewO H1 (.tup xs) Q := rfl
theorem a_lst : tLst tas σ H Q = tas σ H fun xs H1 => xs.length ≤ sizeLine ∧ NewO H1 (.lst xs) Q := rfl
theorem a_cb {r : List V → Hp → VK → Prop} : tCB r tas σ H Q = tas σ H fun xs H1 => r xs H1 Q := rfl
theorem a_call {sp : Sp} {dvs : List V} {E : XK} : tCall sp dvs E tas σ H Q = tas σ H fun vs H1 => sp (vs ++ dvs) H1 Q E := rfl
theorem a_ixL {x y : V} : rIxL K x y H Q = ∃ p xs i v, x = .ref p ∧ y = .int i ∧ SqL K H p xs ∧ atI xs i = some v ∧ Q v H := rfl
theorem a_ixT {x y : V} : rIxT K x y H Q = ∃ p xs i v, x = .ref p ∧ y = .int i ∧ SqT K H p xs ∧ atI xs i = some v ∧ Q v H := rfl
theorem a_tIfT {A B : Prop} : (if true = true then A else B) = A := if_pos rfl
theorem a_tIfF {A B : Prop} : (if false = true then A else B) = B := if_neg Bool.false_ne_true
end

/-! ### heaps -/
/-- what never changes once it stands -/
def tupO : HO → Prop
  | .tup _ => True
  | .frz _ _ => True
  | _ => False
/-- what is tracked outside of M, and every tuple, is as it was -/
def Frm (M : Addr → Prop) (H H' : Hp) : Prop := ∀ a o, H a = some o → (M a → tupO o) → H' a = some o
theorem Frm.refl {M : Addr → Prop} {H : Hp} : Frm M H H := fun _ _ e _ => e
theorem Frm.trans {M : Addr → Prop} {H H1 H2 : Hp} (a : Frm M H H1) (b : Frm M H1 H2) : Frm M H H2 := fun x o e h => b x o (a x o e h) h
theorem Frm.mono {M N : Addr → Prop} {H H1 : Hp} (a : Frm M H H1) (b : ∀ x, M x → N x) : Frm N H H1 := fun x o e h => a x o e fun m => h (b x m)
theorem Frm.tup {M : Addr → Prop} {H H1 : Hp} (a : Frm M H H1) {p : Addr} {xs : List V} (e : H p = some (.tup xs)) : H1 p = some (.tup xs) := a p _ e fun _ => trivial
theorem Frm.upd {H : Hp} {p : Addr} {o u : HO} (h : H p = some o) (ht : ¬ tupO o) : Frm (fun b => b = p) H (L2.upd H p u) := fun a v e m => by
  rw [upd_ne (fun z => ?_)]
  · exact e
  · subst z
    rw [h] at e
    cases e
    exact ht (m rfl)
theorem Frm.sqT {M : Addr → Prop} {H H1 : Hp} (a : Frm M H H1) {K : PySem.W.Frag} {p : Addr} {xs : List V} (h : SqT K H p xs) : SqT K H1 p xs := by
  rcases h with (h | ⟨o, h⟩) | h
  · exact .inl (.inl (a _ _ h fun _ => trivial))
  · exact .inl (.inr ⟨o, a _ _ h fun _ => trivial⟩)
  · exact .inr h
theorem Frm.of_same {M : Addr → Prop} {H H' : Hp} (h : Same H H') : Frm M H H' := fun a o e _ => h a o e
theorem Frm.same {H H' : Hp} (h : Frm (fun _ => False) H H') : Same H H' := fun a o e => h a o e fun z => z.elim
theorem Same.new {H : Hp} {p : Addr} {o : HO} (h : H p = none) : Same H (upd H p o) := fun a u e => by
  rw [upd_ne (ne_of_none e h)]
  exact e
theorem free_of {H H' : Hp} (e : Same H H') {p : Addr} (h : H' p = none) : H p = none := e.free h
theorem _root_.L2.Same.seqT {K : PySem.W.Frag} {H H' : Hp} {a : Addr} {xs : List V} (e : Same H H') (h : SqT K H a xs) : SqT K H' a xs := by
  rcases h with (h | ⟨o, h⟩) | h
  · exact .inl (.inl (e _ _ h))
  · exact .inl (.inr ⟨o, e _ _ h⟩)
  · exact .inr h
theorem sqL {K : PySem.W.Frag} {H : Hp} {a : Addr} {xs : List V} (h : H a = some (.lst xs)) : SqL K H a xs := .inl (.inl h)
theorem sqT {K : PySem.W.Frag} {H : Hp} {a : Addr} {xs : List V} (h : H a = some (.tup xs)) : SqT K H a xs := .inl (.inl h)

/-! ### callees as one fact -/
structure Cal (P : Program) (w : World) (K : PySem.W.Frag) (mg : Str → Option Value) (base : Heap) (CX : CXT) (k : Nat) (x : Str) (ps : List Str) (sp : Sp) : Prop where
  ex : ∃ (f : Addr) (fd : FuncData), FnOk P w K mg base CX k f fd ps sp ∧ mg x = some (.ref f) ∧ PySem.W.keepIn K (.ref f) = true ∧ Binds K fd ps []
section
variable {X : Cx}
theorem pe_callC {k : Nat} {x : Str} {ps : List Str} {sp : Sp} {p pos : Pos} {e : Expr} {es : List Expr} {t : TA} (C : Cal X.prog X.w X.K X.mg X.base CX0 k x ps sp) (hr : Room k X.A) (ha : PA X (e :: es) t) (hg : Gl X x := by rfl) (hn : x ≠ "__name__" := by decide)
    (hdb : (x == ("__debug__" : Str)) = false := by decide) (he : starEach (e :: es) X.env = (false, eval e X.env) :: starEach es X.env := by rfl) (hpl : (backTo pos (starEach es X.env)).any (·.1) = false := by rfl) :
    PE X (.Call (.Name x p) (e :: es) [] pos) (tCall sp [] E0 t) := by
  obtain ⟨f, fd, F, m, kp, b⟩ := C.ex
  exact pe_call F hr hg m kp b .nil pass0 ha hdb he hpl
theorem pe_call0C {k : Nat} {x : Str} {ps : List Str} {sp : Sp} {p pos : Pos} (C : Cal X.prog X.w X.K X.mg X.base CX0 k x ps sp) (hr : Room k X.A) (hg : Gl X x := by rfl) (hn : x ≠ "__name__" := by decide)
    (hdb : (x == ("__debug__" : Str)) = false := by decide) :
    PE X (.Call (.Name x p) [] [] pos) (tCall sp [] E0 tNil) := by
  obtain ⟨f, fd, F, m, kp, b⟩ := C.ex
  exact pe_call0 F hr hg m kp b .nil pass0 hdb
end
/-- the names of built-ins that the module leaves alone -/
structure Bt (mg : Str → Option Value) : Prop where
  len : mg "len" = none
  isinstance : mg "isinstance" = none
  max : mg "max" = none
  min : mg "min" = none
  all : mg "all" = none
  any : mg "any" = none
  sorted : mg "sorted" = none
  int : mg "int" = none
  str : mg "str" = none
  bool : mg "bool" = none
  list : mg "list" = none
  tuple : mg "tuple" = none
  dict : mg "dict" = none
  set : mg "set" = none
  range : mg "range" = none
  zip : mg "zip" = none
  enumerate : mg "enumerate" = none

/-! ### data with a Lean type -/
section
variable {α β : Type} [DecidableEq α] [PySem.W.Datum α] [DecidableEq β] [PySem.W.Datum β] {K : PySem.W.Frag} {H H' : Hp} {v u : V} {vs us : List V} {x y : α} {xs ys : List α}
open PySem.W (Datum)
def Dv (K : PySem.W.Frag) (H : Hp) (v : V) (x : α) : Prop := Dp K H v (Datum.toD x)
def DvL (K : PySem.W.Frag) (H : Hp) (vs : List V) (xs : List α) : Prop := DpAll K H vs (xs.map Datum.toD)
mutual
theorem Dp.same (e : Same H H') : ∀ (d : PyData) (v : V), Dp K H v d → Dp K H' v d
  | .none, _, h => by cases h; exact .non
  | .bool b, _, h => by cases h; exact .bl b
  | .int i, _, h => by cases h; exact .int i
  | .str x, _, h => by cases h; exact .str x
  | .list ds, _, h => by
    cases h with
    | lst hs ha => exact .lst (e.seq hs) (DpAll.same e ds _ ha)
  | .tuple ds, _, h => by
    cases h with
    | tup hs ha => exact .tup (e.seqT hs) (DpAll.same e ds _ ha)
  | .dict _, _, h => by cases h
theorem DpAll.same (e : Same H H') : ∀ (ds : List PyData) (vs : List V), DpAll K H vs ds → DpAll K H' vs ds
  | [], _, h => by cases h; exact .nil
  | d :: ds, _, h => by
    cases h with
    | cons h1 h2 => exact .cons (Dp.same e d _ h1) (DpAll.same e ds _ h2)
end
theorem Dv.same (e : Same H H') (h : Dv K H v x) : Dv K H' v x := Dp.same e _ _ h
theorem DvL.same (e : Same H H') (h : DvL K H vs xs) : DvL K H' vs xs := DpAll.same e _ _ h
theorem DvL.nil : DvL K H [] ([] : List α) := DpAll.nil
theorem DvL.cons (a : Dv K H v x) (b : DvL K H vs xs) : DvL K H (v :: vs) (x :: xs) := DpAll.cons a b
theorem DvL.head (h : DvL K H (v :: vs) (x :: xs)) : Dv K H v x ∧ DvL K H vs xs := by
  have h : DpAll K H (v :: vs) (Datum.toD x :: xs.map Datum.toD) := h
  cases h with
  | cons a b => exact ⟨a, b⟩
theorem DvL.length : ∀ {vs : List V} {xs : List α}, DvL K H vs xs → vs.length = xs.length
  | [], [], _ => rfl
  | [], x :: xs, h => by have h : DpAll K H [] (Datum.toD x :: xs.map Datum.toD) := h; cases h
  | v :: vs, [], h => by have h : DpAll K H (v :: vs) [] := h; cases h
  | v :: vs, x :: xs, h => by rw [List.length_cons, List.length_cons, DvL.length h.head.2]
theorem DvL.append : ∀ {vs : List V} {xs : List α}, DvL K H vs xs → DvL K H us ys → DvL K H (vs ++ us) (xs ++ ys)
  | [], [], _, k => k
  | [], x :: xs, h, _ => by have := h.length; cases this
  | v :: vs, [], h, _ => by have := h.length; cases this
  | v :: vs, x :: xs, h, k => .cons h.head.1 (DvL.append h.head.2 k)
theorem DvL.snoc (a : DvL K H vs xs) (b : Dv K H v x) : DvL K H (vs ++ [v]) (xs ++ [x]) := a.append (.cons b .nil)
theorem DvL.at : ∀ {vs : List V} {xs : List α}, DvL K H vs xs → ∀ {i : Nat} {v : V}, vs[i]? = some v → ∃ x, xs[i]? = some x ∧ Dv K H v x
  | [], _, _, i, v, e => by simp at e
  | v :: vs, [], h, _, _, _ => by have := h.length; cases this
  | v :: vs, x :: xs, h, 0, w, e => by
    have e' : v = w := Option.some.inj e
    subst e'
    exact ⟨x, rfl, h.head.1⟩
  | v :: vs, x :: xs, h, i + 1, w, e => DvL.at h.head.2 (i := i) e
theorem DvL.at' : ∀ {vs : List V} {xs : List α}, DvL K H vs xs → ∀ {i : Nat} {x : α}, xs[i]? = some x → ∃ v, vs[i]? = some v ∧ Dv K H v x
  | _, [], _, i, x, e => by simp at e
  | [], x :: xs, h, _, _, _ => by have := h.length; cases this
  | v :: vs, x :: xs, h, 0, w, e => by
    have e' : x = w := Option.some.inj e
    subst e'
    exact ⟨v, rfl, h.head.1⟩
  | v :: vs, x :: xs, h, i + 1, w, e => DvL.at' h.head.2 (i := i) e
theorem DvL.take : ∀ {vs : List V} {xs : List α}, DvL K H vs xs → ∀ n : Nat, DvL K H (vs.take n) (xs.take n)
  | _, _, _, 0 => by rw [List.take_zero, List.take_zero]; exact .nil
  | [], [], h, _ + 1 => h
  | [], x :: xs, h, _ + 1 => by have := h.length; cases this
  | v :: vs, [], h, _ + 1 => by have := h.length; cases this
  | v :: vs, x :: xs, h, n + 1 => .cons h.head.1 (DvL.take h.head.2 n)
theorem DvL.drop : ∀ {vs : List V} {xs : List α}, DvL K H vs xs → ∀ n : Nat, DvL K H (vs.drop n) (xs.drop n)
  | _, _, h, 0 => h
  | [], [], h, _ + 1 => h
  | [], x :: xs, h, _ + 1 => by have := h.length; cases this
  | v :: vs, [], h, _ + 1 => by have := h.length; cases this
  | v :: vs, x :: xs, h, n + 1 => DvL.drop h.head.2 n
theorem dv_int (i : Int) : Dv K H (.int i) i := Dp.int i
theorem dv_bl (b : Bool) : Dv K H (.bl b) b := Dp.bl b
theorem dv_str (z : Str) : Dv K H (.str z) z := Dp.str z
theorem dv_lst {a : Addr} (h : SqL K H a vs) (k : DvL K H vs xs) : Dv K H (.ref a) xs := Dp.lst h k
theorem dv_pair {a : Addr} {y : β} (h : SqT K H a [v, u]) (k : Dv K H v x) (l : Dv K H u y) : Dv K H (.ref a) (x, y) := Dp.tup h (.cons k (.cons l .nil))
/-! no list within -/
mutual
def noL : PyData → Bool
  | .list _ => false
  | .tuple ds => noLs ds
  | .dict _ => false
  | _ => true
def noLs : List PyData → Bool
  | [] => true
  | d :: ds => noL d && noLs ds
end
mutual
theorem Dp.frm {M : Addr → Prop} (e : Frm M H H') : ∀ (d : PyData) (v : V), noL d = true → Dp K H v d → Dp K H' v d
  | .none, _, _, h => by cases h; exact .non
  | .bool b, _, _, h => by cases h; exact .bl b
  | .int i, _, _, h => by cases h; exact .int i
  | .str x, _, _, h => by cases h; exact .str x
  | .list ds, _, n, h => by simp [noL] at n
  | .tuple ds, _, n, h => by
    rw [noL] at n
    cases h with
    | tup hs ha => exact .tup (e.sqT hs) (DpAll.frm e ds _ n ha)
  | .dict _, _, _, h => by cases h
theorem DpAll.frm {M : Addr → Prop} (e : Frm M H H') : ∀ (ds : List PyData) (vs : List V), noLs ds = true → DpAll K H vs ds → DpAll K H' vs ds
  | [], _, _, h => by cases h; exact .nil
  | d :: ds, _, n, h => by
    rw [noLs, Bool.and_eq_true] at n
    cases h with
    | cons h1 h2 => exact .cons (Dp.frm e d _ n.1 h1) (DpAll.frm e ds _ n.2 h2)
end
/-- data of numbers, texts, tuples: never changed -/
class Flat (α : Type) [DecidableEq α] [PySem.W.Datum α] : Prop where
  flat : ∀ x : α, noL (Datum.toD x) = true
instance : Flat Int := ⟨fun _ => rfl⟩
instance : Flat Bool := ⟨fun _ => rfl⟩
instance : Flat Str := ⟨fun _ => rfl⟩
instance [Flat α] [Flat β] : Flat (α × β) := ⟨fun x => by
  show noL (.tuple [Datum.toD x.1, Datum.toD x.2]) = true
  rw [noL, noLs, noLs, noLs, Flat.flat x.1, Flat.flat x.2]; rfl⟩
theorem Dv.frm [Flat α] {M : Addr → Prop} (e : Frm M H H') (h : Dv K H v x) : Dv K H' v x := Dp.frm e _ _ (Flat.flat x) h
theorem DvL.frm [Flat α] {M : Addr → Prop} (e : Frm M H H') : ∀ {vs : List V} {xs : List α}, DvL K H vs xs → DvL K H' vs xs
  | [], [], _ => .nil
  | [], x :: xs, h => by have := h.length; cases this
  | v :: vs, [], h => by have := h.length; cases this
  | v :: vs, x :: xs, h => .cons (h.head.1.frm e) (DvL.frm e h.head.2)
theorem dvL_ints : ∀ ns : List Int, DvL K H (ns.map V.int) ns
  | [] => .nil
  | n :: ns => .cons (dv_int n) (dvL_ints ns)
theorem dvL_bls : ∀ ns : List Bool, DvL K H (ns.map V.bl) ns
  | [] => .nil
  | n :: ns => .cons (dv_bl n) (dvL_bls ns)
theorem dv_int_of {i : Int} (h : Dv K H v i) : v = .int i := by
  have h : Dp K H v (.int i) := h
  cases h; rfl
theorem dv_bl_of {i : Bool} (h : Dv K H v i) : v = .bl i := by
  have h : Dp K H v (.bool i) := h
  cases h; rfl
theorem dv_str_of {i : Str} (h : Dv K H v i) : v = .str i := by
  have h : Dp K H v (.str i) := h
  cases h; rfl
theorem dvL_ints_of : ∀ {vs : List V} {ns : List Int}, DvL K H vs ns → vs = ns.map V.int
  | [], [], _ => rfl
  | [], x :: xs, h => by have := h.length; cases this
  | v :: vs, [], h => by have := h.length; cases this
  | v :: vs, n :: ns, h => by
    rw [dv_int_of h.head.1, dvL_ints_of h.head.2]
    rfl
theorem dvL_bls_of : ∀ {vs : List V} {ns : List Bool}, DvL K H vs ns → vs = ns.map V.bl
  | [], [], _ => rfl
  | [], x :: xs, h => by have := h.length; cases this
  | v :: vs, [], h => by have := h.length; cases this
  | v :: vs, n :: ns, h => by
    rw [dv_bl_of h.head.1, dvL_bls_of h.head.2]
    rfl
theorem dv_lst_of (h : Dv K H v xs) : ∃ a vs, v = .ref a ∧ SqL K H a vs ∧ DvL K H vs xs := by
  have h : Dp K H v (.list (xs.map Datum.toD)) := h
  cases h with
  | lst a b => exact ⟨_, _, rfl, a, b⟩
theorem dv_pair_of {y : β} (h : Dv K H v (x, y)) : ∃ a v1 v2, v = .ref a ∧ SqT K H a [v1, v2] ∧ Dv K H v1 x ∧ Dv K H v2 y := by
  have h : Dp K H v (.tuple [Datum.toD x, Datum.toD y]) := h
  cases h with
  | tup a b =>
    cases b with
    | cons b1 b2 =>
      cases b2 with
      | cons b2 b3 =>
        cases b3
        exact ⟨_, _, _, rfl, a, b1, b2⟩
/-- a mark as it lies -/
theorem dv_mark_of {n h : Int} (q : Dv K H v (n, h)) : ∃ a, v = .ref a ∧ SqT K H a [.int n, .int h] := by
  obtain ⟨a, v1, v2, e, s, q1, q2⟩ := dv_pair_of q
  rw [dv_int_of q1, dv_int_of q2] at s
  exact ⟨a, e, s⟩
end
section
variable {X : Cx} {α : Type} [DecidableEq α] [PySem.W.Datum α]
open PySem.W (Datum Holds HoldAll DatumOrd)
theorem Dv.holds {pins : List (Addr × Obj)} {σ : L2.St} {H : Hp} {s : Shared} {v : V} {u : Value} {x : α} (h : Dv X.K H v x) (I : Inv X pins σ H s) (r : RelV v u) : Holds s.heap u x := Dp.reads I _ _ _ h r
theorem DvL.holds {pins : List (Addr × Obj)} {σ : L2.St} {H : Hp} {s : Shared} {vs : List V} {us : List Value} {xs : List α} (h : DvL X.K H vs xs) (I : Inv X pins σ H s) (r : Vals vs us) : HoldAll s.heap us xs := Dp.readsAll I _ _ _ h r
theorem dep_le {n : Nat} (h : X.A.units + 64 < cLine) (k : n ≤ 62) : X.A.units + n < cLine := by omega
def rEqA (α : Type) [DecidableEq α] [PySem.W.Datum α] (K : PySem.W.Frag) : R2 := fun x y H Q => ∃ a b : α, Dv K H x a ∧ Dv K H y b ∧ Q (.bl (decide (a = b))) H
def rNeA (α : Type) [DecidableEq α] [PySem.W.Datum α] (K : PySem.W.Frag) : R2 := fun x y H Q => ∃ a b : α, Dv K H x a ∧ Dv K H y b ∧ Q (.bl (!decide (a = b))) H
theorem op_eqA (hd : Datum.depth α ≤ 62) (hu : X.A.units + 64 < cLine) : OpR X (compareOp .Eq) (rEqA α X.K) := by
  intro pins s σ H x y v u Q I rx ry h
  obtain ⟨a, b, ha, hb, q⟩ := h
  exact PySem.W.eq_datum (ha.holds I rx) (hb.holds I ry) (dep_le hu hd) ⟨.bl _, H, I, rfl, q⟩
theorem op_neA (hd : Datum.depth α ≤ 62) (hu : X.A.units + 64 < cLine) : OpR X (compareOp .NotEq) (rNeA α X.K) := by
  intro pins s σ H x y v u Q I rx ry h
  obtain ⟨a, b, ha, hb, q⟩ := h
  refine PySem.W.ne_datum (ha.holds I rx) (hb.holds I ry) (dep_le hu hd) ⟨.bl (!decide (a = b)), H, I, ?_, q⟩
  show Value.bool (decide (a ≠ b)) = Value.bool (!decide (a = b))
  rw [decide_not]
end
section
variable {X : Cx} {α : Type} [DecidableEq α] [PySem.W.DatumOrd α]
open PySem.W (Datum Holds HoldAll DatumOrd)
def rLtA (α : Type) [DecidableEq α] [DatumOrd α] (K : PySem.W.Frag) : R2 := fun x y H Q => ∃ a b : α, Dv K H x a ∧ Dv K H y b ∧ Q (.bl (DatumOrd.lt a b)) H
theorem op_ltA (hd : Datum.depth α ≤ 62) (hu : X.A.units + 64 < cLine) : OpR X (compareOp .Lt) (rLtA α X.K) := by
  intro pins s σ H x y v u Q I rx ry h
  obtain ⟨a, b, ha, hb, q⟩ := h
  exact PySem.W.lt_datum (ha.holds I rx) (hb.holds I ry) (dep_le hu hd) ⟨.bl _, H, I, rfl, q⟩
def rMaxA (α : Type) [DecidableEq α] [DatumOrd α] (K : PySem.W.Frag) : List V → Hp → VK → Prop := fun vs H Q => ∃ (l : Addr) (ys : List V) (x : α) (xs : List α), vs = [.ref l] ∧ SqL K H l ys ∧ DvL K H ys (x :: xs) ∧ ∀ v, Dv K H v (PySem.W.maxOf x xs) → Q v H
theorem toD_inj {α : Type} [DecidableEq α] [Datum α] {x y : α} (h : Datum.toD x = Datum.toD y) : x = y := by
  have e := Datum.eqv x y
  rw [h, Datum.eqv y y, decide_eq_true rfl] at e
  exact of_decide_eq_true e.symm
theorem holds_inj {α : Type} [DecidableEq α] [Datum α] {h : Heap} {v : Value} {x y : α} (a : Holds h v x) (b : Holds h v y) : x = y := by
  obtain ⟨as, a⟩ := a
  obtain ⟨bs, b⟩ := b
  exact toD_inj (reads_det (fun _ _ e _ => e) a b).1.symm
theorem maxOf_mem (x : α) (xs : List α) : PySem.W.maxOf x xs ∈ x :: xs := by
  unfold PySem.W.maxOf
  induction xs generalizing x with
  | nil => exact List.mem_cons_self
  | cons y ys ih =>
    rw [List.foldl_cons]
    by_cases c : DatumOrd.lt x y = true
    · rw [if_pos c]
      exact List.mem_cons_of_mem _ (ih y)
    · rw [if_neg c]
      rcases List.mem_cons.mp (ih x) with e | m
      · rw [e]; exact List.mem_cons_self
      · exact List.mem_cons_of_mem _ (List.mem_cons_of_mem _ m)
theorem cr_maxA (hc : X.calm = true) (hd : Datum.depth α ≤ 60) (hu : X.A.units + 64 < cLine) : CallR X (.builtin "max") (rMaxA α X.K) := by
  intro pins s σ H vs us Q I r h
  obtain ⟨l, ys, x, xs, rfl, hs, hv, q⟩ := h
  obtain ⟨its, rv, hl, _⟩ := I.list hs
  rw [Vals.ref1 r]
  refine PySem.W.max_list_datum (I.ok.hd hc) hl.isList (hv.holds I rv) (by omega) fun i v h' tk hi hh hk => ?_
  have hi' : its[i]? = some v := by rw [← hi, List.getElem?_toArray]
  obtain ⟨y, hy, ry⟩ : ∃ y, ys[i]? = some y ∧ RelV y v := by
    cases e : ys[i]? with
    | none => rw [rv.none_of e] at hi'; cases hi'
    | some y =>
      obtain ⟨u, hu', ru⟩ := rv.get e
      rw [hu'] at hi'
      cases hi'
      exact ⟨y, rfl, ru⟩
  obtain ⟨z, hz, dz⟩ := hv.at hy
  have e := holds_inj ((dz.holds I ry).keeps hk) hh
  subst e
  exact ⟨y, H, I.kept hk, ry, q y dz⟩
end

/-! ### isinstance of a built-in type, by the value's kind -/
def isB (t n : String) : Bool := decide (t = n) || (decide (t = "bool") && decide (n = "int"))
theorem kitB_int : ∀ n ∈ ["int", "bool", "str", "tuple", "list"], kitB "int" n = some (isB "int" n) := by decide +kernel
theorem kitB_bool : ∀ n ∈ ["int", "bool", "str", "tuple", "list"], kitB "bool" n = some (isB "bool" n) := by decide +kernel
theorem kitB_str : ∀ n ∈ ["int", "bool", "str", "tuple", "list"], kitB "str" n = some (isB "str" n) := by decide +kernel
theorem kitB_non : ∀ n ∈ ["int", "bool", "str", "tuple", "list"], kitB "NoneType" n = some (isB "NoneType" n) := by decide +kernel
theorem kitB_tuple : ∀ n ∈ ["int", "bool", "str", "tuple", "list"], kitB "tuple" n = some (isB "tuple" n) := by decide +kernel
theorem kitB_list : ∀ n ∈ ["int", "bool", "str", "tuple", "list"], kitB "list" n = some (isB "list" n) := by decide +kernel
def rIs (n : String) (K : PySem.W.Frag) : List V → Hp → VK → Prop := fun xs H Q => ∃ x, xs = [x, .ty n] ∧
  match x with
  | .int _ => Q (.bl (isB "int" n)) H
  | .bl _ => Q (.bl (isB "bool" n)) H
  | .str _ => Q (.bl (isB "str" n)) H
  | .non => Q (.bl (isB "NoneType" n)) H
  | .ref a => (∃ xs, SqT K H a xs ∧ Q (.bl (isB "tuple" n)) H) ∨ (∃ xs, SqL K H a xs ∧ Q (.bl (isB "list" n)) H)
  | _ => False
theorem tyX_tup {K : PySem.W.Frag} {H : Hp} {a : Addr} {xs : List V} (h : SqT K H a xs) : TyX K H (.ref a) (.type "tuple") := by
  rcases h with (h | ⟨o, h⟩) | ⟨o, its, n, h1, h2, _⟩
  · exact .base (.tup h)
  · exact .fTuple h
  · exact .kTuple h1 h2
theorem tyX_lst {K : PySem.W.Frag} {H : Hp} {a : Addr} {xs : List V} (h : SqL K H a xs) : TyX K H (.ref a) (.type "list") := by
  rcases h with (h | ⟨o, h⟩) | ⟨o, its, n, h1, h2, _⟩
  · exact .base (.lst h)
  · exact .base (.frz h)
  · exact .kList h1 h2
theorem call_is {X : Cx} (n : String) (hn : n ∈ ["int", "bool", "str", "tuple", "list"] := by decide) : CallR X (.builtin "isinstance") (rIs n X.K) := by
  intro pins s σ H xs us Q I r h
  obtain ⟨x, rfl, h⟩ := h
  refine call_isi pins s σ H _ us Q I r ?_
  cases x with
  | int i => exact ⟨.int i, .ty n, _, _, _, rfl, .ty n, .base (.int i), kit_ty (kitB_int n hn), h⟩
  | bl i => exact ⟨.bl i, .ty n, _, _, _, rfl, .ty n, .base (.bl i), kit_ty (kitB_bool n hn), h⟩
  | str i => exact ⟨.str i, .ty n, _, _, _, rfl, .ty n, .base (.str i), kit_ty (kitB_str n hn), h⟩
  | non => exact ⟨.non, .ty n, _, _, _, rfl, .ty n, .base .non, kit_ty (kitB_non n hn), h⟩
  | ref a =>
    rcases h with ⟨ys, hs, h⟩ | ⟨ys, hs, h⟩
    · exact ⟨.ref a, .ty n, _, _, _, rfl, .ty n, tyX_tup hs, kit_ty (kitB_tuple n hn), h⟩
    · exact ⟨.ref a, .ty n, _, _, _, rfl, .ty n, tyX_lst hs, kit_ty (kitB_list n hn), h⟩
  | byt _ => exact h.elim
  | flt _ => exact h.elim
  | ty _ => exact h.elim
section
variable {H : Hp} {Q : VK} {n : String} {K : PySem.W.Frag}
theorem a_isInt {i : Int} : rIs n K [.int i, .ty n] H Q = Q (.bl (isB "int" n)) H := propext ⟨fun ⟨x, e, h⟩ => by cases e; exact h, fun h => ⟨_, rfl, h⟩⟩
theorem a_isBl {i : Bool} : rIs n K [.bl i, .ty n] H Q = Q (.bl (isB "bool" n)) H := propext ⟨fun ⟨x, e, h⟩ => by cases e; exact h, fun h => ⟨_, rfl, h⟩⟩
theorem a_isStr {i : Str} : rIs n K [.str i, .ty n] H Q = Q (.bl (isB "str" n)) H := propext ⟨fun ⟨x, e, h⟩ => by cases e; exact h, fun h => ⟨_, rfl, h⟩⟩
theorem a_isNon : rIs n K [.non, .ty n] H Q = Q (.bl (isB "NoneType" n)) H := propext ⟨fun ⟨x, e, h⟩ => by cases e; exact h, fun h => ⟨_, rfl, h⟩⟩
theorem a_isRef {a : Addr} : rIs n K [.ref a, .ty n] H Q = ((∃ xs, SqT K H a xs ∧ Q (.bl (isB "tuple" n)) H) ∨ (∃ xs, SqL K H a xs ∧ Q (.bl (isB "list" n)) H)) := propext ⟨fun ⟨x, e, h⟩ => by cases e; exact h, fun h => ⟨_, rfl, h⟩⟩
theorem isB_tt : isB "tuple" "tuple" = true := rfl
theorem isB_ii : isB "int" "int" = true := rfl
theorem isB_ib : isB "int" "bool" = false := rfl
theorem isB_bb : isB "bool" "bool" = true := rfl
theorem isB_bi : isB "bool" "int" = true := rfl
theorem isB_ll : isB "list" "list" = true := rfl
theorem isB_lt : isB "list" "tuple" = false := rfl
theorem isB_tl : isB "tuple" "list" = false := rfl
theorem isB_ss : isB "str" "str" = true := rfl
theorem isB_st : isB "str" "tuple" = false := rfl
theorem isB_sl : isB "str" "list" = false := rfl
theorem isB_nt : isB "NoneType" "tuple" = false := rfl
theorem isB_nl : isB "NoneType" "list" = false := rfl
end

/-! ### len, list(..) of lists and tuples, by either -/
def rLenQ (K : PySem.W.Frag) : List V → Hp → VK → Prop := fun xs H Q => ∃ p ys, xs = [.ref p] ∧ (SqL K H p ys ∨ SqT K H p ys) ∧ Q (.int ys.length) H
def rListQ (K : PySem.W.Frag) : List V → Hp → VK → Prop := fun xs H Q => ∃ p ys, xs = [.ref p] ∧ (SqL K H p ys ∨ SqT K H p ys) ∧ ∀ l, H l = none → Q (.ref l) (upd H l (.lst ys))
section
variable {X : Cx} {H : Hp} {Q : VK} {K : PySem.W.Frag} {p : Addr}
theorem call_lenQ : CallR X (.builtin "len") (rLenQ X.K) := call_len_seq
theorem call_listQ : CallR X (.type "list") (rListQ X.K) := call_list_of
theorem a_lenQ : rLenQ K [.ref p] H Q = ∃ ys, (SqL K H p ys ∨ SqT K H p ys) ∧ Q (.int ys.length) H := propext ⟨fun ⟨_, ys, e, h⟩ => by cases e; exact ⟨ys, h⟩, fun ⟨ys, h⟩ => ⟨p, ys, rfl, h⟩⟩
theorem a_listQ : rListQ K [.ref p] H Q = ∃ ys, (SqL K H p ys ∨ SqT K H p ys) ∧ NewO H (.lst ys) Q := propext ⟨fun ⟨_, ys, e, h⟩ => by cases e; exact ⟨ys, h⟩, fun ⟨ys, h⟩ => ⟨p, ys, rfl, h⟩⟩
theorem a_sl {r : V → Option Int → Option Int → Hp → VK → Prop} {te : TE} {tl th : TO} {σ : L2.St} : tSl r te tl th σ H Q = te σ H fun x H1 => tl σ H1 fun l H2 => th σ H2 fun u H3 => r x l u H3 Q := rfl
theorem a_noPart {σ : L2.St} {q : Option Int → Hp → Prop} : tNoPart σ H q = q none H := rfl
theorem a_part {σ : L2.St} {q : Option Int → Hp → Prop} {te : TE} : tPart te σ H q = te σ H fun x H1 => ∃ i, x = .int i ∧ q (some i) H1 := rfl
theorem a_slL {x : V} {lo hi : Option Int} : rSlL K x lo hi H Q = ∃ a xs, x = .ref a ∧ SqL K H a xs ∧ ∀ p, H p = none → Q (.ref p) (upd H p (.lst (cutV xs lo hi))) := rfl
theorem a_cat {x y : V} : rCat x y H Q = ∃ l b xs zs, x = .ref l ∧ y = .ref b ∧ H l = some (.lst xs) ∧ H b = some (.lst zs) ∧ xs.length + zs.length ≤ sizeLine ∧ ∀ p, H p = none → Q (.ref p) (upd H p (.lst (xs ++ zs))) := rfl
theorem a_bm {T : String} {r : V → List V → Hp → VK → Prop} {to : TE} {t : TA} {σ : L2.St} : tBM K T r to t σ H Q = to σ H fun x H1 => tyV K T x H1 ∧ t σ H1 fun xs H2 => r x xs H2 Q := rfl
theorem a_bm0 {T : String} {r : V → List V → Hp → VK → Prop} {to : TE} {σ : L2.St} : tBM0 K T r to σ H Q = to σ H fun x H1 => tyV K T x H1 ∧ r x [] H1 Q := rfl
theorem a_append {x : V} {vs : List V} : rAppend x vs H Q = ∃ l xs y, x = .ref l ∧ vs = [y] ∧ H l = some (.lst xs) ∧ xs.length < sizeLine ∧ Q .non (upd H l (.lst (xs ++ [y]))) := rfl
theorem tyV_lst {xs : List V} (h : SqL K H p xs) : tyV K "list" (.ref p) H := .inl ⟨rfl, _, h⟩
end

/-! ### a new object, a changed one: the heap behind it by what is known of it -/
theorem new_o {H : Hp} {o : HO} {Q : VK} (h : ∀ p H1, H p = none → Same H H1 → H1 p = some o → Q (.ref p) H1) : NewO H o Q := fun p hp => h p _ hp (Same.new hp) upd_same
theorem wr_o {H : Hp} {a : Addr} {o u : HO} {R : Hp → Prop} (ha : H a = some u) (ht : ¬ tupO u) (h : ∀ H1, Frm (fun b => b = a) H H1 → H1 a = some o → R H1) : WrO H a o R := h _ (Frm.upd ha ht) upd_same
theorem _root_.L2.Same.frm {M : Addr → Prop} {H0 H H1 : Hp} (e : Same H0 H) (f : Frm M H H1) (h : ∀ a, M a → H0 a = none) : Same H0 H1 := fun a o ha => f a o (e a o ha) fun m => by rw [h a m] at ha; cases ha
theorem _root_.L2.Same.frm1 {H0 H H1 : Hp} {p : Addr} (e : Same H0 H) (f : Frm (fun b => b = p) H H1) (h : H0 p = none) : Same H0 H1 := e.frm f fun a m => by rw [m]; exact h
theorem _root_.L2.Same.mut {H0 H : Hp} {p : Addr} {o : HO} (e : Same H0 H) (h : H0 p = none) : Same H0 (upd H p o) := fun a u ha => by
  rw [upd_ne (ne_of_none ha h)]
  exact e a u ha
theorem sz_of {n : Nat} (h : n ≤ 100000) : n ≤ sizeLine := Nat.le_trans h (by decide)
theorem sz_lt {n : Nat} (h : n < 100000) : n < sizeLine := Nat.lt_of_lt_of_le h (by decide)
theorem sz_small {n : Nat} (h : n ≤ 1000 := by decide) : n ≤ sizeLine := sz_of (Nat.le_trans h (by decide))
theorem get_map {α β : Type} {f : α → β} {l : List α} {i : Nat} {y : β} (h : (l.map f)[i]? = some y) : ∃ x, l[i]? = some x ∧ y = f x := by
  rw [List.getElem?_map] at h
  cases e : l[i]? with
  | none => rw [e] at h; cases h
  | some x => rw [e] at h; exact ⟨x, rfl, (Option.some.inj h).symm⟩
theorem get_lt {α : Type} {l : List α} {i : Nat} {x : α} (h : l[i]? = some x) : i < l.length := (List.getElem?_eq_some_iff.mp h).1
/-! ### the script's cells -/
def cellAt (ns : List Int) (k : Int) : Int := ns.getD k.toNat 0
theorem cell_at {ns : List Int} {k : Int} (h0 : 0 ≤ k) (h1 : k < ns.length) : atI (ns.map V.int) k = some (.int (cellAt ns k)) := by
  obtain ⟨j, rfl⟩ : ∃ j : Nat, k = (j : Int) := ⟨k.toNat, by omega⟩
  have hl : j < ns.length := by omega
  refine atI_nat ?_
  rw [List.getElem?_map, List.getElem?_eq_getElem hl]
  show some (V.int ns[j]) = some (V.int (cellAt ns j))
  unfold cellAt
  rw [List.getD_eq_getElem?_getD, Int.toNat_natCast, List.getElem?_eq_getElem hl]
  rfl
theorem cell_out {ns : List Int} {k : Int} (h0 : 0 ≤ k) (h1 : ¬ k < ns.length) : cellAt ns k = 0 := by
  have hl : ns.length ≤ k.toNat := by omega
  unfold cellAt
  rw [List.getD_eq_getElem?_getD, List.getElem?_eq_none hl]
  rfl

/-! ### operations at values of known kind -/
section
variable {H : Hp} {Q : VK} {K : PySem.W.Frag} {a b p : Addr} {i j k : Int} {x y v : V} {xs ys : List V} {s z : Str} {c d : Bool} {QT : Bool → Hp → Prop}
theorem b_I0 {f : Int → Int → V} : rI0 f (.int i) (.int j) H Q = Q (f i j) H := propext ⟨fun ⟨_, _, e1, e2, h⟩ => by cases e1; cases e2; exact h, fun h => ⟨_, _, rfl, rfl, h⟩⟩
theorem b_I {C : Int → Int → Prop} {f : Int → Int → V} : rI C f (.int i) (.int j) H Q = (C i j ∧ Q (f i j) H) := propext ⟨fun ⟨_, _, e1, e2, h⟩ => by cases e1; cases e2; exact h, fun h => ⟨_, _, rfl, rfl, h⟩⟩
theorem b_U {f : Int → V} : rU f (.int i) H Q = Q (f i) H := propext ⟨fun ⟨_, e1, h⟩ => by cases e1; exact h, fun h => ⟨_, rfl, h⟩⟩
theorem b_eqI : rEq (.int i) (.int j) H Q = Q (.bl (decide (i = j))) H := propext ⟨fun ⟨_, h⟩ => by rw [dec_int, Bool.beq_eq_decide_eq] at h; exact h, fun h => ⟨rfl, by rw [dec_int, Bool.beq_eq_decide_eq]; exact h⟩⟩
theorem b_neI : rNe (.int i) (.int j) H Q = Q (.bl (!decide (i = j))) H := propext ⟨fun ⟨_, h⟩ => by rw [dec_int, Bool.beq_eq_decide_eq] at h; exact h, fun h => ⟨rfl, by rw [dec_int, Bool.beq_eq_decide_eq]; exact h⟩⟩
theorem b_eqS : rEq (.str s) (.str z) H Q = Q (.bl (decide (s = z))) H := propext ⟨fun ⟨_, h⟩ => by rw [dec_str, Bool.beq_eq_decide_eq] at h; exact h, fun h => ⟨rfl, by rw [dec_str, Bool.beq_eq_decide_eq]; exact h⟩⟩
theorem b_neS : rNe (.str s) (.str z) H Q = Q (.bl (!decide (s = z))) H := propext ⟨fun ⟨_, h⟩ => by rw [dec_str, Bool.beq_eq_decide_eq] at h; exact h, fun h => ⟨rfl, by rw [dec_str, Bool.beq_eq_decide_eq]; exact h⟩⟩
theorem b_eqB : rEq (.bl c) (.bl d) H Q = Q (.bl (decide (c = d))) H := propext ⟨fun ⟨_, h⟩ => by rw [dec_bl, Bool.beq_eq_decide_eq] at h; exact h, fun h => ⟨rfl, by rw [dec_bl, Bool.beq_eq_decide_eq]; exact h⟩⟩
theorem b_neB : rNe (.bl c) (.bl d) H Q = Q (.bl (!decide (c = d))) H := propext ⟨fun ⟨_, h⟩ => by rw [dec_bl, Bool.beq_eq_decide_eq] at h; exact h, fun h => ⟨rfl, by rw [dec_bl, Bool.beq_eq_decide_eq]; exact h⟩⟩
theorem b_ixL : rIxL K (.ref a) (.int k) H Q = ∃ xs v, SqL K H a xs ∧ atI xs k = some v ∧ Q v H := propext ⟨fun ⟨_, xs, _, v, e1, e2, h⟩ => by cases e1; cases e2; exact ⟨xs, v, h⟩, fun ⟨xs, v, h⟩ => ⟨_, xs, _, v, rfl, rfl, h⟩⟩
theorem b_ixT : rIxT K (.ref a) (.int k) H Q = ∃ xs v, SqT K H a xs ∧ atI xs k = some v ∧ Q v H := propext ⟨fun ⟨_, xs, _, v, e1, e2, h⟩ => by cases e1; cases e2; exact ⟨xs, v, h⟩, fun ⟨xs, v, h⟩ => ⟨_, xs, _, v, rfl, rfl, h⟩⟩
theorem b_slL {lo hi : Option Int} : rSlL K (.ref a) lo hi H Q = ∃ xs, SqL K H a xs ∧ NewO H (.lst (cutV xs lo hi)) Q := propext ⟨fun ⟨_, xs, e1, h⟩ => by cases e1; exact ⟨xs, h⟩, fun ⟨xs, h⟩ => ⟨_, xs, rfl, h⟩⟩
theorem b_cat : rCat (.ref a) (.ref b) H Q = ∃ xs zs, H a = some (.lst xs) ∧ H b = some (.lst zs) ∧ xs.length + zs.length ≤ sizeLine ∧ NewO H (.lst (xs ++ zs)) Q :=
  propext ⟨fun ⟨_, _, xs, zs, e1, e2, h⟩ => by cases e1; cases e2; exact ⟨xs, zs, h⟩, fun ⟨xs, zs, h⟩ => ⟨_, _, xs, zs, rfl, rfl, h⟩⟩
theorem b_append : rAppend (.ref a) [v] H Q = ∃ xs, H a = some (.lst xs) ∧ xs.length < sizeLine ∧ WrO H a (.lst (xs ++ [v])) (Q .non) := propext ⟨fun ⟨_, xs, _, e1, e2, h⟩ => by cases e1; cases e2; exact ⟨xs, h⟩, fun ⟨xs, h⟩ => ⟨_, xs, _, rfl, rfl, h⟩⟩
theorem b_tyL : tyV K "list" (.ref p) H = ∃ xs, SqL K H p xs := propext ⟨fun h => by
  rcases h with ⟨_, h⟩ | ⟨e, _⟩ | ⟨e, _⟩ | ⟨e, _⟩
  · exact h
  · exact absurd e (by decide)
  · exact absurd e (by decide)
  · exact absurd e (by decide), fun h => .inl ⟨rfl, h⟩⟩
theorem b_bl {P : Bool → Prop} : (∃ e, V.bl c = V.bl e ∧ P e) = P c := propext ⟨fun ⟨_, e1, h⟩ => by cases e1; exact h, fun h => ⟨_, rfl, h⟩⟩
theorem b_int {P : Int → Prop} : (∃ e, V.int i = V.int e ∧ P e) = P i := propext ⟨fun ⟨_, e1, h⟩ => by cases e1; exact h, fun h => ⟨_, rfl, h⟩⟩
theorem b_some {α : Type} {x : α} {P : α → Prop} : (∃ e, some x = some e ∧ P e) = P x := propext ⟨fun ⟨_, e1, h⟩ => by cases e1; exact h, fun h => ⟨_, rfl, h⟩⟩
theorem b_some2 {α : Type} {x : α} {P : α → Prop} : (∃ e, some (some x) = some (some e) ∧ P e) = P x := propext ⟨fun ⟨_, e1, h⟩ => by cases e1; exact h, fun h => ⟨_, rfl, h⟩⟩
theorem b_at0 : atI (x :: xs) 0 = some x := atI_nat (j := 0) rfl
theorem b_at1 : atI (x :: y :: xs) 1 = some y := atI_nat (j := 1) rfl
theorem b_at2 {z : V} : atI (x :: y :: z :: xs) 2 = some z := atI_nat (j := 2) rfl
theorem b_at3 {z w : V} : atI (x :: y :: z :: w :: xs) 3 = some w := atI_nat (j := 3) rfl
theorem b_at4 {z w v : V} : atI (x :: y :: z :: w :: v :: xs) 4 = some v := atI_nat (j := 4) rfl
end

/-! ### loops -/
section
variable {σ : L2.St} {H : Hp} {Q : VK} {D : Ends} {K : PySem.W.Frag} {a b p : Addr} {i j k : Int} {x y v : V} {xs ys : List V} {g : TG} {tb : TS} {te : TE} {tt : TT} {ta : TA} {wi : TI} {J : It} {vs : List Nat} {R : It → Hp → Prop}
def Loop (J : It) (g : TG) (tb : TS) (D : Ends) (σ : L2.St) (H : Hp) : Prop := ∃ W : Nat → Nat → L2.St → Hp → Prop, (∃ m, W 0 m σ H) ∧ ∀ i m σ H, W i m σ H →
  (J.stop i H ∧ D.nx σ H) ∨ (J.go i H ∧ ∃ N : L2.St → Hp → Prop, (∀ σ' H', N σ' H' → ∃ m', m' < m ∧ W (i + 1) m' σ' H') ∧ ∀ x H', J.yld i H x H' → g x σ H' fun σ2 H2 => tb { D with nx := N, ct := N, bk := D.nx } σ2 H2)
theorem a_for : tFor wi g tb D σ H = wi σ H fun J H1 => Loop J g tb D σ H1 := rfl
def LoopC (J : It) (g : TG) (tt : TT) (te : TE) (vs : List Nat) (σ : L2.St) (Q : VK) (H1 : Hp) : Prop := ∀ D, H1 D = none → ∃ W : Nat → Nat → Hp → Prop, (∃ m, W 0 m (upd H1 D (.lst []))) ∧ ∀ i m H, W i m H →
  (J.stop i H ∧ Q (.ref D) H) ∨ (J.go i H ∧ ∃ Nx : Hp → Prop, (∀ H', Nx H' → ∃ m', m' < m ∧ W (i + 1) m' H') ∧ ∀ x H', J.yld i H x H' → g x (wipe σ vs) H' fun σ2 H2 => wipe σ2 vs = wipe σ vs ∧ tt σ2 H2 fun b H3 =>
    if b = true then te σ2 H3 fun y H4 => ∃ acc, H4 D = some (.lst acc) ∧ acc.length < sizeLine ∧ Nx (upd H4 D (.lst (acc ++ [y]))) else Nx H3)
theorem a_lc : tLc wi g tt te vs σ H Q = wi σ H fun J H1 => LoopC J g tt te vs σ Q H1 := rfl
theorem a_iList {tl : TE} : iList K tl σ H R = tl σ H fun x H1 => ∃ a, x = .ref a ∧ (∃ xs, SqL K H1 a xs) ∧ R (Itl K a) H1 := rfl
theorem a_iTup {tl : TE} : iTup K tl σ H R = tl σ H fun x H1 => ∃ a, x = .ref a ∧ (∃ xs, SqT K H1 a xs) ∧ R (Itt K a) H1 := rfl
theorem a_iRng1 : iRng1 ta σ H R = ta σ H fun vs H1 => ∃ j : Int, vs = [.int j] ∧ -(2 ^ 62) ≤ j ∧ j < 2 ^ 62 ∧ R (Itr 0 j.toNat) H1 := rfl
theorem a_iRng2 : iRng2 ta σ H R = ta σ H fun vs H1 => ∃ i j : Int, vs = [.int i, .int j] ∧ (-(2 ^ 62) ≤ i ∧ i < 2 ^ 62 ∧ -(2 ^ 62) ≤ j ∧ j < 2 ^ 62) ∧ R (Itr i (j - i).toNat) H1 := rfl
theorem a_iRng3 : iRng3 ta σ H R = ta σ H fun vs H1 => ∃ (i j c : Int) (n : Nat), vs = [.int i, .int j, .int c] ∧ RgC i j c n ∧ R (Itc i c n) H1 := rfl
theorem a_iZip : iZip K ta σ H R = ta σ H fun vs H1 => ∃ a b xs ys, vs = [.ref a, .ref b] ∧ SqL K H1 a xs ∧ SqL K H1 b ys ∧ R (Itz K a b) H1 := rfl
theorem a_iEnum : iEnum K ta σ H R = ta σ H fun vs H1 => ∃ a xs, vs = [.ref a] ∧ SqL K H1 a xs ∧ R (Ite K a) H1 := rfl
theorem a_iStr : iStr te σ H R = te σ H fun v H1 => ∃ x, v = .str x ∧ R (Its x) H1 := rfl
theorem b_rng1 {P : Int → Prop} : (∃ e : Int, [V.int i] = [V.int e] ∧ P e) = P i := propext ⟨fun ⟨_, e1, h⟩ => by cases e1; exact h, fun h => ⟨_, rfl, h⟩⟩
theorem b_rng2 {P : Int → Int → Prop} : (∃ e f : Int, [V.int i, V.int j] = [V.int e, V.int f] ∧ P e f) = P i j := propext ⟨fun ⟨_, _, e1, h⟩ => by cases e1; exact h, fun h => ⟨_, _, rfl, h⟩⟩
theorem b_rng3 {P : Int → Int → Int → Nat → Prop} : (∃ (e f c : Int) (n : Nat), [V.int i, V.int j, V.int k] = [V.int e, V.int f, V.int c] ∧ P e f c n) = ∃ n, P i j k n := propext ⟨fun ⟨_, _, _, n, e1, h⟩ => by cases e1; exact ⟨n, h⟩, fun ⟨n, h⟩ => ⟨_, _, _, n, rfl, h⟩⟩
theorem b_zip {P : Addr → Addr → List V → List V → Prop} : (∃ (e f : Addr) (xs ys : List V), [V.ref a, V.ref b] = [V.ref e, V.ref f] ∧ P e f xs ys) = ∃ xs ys, P a b xs ys := propext ⟨fun ⟨_, _, xs, ys, e1, h⟩ => by cases e1; exact ⟨xs, ys, h⟩, fun ⟨xs, ys, h⟩ => ⟨_, _, xs, ys, rfl, h⟩⟩
theorem b_enum {P : Addr → List V → Prop} : (∃ (e : Addr) (xs : List V), [V.ref a] = [V.ref e] ∧ P e xs) = ∃ xs, P a xs := propext ⟨fun ⟨_, xs, e1, h⟩ => by cases e1; exact ⟨xs, h⟩, fun ⟨xs, h⟩ => ⟨_, xs, rfl, h⟩⟩
theorem b_ref {P : Addr → Prop} : (∃ e : Addr, V.ref a = V.ref e ∧ P e) = P a := propext ⟨fun ⟨_, e1, h⟩ => by cases e1; exact h, fun h => ⟨_, rfl, h⟩⟩
theorem b_str {z : Str} {P : Str → Prop} : (∃ e : Str, V.str z = V.str e ∧ P e) = P z := propext ⟨fun ⟨_, e1, h⟩ => by cases e1; exact h, fun h => ⟨_, rfl, h⟩⟩
theorem b_gTup {n : Nat} {t : TGs} {q : L2.St → Hp → Prop} : gTup K n t (.ref a) σ H q = ∃ xs, SqT K H a xs ∧ xs.length = n ∧ t xs σ H q := propext ⟨fun ⟨_, xs, e1, h⟩ => by cases e1; exact ⟨xs, h⟩, fun ⟨xs, h⟩ => ⟨_, xs, rfl, h⟩⟩
theorem b_gCons {t : TG} {u : TGs} {q : L2.St → Hp → Prop} : gCons t u (x :: xs) σ H q = t x σ H fun σ' H' => u xs σ' H' q := propext ⟨fun ⟨_, _, e1, h⟩ => by cases e1; exact h, fun h => ⟨_, _, rfl, h⟩⟩
theorem b_gNil {q : L2.St → Hp → Prop} : gNil [] σ H q = q σ H := propext ⟨fun h => h.2, fun h => ⟨rfl, h⟩⟩
theorem a_yes {QT : Bool → Hp → Prop} : tYes σ H QT = QT true H := rfl
theorem a_wipe0 : wipe σ [] = σ := rfl
theorem a_wipe1 {n : Nat} {ns : List Nat} : wipe σ (n :: ns) = (wipe σ ns).set n none := rfl
theorem loop_list (Pv : Nat → L2.St → Hp → Prop) (h0 : Pv 0 σ H) (hl : ∀ i σ H, i ≤ xs.length → Pv i σ H → SqL K H a xs)
    (hs : ∀ i x σ H, xs[i]? = some x → Pv i σ H → g x σ H fun σ2 H2 => tb { D with nx := Pv (i + 1), ct := Pv (i + 1), bk := D.nx } σ2 H2) (hd : ∀ σ H, Pv xs.length σ H → D.nx σ H) : Loop (Itl K a) g tb D σ H := for_list Pv h0 hl hs hd
theorem loop_tup (Pv : Nat → L2.St → Hp → Prop) (h0 : Pv 0 σ H) (hl : ∀ i σ H, i ≤ xs.length → Pv i σ H → SqT K H a xs)
    (hs : ∀ i x σ H, xs[i]? = some x → Pv i σ H → g x σ H fun σ2 H2 => tb { D with nx := Pv (i + 1), ct := Pv (i + 1), bk := D.nx } σ2 H2) (hd : ∀ σ H, Pv xs.length σ H → D.nx σ H) : Loop (Itt K a) g tb D σ H := for_tup Pv h0 hl hs hd
theorem loop_range {lo : Int} {n : Nat} (Pv : Nat → L2.St → Hp → Prop) (h0 : Pv 0 σ H)
    (hs : ∀ i σ H, i < n → Pv i σ H → g (.int (lo + i)) σ H fun σ2 H2 => tb { D with nx := Pv (i + 1), ct := Pv (i + 1), bk := D.nx } σ2 H2) (hd : ∀ σ H, Pv n σ H → D.nx σ H) : Loop (Itr lo n) g tb D σ H := for_range Pv h0 hs hd
theorem loop_rangeC {lo c : Int} {n : Nat} (Pv : Nat → L2.St → Hp → Prop) (h0 : Pv 0 σ H)
    (hs : ∀ i σ H, i < n → Pv i σ H → g (.int (lo + (i : Nat) * c)) σ H fun σ2 H2 => tb { D with nx := Pv (i + 1), ct := Pv (i + 1), bk := D.nx } σ2 H2) (hd : ∀ σ H, Pv n σ H → D.nx σ H) : Loop (Itc lo c n) g tb D σ H := for_rangeC Pv h0 hs hd
theorem loop_zip (hl : xs.length = ys.length) (Pv : Nat → L2.St → Hp → Prop) (h0 : Pv 0 σ H) (hq : ∀ i σ H, Pv i σ H → SqL K H a xs ∧ SqL K H b ys)
    (hs : ∀ (i : Nat) (x y : V) (T : Addr) (σ : L2.St) (H H' : Hp), xs[i]? = some x → ys[i]? = some y → Pv i σ H → H T = none → Same H H' → H' T = some (.tup [x, y]) → g (.ref T) σ H' fun σ2 H2 => tb { D with nx := Pv (i + 1), ct := Pv (i + 1), bk := D.nx } σ2 H2) (hd : ∀ σ H, Pv xs.length σ H → D.nx σ H) :
    Loop (Itz K a b) g tb D σ H := RZ.for_zipL hl Pv h0 hq (fun i x y T σ H hx hy hp hT => hs i x y T σ H _ hx hy hp hT (Same.new hT) upd_same) hd
/-- a range's turns by a step of c -/
theorem rgc_of {i j c : Int} (hc : 0 < c) (hc2 : c < 1000) (hi : 0 ≤ i) (hi2 : i < 1000) (hj : -1000 < j) (hj2 : j < 1000) : ∃ n, RgC i j c n ∧ n ≤ 1000 ∧ ∀ m : Nat, m < n → i + m * c < j ∧ 0 ≤ (m : Int) * c := by
  have key : ∀ q : Int, 0 ≤ q → 0 ≤ q / c ∧ q / c * c ≤ q ∧ q / c ≤ q := fun q hq => by
    refine ⟨Int.ediv_nonneg hq (by omega), ?_, ?_⟩
    · exact Int.ediv_mul_le q (by omega)
    · exact Int.ediv_le_self c hq
  by_cases h : i < j
  · obtain ⟨k1, k2, k3⟩ := key (j - i - 1) (by omega)
    have e : Builtin.Range.rangeSize i j c = (j - i - 1) / c + 1 := by
      unfold Builtin.Range.rangeSize
      rw [if_pos (show c > 0 from hc), if_pos h]
    refine ⟨((j - i - 1) / c + 1).toNat, ⟨by omega, by omega, ?_, ?_⟩, by omega, fun m hm => ?_⟩
    · unfold Builtin.Range.small
      rw [e]
      simp only [Builtin.Range.rangeFitsLong, Bool.and_eq_true, Bool.or_eq_true, decide_eq_true_eq, beq_iff_eq, show c > 0 from hc, if_true]
      omega
    · rw [e]; omega
    · have h1 : (m : Int) ≤ (j - i - 1) / c := by omega
      have h2 : (m : Int) * c ≤ (j - i - 1) / c * c := Int.mul_le_mul_of_nonneg_right h1 (by omega)
      exact ⟨by omega, Int.mul_nonneg (by omega) (by omega)⟩
  · have e : Builtin.Range.rangeSize i j c = 0 := by
      unfold Builtin.Range.rangeSize
      rw [if_pos (show c > 0 from hc), if_neg h]
    refine ⟨0, ⟨by omega, by omega, ?_, ?_⟩, by omega, fun m hm => absurd hm (Nat.not_lt_zero m)⟩
    · unfold Builtin.Range.small
      rw [e]
      simp only [Builtin.Range.rangeFitsLong, Bool.and_eq_true, Bool.or_eq_true, decide_eq_true_eq, beq_iff_eq, show c > 0 from hc, if_true]
      omega
    · rw [e]; rfl
end
/-! ### comprehensions over data -/
section
variable {σ : L2.St} {H : Hp} {Q : VK} {K : PySem.W.Frag} {a : Addr} {xs : List V} {g : TG} {tt : TT} {te : TE} {vs : List Nat} {α β : Type} [DecidableEq α] [PySem.W.Datum α] [DecidableEq β] [PySem.W.Datum β] [Flat β]
open PySem.W (Datum)
/-- over a list of data: each kept element is F of the item -/
theorem comp_list (as : List α) (F : α → β) (keep : α → Bool) (hs : SqL K H a xs) (hv : DvL K H xs as) (hz : as.length ≤ 100000)
    (el : ∀ (v : V) (x : α) (H' : Hp), Same H H' → Dv K H' v x → x ∈ as → ∀ (R : Bool → VK) (R0 : Hp → Prop), (∀ y H'', keep x = true → Same H' H'' → Dv K H'' y (F x) → R true y H'') → (∀ H'', keep x = false → Same H' H'' → R0 H'') →
      g v (wipe σ vs) H' fun σ2 H2 => wipe σ2 vs = wipe σ vs ∧ tt σ2 H2 fun b H3 => if b = true then te σ2 H3 (R true) else R0 H3)
    (hd : ∀ D ys H', H D = none → Same H H' → H' D = some (.lst ys) → DvL K H' ys ((as.filter keep).map F) → Q (.ref D) H') : LoopC (Itl K a) g tt te vs σ Q H := by
  intro D hD
  refine lc_list (K := K) (a := a) (xs := xs) (fun i H' => Same H H' ∧ ∃ ys, H' D = some (.lst ys) ∧ DvL K H' ys (((as.take i).filter keep).map F)) ⟨Same.new hD, [], upd_same, ?_⟩ (fun i H' _ h => h.1.seq hs) ?_ ?_
  · rw [List.take_zero, List.filter_nil, List.map_nil]
    exact .nil
  · rintro i v H' hi ⟨s1, ys, h1, h2⟩
    obtain ⟨x, hx, dx⟩ := hv.at hi
    have hl := get_lt hx
    have et : as.take (i + 1) = as.take i ++ [x] := by rw [List.take_add_one, hx]; rfl
    refine el v x H' s1 (dx.same s1) (List.mem_of_getElem? hx) (fun b y H4 => ∃ acc, H4 D = some (.lst acc) ∧ acc.length < sizeLine ∧ (Same H (upd H4 D (.lst (acc ++ [y]))) ∧ ∃ ys, (upd H4 D (.lst (acc ++ [y]))) D = some (.lst ys) ∧ DvL K (upd H4 D (.lst (acc ++ [y]))) ys (((as.take (i + 1)).filter keep).map F)))
      (fun H4 => Same H H4 ∧ ∃ ys, H4 D = some (.lst ys) ∧ DvL K H4 ys (((as.take (i + 1)).filter keep).map F)) (fun y H4 hk s2 dy => ?_) (fun H4 hk s2 => ?_)
    · have hn := h2.length
      have hb : ys.length ≤ i := by
        rw [hn, List.length_map]
        exact Nat.le_trans (List.length_filter_le _ _) (by rw [List.length_take]; omega)
      refine ⟨ys, s2 _ _ h1, sz_lt (by omega), (s1.trans s2).mut hD, ys ++ [y], upd_same, ?_⟩
      rw [et, List.filter_append, List.map_append, List.filter_cons_of_pos hk]
      have s3 : Frm (fun b => b = D) H4 (upd H4 D (.lst (ys ++ [y]))) := Frm.upd (s2 _ _ h1) (fun z => z)
      exact ((h2.same s2).frm s3).snoc (dy.frm s3)
    · refine ⟨s1.trans s2, ys, s2 _ _ h1, ?_⟩
      rw [et, List.filter_append, List.filter_cons_of_neg (by rw [hk]; exact Bool.false_ne_true), List.filter_nil, List.append_nil]
      exact h2.same s2
  · rintro H' ⟨s1, ys, h1, h2⟩
    rw [List.take_of_length_le (by rw [hv.length]; exact Nat.le_refl _)] at h2
    exact hd D ys H' hD s1 h1 h2
/-- over a range: the i-th element is f i -/
theorem comp_range {lo : Int} {n : Nat} (f : Nat → β) (hz : n ≤ 100000)
    (el : ∀ (i : Nat) (H' : Hp), i < n → Same H H' → ∀ (R : VK), (∀ y H'', Same H' H'' → Dv K H'' y (f i) → R y H'') →
      g (.int (lo + i)) (wipe σ vs) H' fun σ2 H2 => wipe σ2 vs = wipe σ vs ∧ te σ2 H2 R)
    (hd : ∀ D ys H', H D = none → Same H H' → H' D = some (.lst ys) → DvL K H' ys ((List.range n).map f) → Q (.ref D) H') : LoopC (Itr lo n) g tYes te vs σ Q H := by
  intro D hD
  refine lc_range (lo := lo) (n := n) (fun i H' => Same H H' ∧ ∃ ys, H' D = some (.lst ys) ∧ DvL K H' ys ((List.range i).map f)) ⟨Same.new hD, [], upd_same, .nil⟩ ?_ ?_
  · rintro i H' hi ⟨s1, ys, h1, h2⟩
    refine el i H' hi s1 (fun y H4 => ∃ acc, H4 D = some (.lst acc) ∧ acc.length < sizeLine ∧ (Same H (upd H4 D (.lst (acc ++ [y]))) ∧ ∃ ys, (upd H4 D (.lst (acc ++ [y]))) D = some (.lst ys) ∧ DvL K (upd H4 D (.lst (acc ++ [y]))) ys ((List.range (i + 1)).map f))) fun y H4 s2 dy => ?_
    have hn := h2.length
    rw [List.length_map, List.length_range] at hn
    refine ⟨ys, s2 _ _ h1, sz_lt (by omega), (s1.trans s2).mut hD, ys ++ [y], upd_same, ?_⟩
    have s3 : Frm (fun b => b = D) H4 (upd H4 D (.lst (ys ++ [y]))) := Frm.upd (s2 _ _ h1) (fun z => z)
    rw [List.range_succ, List.map_append]
    exact ((h2.same s2).frm s3).snoc (dy.frm s3)
  · rintro H' ⟨s1, ys, h1, h2⟩
    exact hd D ys H' hD s1 h1 h2
end
theorem cx_K {CX : CXT} {P : Program} {w : World} {K : PySem.W.Frag} {mg : Str → Option Value} {base : Heap} {N : List Str} {qual : Str} {scope : Scope} {f : Addr} {cd : Value} {A : Around} {outer : List Env} {s : Shared} {H : Hp} {E : XK} :
    (cxOf CX P w K mg base N qual scope f cd A outer s H E).K = K := rfl
/-! ### odds -/
theorem cutV_drop {xs : List V} {k : Nat} : cutV xs (some (k : Int)) none = xs.drop k := by
  unfold cutV
  rw [HT.sIx_nat, HT.sIx_none, List.take_of_length_le (by rw [List.length_drop]; omega)]
  by_cases h : k ≤ xs.length
  · rw [Nat.min_eq_left h]
  · rw [Nat.min_eq_right (by omega), List.drop_eq_nil_of_le (Nat.le_refl _), List.drop_eq_nil_of_le (by omega)]
theorem cutV_take {xs : List V} {k : Nat} : cutV xs none (some (k : Int)) = xs.take k := by
  unfold cutV
  rw [HT.sIx_nat, HT.sIx_none, List.drop_zero, Nat.sub_zero]
  by_cases h : k ≤ xs.length
  · rw [Nat.min_eq_left h]
  · rw [Nat.min_eq_right (by omega), List.take_of_length_le (Nat.le_refl _), List.take_of_length_le (by omega)]
theorem pick2 (a b i : Int) : ∃ z, atI [V.int a, V.int b] (i % 2) = some (.int z) := by
  have h : i % 2 = 0 ∨ i % 2 = 1 := by omega
  rcases h with h | h <;> rw [h]
  · exact ⟨a, b_at0⟩
  · exact ⟨b, b_at1⟩
theorem pick3 (a b c i : Int) : ∃ z, atI [V.int a, V.int b, V.int c] (i % 3) = some (.int z) := by
  have h : i % 3 = 0 ∨ i % 3 = 1 ∨ i % 3 = 2 := by omega
  rcases h with h | h | h <;> rw [h]
  · exact ⟨a, b_at0⟩
  · exact ⟨b, b_at1⟩
  · exact ⟨c, b_at2⟩
end Y

set_option Elab.async false
set_option linter.all false
set_option maxRecDepth 100000
namespace K01
open PySem PySem.Spec PyProof.Rows L2 Y
local macro_rules | `(tactic| walk_at "wp") => `(tactic| (try simp only [cx_K, a_var, a_c, a_op, a_un, a_B, a_test, a_and, a_or, a_not, a_andV, a_orV, a_notV, a_isN, a_notN, a_if, a_next, a_seq, a_brk, a_cont, a_drop, a_ret, a_retN, a_ifS, a_asg, a_gName, a_nil, a_cons, a_tup, a_lst, a_cb, a_call, a_isInt, a_isBl, a_isStr, a_isNon, a_isRef, isB_tt, isB_ii, isB_ib, isB_bb, isB_bi, isB_ll, isB_lt, isB_tl, isB_ss, isB_st, isB_sl, isB_nt, isB_nl, a_lenQ, a_listQ, a_sl, a_noPart, a_part, a_bm, a_bm0, a_for, a_lc, a_iList, a_iTup, a_iRng1, a_iRng2, a_iRng3, a_iZip, a_iEnum, a_iStr, b_rng1, b_rng2, b_rng3, b_zip, b_enum, b_ref, b_str, b_gTup, b_gCons, b_gNil, a_yes, a_wipe0, a_wipe1,
  b_I0, b_I, b_U, b_eqI, b_neI, b_eqS, b_neS, b_eqB, b_neB, b_ixL, b_ixT, b_slL, b_cat, b_append, b_tyL, b_bl, b_int, b_some, b_some2, b_at0, b_at1, b_at2, b_at3, b_at4,
  List.length_cons, List.length_nil, List.set_cons_zero, List.set_cons_succ, List.getElem?_cons_zero, List.getElem?_cons_succ, List.append_nil, List.nil_append, List.cons_append, Bool.not_true, Bool.not_false, decide_true, decide_false, decide_eq_true_eq, Bool.false_eq_true, Bool.true_eq_false, ↓reduceIte, Nat.reduceAdd, true_and]))
local macro_rules | `(tactic| walk_at "wg") => `(tactic| (try simp only [b_gTup, b_gCons, b_gNil, a_gName, List.set_cons_zero, List.set_cons_succ]))

def top (i : Nat) : Stmt := PySem.Challenge.pw_onebell_k01_marks_in_order.main.body.getD i (.Pass ⟨0, 0, 0, 0⟩)
abbrev Mk := Int × Int
def spWhole : Sp := fun vs H Q _ => ∃ i : Int, vs = [.int i] ∧ Q (.bl true) H
def spCell (K : PySem.W.Frag) : Sp := fun vs H Q _ => ∃ (a : Addr) (ns : List Int) (k : Int), vs = [.ref a, .int k] ∧ SqL K H a (ns.map V.int) ∧ 0 ≤ k ∧ Q (.int (cellAt ns k)) H
def spMark (K : PySem.W.Frag) : Sp := fun vs H Q _ => ∃ (v : V) (m : Mk), vs = [v] ∧ Dv K H v m ∧ Q (.bl true) H
def spLess (K : PySem.W.Frag) : Sp := fun vs H Q _ => ∃ (v u : V) (m n : Mk), vs = [v, u] ∧ Dv K H v m ∧ Dv K H u n ∧ Q (.bl (PySem.W.DatumOrd.lt m n)) H
def spGreatest (K : PySem.W.Frag) : Sp := fun vs H Q _ => ∃ (l : Addr) (ys : List V) (x : Mk) (xs : List Mk), vs = [.ref l] ∧ SqL K H l ys ∧ DvL K H ys (x :: xs) ∧ ∀ v, Dv K H v (PySem.W.maxOf x xs) → Q v H
section
variable {P : Program} {w : World} {K : PySem.W.Frag} {mg : Str → Option Value} {base : Heap}
abbrev s_law_whole : Stmt := top 4
abbrev n_law_whole : List Str := ["_law_found"]
theorem sc_law_whole : FnScope n_law_whole ["_law_found"] (defScope s_law_whole) := ⟨rfl, rfl, rfl, by decide +kernel, rfl, by decide +kernel, by decide +kernel⟩
theorem ok_whole {f : Addr} {fd : FuncData} (F : Fun K "_law_whole" "_law_whole" s_law_whole f fd) (B : Bt mg)  : FnOk P w K mg base CX0 1 f fd ["_law_found"] (spWhole) := by
  refine F.ok sc_law_whole (fun vs H Q E h => by obtain ⟨_, rfl, _⟩ := h; rfl) (fun cdv A outer s H vs Q E hr h => ?_)
  obtain ⟨i, rfl, q⟩ := h
  refine ⟨_, (pss_one (ps_ret (pe_and (pe_callB (r := rIs "int" K) (call_is "int") (by rfl) B.isinstance (by decide +kernel) (pa_cons (pv 0) (pa_cons (pe_bltn (v := .ty "int") (by rfl) B.int (by decide +kernel) rfl) pa_nil))) (pe_one (pe_not (pe_callB (r := rIs "bool" K) (call_is "bool") (by rfl) B.isinstance (by decide +kernel) (pa_cons (pv 0) (pa_cons (pe_bltn (v := .ty "bool") (by rfl) B.bool (by decide +kernel) rfl) pa_nil)))))))), ?_⟩
  simp only [L2.start, n_law_whole, List.map_cons, List.map_nil, List.length_cons, List.length_nil, List.replicate_succ, List.replicate_zero, Nat.reduceAdd, Nat.reduceSub, Nat.sub_self, List.cons_append, List.nil_append]
  walk_at "wp"
  exact q
abbrev s_law_cell_at : Stmt := top 5
abbrev n_law_cell_at : List Str := ["_law_script", "_law_k"]
theorem sc_law_cell_at : FnScope n_law_cell_at ["_law_script", "_law_k"] (defScope s_law_cell_at) := ⟨rfl, rfl, rfl, by decide +kernel, rfl, by decide +kernel, by decide +kernel⟩
theorem ok_cell {f : Addr} {fd : FuncData} (F : Fun K "_law_cell_at" "_law_cell_at" s_law_cell_at f fd) (B : Bt mg)  : FnOk P w K mg base CX0 1 f fd ["_law_script", "_law_k"] (spCell K) := by
  refine F.ok sc_law_cell_at (fun vs H Q E h => by obtain ⟨_, _, _, rfl, _⟩ := h; rfl) (fun cdv A outer s H vs Q E hr h => ?_)
  obtain ⟨a, ns, k, rfl, hs, hk, q⟩ := h
  refine ⟨_, (pss_cons (ps_if (pt_cmpR op_lt (pv 1) (pe_callB (r := rLenQ K) call_lenQ (by rfl) B.len (by decide +kernel) (pa_cons (pv 0) pa_nil)) (nomark _))
  (pss_one (ps_ret (pe_ix (r := rIxL K) ix_list (pv 0) (pv 1) (fun _ _ => rfl))))
  pss_nil)
  (pss_one (ps_ret pe_int))), ?_⟩
  simp only [L2.start, n_law_cell_at, List.map_cons, List.map_nil, List.length_cons, List.length_nil, List.replicate_succ, List.replicate_zero, Nat.reduceAdd, Nat.reduceSub, Nat.sub_self, List.cons_append, List.nil_append]
  walk_at "wp"
  refine ⟨_, .inl hs, ite2 (fun c => ?_) (fun c => ?_)⟩
  · rw [List.length_map] at c
    exact ⟨_, _, hs, cell_at hk c, q⟩
  · rw [List.length_map] at c
    rw [← cell_out hk c]
    exact q
abbrev s_law_mark : Stmt := top 6
abbrev n_law_mark : List Str := ["_law_found"]
theorem sc_law_mark : FnScope n_law_mark ["_law_found"] (defScope s_law_mark) := ⟨rfl, rfl, rfl, by decide +kernel, rfl, by decide +kernel, by decide +kernel⟩
theorem ok_mark {f : Addr} {fd : FuncData} (F : Fun K "_law_mark" "_law_mark" s_law_mark f fd) (B : Bt mg) (c_law_whole : Cal P w K mg base CX0 1 "_law_whole" ["_law_found"] (spWhole)) : FnOk P w K mg base CX0 2 f fd ["_law_found"] (spMark K) := by
  refine F.ok sc_law_mark (fun vs H Q E h => by obtain ⟨_, _, rfl, _⟩ := h; rfl) (fun cdv A outer s H vs Q E hr h => ?_)
  obtain ⟨v, ⟨m, n⟩, rfl, hm, q⟩ := h
  obtain ⟨a, rfl, ht⟩ := dv_mark_of hm
  refine ⟨_, (pss_cons (ps_if (PW.pt (pw_or (pt_not (pt_val (pe_callB (r := rIs "tuple" K) (call_is "tuple") (by rfl) B.isinstance (by decide +kernel) (pa_cons (pv 0) (pa_cons (pe_bltn (v := .ty "tuple") (by rfl) B.tuple (by decide +kernel) rfl) pa_nil))))) (pw_or1 (pt_cmpR op_ne (pe_callB (r := rLenQ K) call_lenQ (by rfl) B.len (by decide +kernel) (pa_cons (pv 0) pa_nil)) pe_int (nomark _)))))
  (pss_one (ps_ret pe_bl))
  pss_nil)
  (pss_one (ps_ret (pe_and (pe_callC c_law_whole (hr.mono (by decide)) (pa_cons (pe_ix (r := rIxT K) ix_tup (pv 0) pe_int (fun _ _ => rfl)) pa_nil)) (pe_one (pe_callC c_law_whole (hr.mono (by decide)) (pa_cons (pe_ix (r := rIxT K) ix_tup (pv 0) pe_int (fun _ _ => rfl)) pa_nil))))))), ?_⟩
  simp only [L2.start, n_law_mark, List.map_cons, List.map_nil, List.length_cons, List.length_nil, List.replicate_succ, List.replicate_zero, Nat.reduceAdd, Nat.reduceSub, Nat.sub_self, List.cons_append, List.nil_append]
  walk_at "wp"
  refine .inl ⟨_, ht, ?_⟩
  refine ⟨_, .inr ht, ?_⟩
  walk_at "wp"
  refine iteF ⟨_, _, ht, rfl, m, rfl, ?_⟩
  walk_at "wp"
  exact ⟨_, _, ht, rfl, n, rfl, q⟩
abbrev s_less : Stmt := top 1
abbrev n_less : List Str := ["one", "other"]
theorem sc_less : FnScope n_less ["one", "other"] (defScope s_less) := ⟨rfl, rfl, rfl, by decide +kernel, rfl, by decide +kernel, by decide +kernel⟩
theorem ok_less {f : Addr} {fd : FuncData} (F : Fun K "less" "less" s_less f fd) (B : Bt mg)  : FnOk P w K mg base CX0 1 f fd ["one", "other"] (spLess K) := by
  refine F.ok sc_less (fun vs H Q E h => by obtain ⟨_, _, _, _, rfl, _⟩ := h; rfl) (fun cdv A outer s H vs Q E hr h => ?_)
  obtain ⟨v, u, m, n, rfl, hm, hn, q⟩ := h
  refine ⟨_, (pss_one (ps_ret (pe_cmpR (r := rLtA Mk K) (op_ltA (by decide) hr.units) (pv 0) (pv 1) (nomark _)))), ?_⟩
  simp only [L2.start, n_less, List.map_cons, List.map_nil, List.length_cons, List.length_nil, List.replicate_succ, List.replicate_zero, Nat.reduceAdd, Nat.reduceSub, Nat.sub_self, List.cons_append, List.nil_append]
  walk_at "wp"
  exact ⟨m, n, hm, hn, q⟩
abbrev s_greatest : Stmt := top 2
abbrev n_greatest : List Str := ["marks"]
theorem sc_greatest : FnScope n_greatest ["marks"] (defScope s_greatest) := ⟨rfl, rfl, rfl, by decide +kernel, rfl, by decide +kernel, by decide +kernel⟩
theorem ok_greatest {f : Addr} {fd : FuncData} (F : Fun K "greatest" "greatest" s_greatest f fd) (B : Bt mg)  : FnOk P w K mg base CX0 1 f fd ["marks"] (spGreatest K) := by
  refine F.ok sc_greatest (fun vs H Q E h => by obtain ⟨_, _, _, _, rfl, _⟩ := h; rfl) (fun cdv A outer s H vs Q E hr h => ?_)
  obtain ⟨l, ys, x, xs, rfl, hs, hv, q⟩ := h
  refine ⟨_, (pss_one (ps_ret (pe_callB (r := rMaxA Mk K) (cr_maxA rfl (by decide) hr.units) (by rfl) B.max (by decide +kernel) (pa_cons (pv 0) pa_nil)))), ?_⟩
  simp only [L2.start, n_greatest, List.map_cons, List.map_nil, List.length_cons, List.length_nil, List.replicate_succ, List.replicate_zero, Nat.reduceAdd, Nat.reduceSub, Nat.sub_self, List.cons_append, List.nil_append]
  walk_at "wp"
  exact ⟨l, ys, x, xs, rfl, hs, hv, q⟩

def spRows (K : PySem.W.Frag) : Sp := fun vs H Q _ => ∃ (a : Addr) (ns : List Int), vs = [.ref a] ∧ SqL K H a (ns.map V.int) ∧ ns.length ≤ 63 ∧
  ∀ l ys (rows : List Mk) H', Same H H' → H' l = some (.lst ys) → DvL K H' ys rows → rows.length ≤ 5000 → Q (.ref l) H'
abbrev s_law_rows : Stmt := top 7
abbrev n_law_rows : List Str := ["_law_script", "_law_rows_here", "_law_k", "_law_number"]
theorem sc_law_rows : FnScope n_law_rows ["_law_script"] (defScope s_law_rows) := ⟨rfl, rfl, rfl, by decide +kernel, rfl, by decide +kernel, by decide +kernel⟩
theorem ok_rows {f : Addr} {fd : FuncData} (F : Fun K "_law_rows" "_law_rows" s_law_rows f fd) (B : Bt mg) (c_law_cell_at : Cal P w K mg base CX0 1 "_law_cell_at" ["_law_script", "_law_k"] (spCell K)) : FnOk P w K mg base CX0 2 f fd ["_law_script"] (spRows K) := by
  refine F.ok sc_law_rows (fun vs H Q E h => by obtain ⟨_, _, rfl, _⟩ := h; rfl) (fun cdv A outer s H vs Q E hr h => ?_)
  obtain ⟨a, ns, rfl, hs, hlen, q⟩ := h
  refine ⟨_, (pss_cons (ps_set (i := 1) sc_law_rows.nd rfl (Or.inl rfl) (pe_lst pa_nil))
  (pss_cons (ps_for PassesOwn.never rfl (pi_range3 rfl B.range (pa_cons pe_int (pa_cons (pe_op op_sub (pe_callB (r := rLenQ K) call_lenQ (by rfl) B.len (by decide +kernel) (pa_cons (pv 0) pa_nil)) pe_int) (pa_cons pe_int pa_nil)))) (pg_name (i := 2) sc_law_rows.nd rfl (Or.inl rfl))
  (pss_cons (ps_set (i := 3) sc_law_rows.nd rfl (Or.inl rfl) (pe_op op_add pe_int (pe_ix (r := rIxL K) ix_list (pe_lst (pa_cons (pe_op op_mod (pe_op op_fdiv (pe_ix (r := rIxL K) ix_list (pv 0) (pv 2) (fun _ _ => rfl)) pe_int) pe_int) (pa_cons (pe_op op_mod (pe_op op_fdiv (pe_ix (r := rIxL K) ix_list (pv 0) (pv 2) (fun _ _ => rfl)) pe_int) (pe_op op_pow pe_int pe_int)) (pa_cons (pe_op op_mod (pe_op op_fdiv (pe_ix (r := rIxL K) ix_list (pv 0) (pv 2) (fun _ _ => rfl)) pe_int) pe_int) pa_nil)))) (pe_op op_mod (pe_ix (r := rIxL K) ix_list (pv 0) (pv 2) (fun _ _ => rfl)) pe_int) (fun _ _ => rfl))))
  (pss_one (ps_expr (pe_bm PySem.F.plainAttrs_list PySem.F.slot_list_append PySem.F.type_list_append mt_append (pv 1) (pa_cons (pe_tup (pa_cons (pv 3) (pa_cons (pe_ix (r := rIxL K) ix_list (pe_lst (pa_cons (pe_op op_mod (pe_op op_fdiv (pe_ix (r := rIxL K) ix_list (pv 0) (pe_op op_add (pv 2) pe_int) (fun _ _ => rfl)) pe_int) pe_int) (pa_cons (pe_op op_mod (pe_op op_fdiv (pe_ix (r := rIxL K) ix_list (pv 0) (pe_op op_add (pv 2) pe_int) (fun _ _ => rfl)) pe_int) pe_int) pa_nil))) (pe_op op_mod (pe_ix (r := rIxL K) ix_list (pv 0) (pe_op op_add (pv 2) pe_int) (fun _ _ => rfl)) pe_int) (fun _ _ => rfl)) pa_nil))) pa_nil))))))
  (pss_cons (ps_if (pt_cmpR op_eq (pe_op op_mod (pe_callC c_law_cell_at (hr.mono (by decide)) (pa_cons (pv 0) (pa_cons pe_int pa_nil))) pe_int) pe_int (nomark _))
  (pss_one (ps_set (i := 1) sc_law_rows.nd rfl (Or.inl rfl) (pe_op op_cat (pv 1) (pe_lc (own := [("_law_k", 2)]) (g := gName 2) (tt := tYes) rfl sc_law_rows.nd (pi_range1 rfl B.range (pa_cons pe_int pa_nil)) (blkOk_by (N := n_law_rows) (sc := defScope s_law_rows) (by decide +kernel)) (fun _ _ _ _ _ => pg_name (i := 2) sc_law_rows.nd rfl (Or.inl rfl)) (fun _ _ _ _ _ => pts_nil) (fun _ _ _ _ _ => (pe_tup (pa_cons (pe_op op_add pe_int (pe_op op_mod (pe_callC c_law_cell_at (hr.mono (by decide)) (pa_cons (pv 0) (pa_cons pe_int pa_nil))) pe_int)) (pa_cons (pv 2) pa_nil))))))))
  pss_nil)
  (pss_one (ps_ret (pv 1)))))), ?_⟩
  simp only [L2.start, n_law_rows, List.map_cons, List.map_nil, List.length_cons, List.length_nil, List.replicate_succ, List.replicate_zero, Nat.reduceAdd, Nat.reduceSub, Nat.sub_self, List.cons_append, List.nil_append]
  walk_at "wp"
  refine ⟨Nat.zero_le _, new_o fun l H1 hl s1 h1 => ?_⟩
  have hs1 := s1.seq hs
  refine ⟨_, .inl hs1, ?_⟩
  rw [List.length_map]
  obtain ⟨n, hrg, hn, hlt⟩ := rgc_of (i := 1) (j := (ns.length : Int) - 1) (c := 2) (by decide) (by decide) (by decide) (by decide) (by omega) (by omega)
  refine ⟨n, hrg, loop_rangeC (fun i σ H2 => Same H H2 ∧ ∃ (ys : List V) (rows : List Mk) (v2 v3 : Option V), σ = [some (.ref a), some (.ref l), v2, v3] ∧ H2 l = some (.lst ys) ∧ DvL K H2 ys rows ∧ rows.length = i) ⟨s1, [], [], _, _, rfl, h1, .nil, rfl⟩ ?_ ?_⟩
  · rintro i σ H2 hi ⟨s2, ys, rows, v2, v3, rfl, h2, hd, hrl⟩
    have hs2 := s2.seq hs
    obtain ⟨hk1, hk2⟩ := hlt i hi
    have c1 := cell_at (ns := ns) (k := 1 + (i : Int) * 2) (by omega) (by omega)
    have c2 := cell_at (ns := ns) (k := 1 + (i : Int) * 2 + 1) (by omega) (by omega)
    walk_at "wp"
    refine ⟨_, _, hs2, c1, ?_⟩
    walk_at "wp"
    refine ⟨⟨by decide, by decide⟩, by decide, _, _, hs2, c1, ?_⟩
    walk_at "wp"
    refine ⟨⟨by decide, by decide⟩, ⟨by decide, by decide, by decide⟩, by decide, _, _, hs2, c1, ?_⟩
    walk_at "wp"
    refine ⟨⟨by decide, by decide⟩, by decide, by decide, new_o fun t H3 ht s3 h3 => ?_⟩
    refine ⟨_, _, s3.seq hs2, c1, ?_⟩
    walk_at "wp"
    obtain ⟨z, hz⟩ := pick3 (cellAt ns (1 + (i : Int) * 2) / 3 % 6) (cellAt ns (1 + (i : Int) * 2) / 3 % 10 ^ Int.toNat 30) (cellAt ns (1 + (i : Int) * 2) / 3 % 90) (cellAt ns (1 + (i : Int) * 2))
    refine ⟨by decide, _, _, sqL h3, hz, ?_⟩
    walk_at "wp"
    have h3l := s3 _ _ h2
    refine ⟨⟨_, sqL h3l⟩, _, _, s3.seq hs2, c2, ?_⟩
    walk_at "wp"
    refine ⟨⟨by decide, by decide⟩, by decide, _, _, s3.seq hs2, c2, ?_⟩
    walk_at "wp"
    refine ⟨⟨by decide, by decide⟩, by decide, by decide, new_o fun t2 H4 ht2 s4 h4 => ?_⟩
    refine ⟨_, _, s4.seq (s3.seq hs2), c2, ?_⟩
    walk_at "wp"
    obtain ⟨z2, hz2⟩ := pick2 (cellAt ns (1 + (i : Int) * 2 + 1) / 2 % 5) (cellAt ns (1 + (i : Int) * 2 + 1) / 2 % 40) (cellAt ns (1 + (i : Int) * 2 + 1))
    refine ⟨by decide, _, _, sqL h4, hz2, ?_⟩
    walk_at "wp"
    refine ⟨by decide, new_o fun t3 H5 ht3 s5 h5 => ?_⟩
    have h5l := s5 _ _ (s4 _ _ h3l)
    have hyl := hd.length
    refine ⟨ys, h5l, sz_lt (by omega), wr_o h5l (fun z => z) fun H6 s6 h6 => ?_⟩
    refine ⟨(((s2.trans s3).trans s4).trans s5).frm1 s6 hl, ys ++ [.ref t3], rows ++ [(1 + z, z2)], _, _, rfl, h6, ?_, by rw [List.length_append, hrl]; rfl⟩
    exact ((((hd.same s3).same s4).same s5).frm s6).snoc (Dv.frm s6 (dv_pair (sqT h5) (dv_int _) (dv_int _)))
  · rintro σ H2 ⟨s2, ys, rows, v2, v3, rfl, h2, hd, hrl⟩
    walk_at "wp"
    refine ⟨a, ns, 0, rfl, s2.seq hs, by decide, ?_⟩
    walk_at "wp"
    refine ⟨by decide, ite2 (fun c => ?_) (fun c => ?_)⟩
    · refine ⟨by decide, by decide, comp_range (K := K) (fun i => ((1 + cellAt ns 1 % 90, (i : Int)) : Mk)) (by decide) ?_ ?_⟩
      · intro i H3 hi s3 R hR
        walk_at "wp"
        refine ⟨a, ns, 1, rfl, s3.seq (s2.seq hs), by decide, ?_⟩
        walk_at "wp"
        refine ⟨by decide, by decide, new_o fun p H4 hp s4 h4 => ?_⟩
        refine hR _ _ s4 (dv_pair (sqT h4) (dv_int _) ?_)
        rw [Int.zero_add]
        exact dv_int _
      · intro D zs H3 hD s3 h3 hz
        have hyl := hd.length
        have hzl := hz.length
        rw [List.length_map, List.length_range] at hzl
        walk_at "wp"
        refine ⟨ys, zs, s3 _ _ h2, h3, sz_of (by omega), new_o fun p H4 hp s4 h4 => ?_⟩
        exact q p _ _ H4 ((s2.trans s3).trans s4) h4 (((hd.same s3).append hz).same s4) (by rw [List.length_append, List.length_map, List.length_range]; omega)
    · exact q l _ _ H2 s2 h2 hd (by omega)

theorem mk_lt (a b : Mk) : PySem.W.DatumOrd.lt a b = true ↔ (a.1 < b.1 ∨ (a.1 = b.1 ∧ a.2 < b.2)) := by
  show (if a.1 = b.1 then decide (a.2 < b.2) else decide (a.1 < b.1)) = true ↔ _
  split <;> simp only [decide_eq_true_eq] <;> omega
theorem max_top : ∀ (xs : List Mk) (x y : Mk), y ∈ x :: xs → ¬ PySem.W.DatumOrd.lt (PySem.W.maxOf x xs) y = true
  | [], x, y, h => by
    rw [List.mem_singleton] at h
    subst h
    have e : PySem.W.maxOf y [] = y := rfl
    rw [mk_lt, e]
    omega
  | z :: zs, x, y, h => by
    have e : PySem.W.maxOf x (z :: zs) = PySem.W.maxOf (if PySem.W.DatumOrd.lt x z = true then z else x) zs := by
      unfold PySem.W.maxOf
      rw [List.foldl_cons]
    rw [e]
    by_cases c : PySem.W.DatumOrd.lt x z = true
    · rw [if_pos c]
      rcases List.mem_cons.mp h with rfl | h
      · have k := max_top zs z z List.mem_cons_self
        rw [mk_lt] at c k ⊢
        omega
      · exact max_top zs z y h
    · rw [if_neg c]
      rcases List.mem_cons.mp h with rfl | h
      · exact max_top zs y y List.mem_cons_self
      · rcases List.mem_cons.mp h with rfl | h
        · have k := max_top zs x x List.mem_cons_self
          rw [mk_lt] at c k ⊢
          omega
        · exact max_top zs x y (List.mem_cons_of_mem _ h)
theorem great_is {x : Mk} {xs : List Mk} {m h : Int} (h1 : m ∈ (x :: xs).map (·.1)) (h2 : ∀ y, y ∈ (x :: xs).map (·.1) → y ≤ m)
    (h3 : h ∈ ((x :: xs).filter fun p => decide (p.1 = m)).map (·.2)) (h4 : ∀ y, y ∈ ((x :: xs).filter fun p => decide (p.1 = m)).map (·.2) → y ≤ h) : (m, h) = PySem.W.maxOf x xs := by
  have k1 := maxOf_mem x xs
  obtain ⟨p, hp, e⟩ := List.mem_map.mp h3
  obtain ⟨hp, e2⟩ := List.mem_filter.mp hp
  have e2 := of_decide_eq_true e2
  have k2 := max_top xs x p hp
  rw [mk_lt] at k2
  have k3 := h2 _ (List.mem_map.mpr ⟨_, k1, rfl⟩)
  have k4 : (PySem.W.maxOf x xs).1 = m := by omega
  have k5 := h4 _ (List.mem_map.mpr ⟨_, List.mem_filter.mpr ⟨k1, decide_eq_true k4⟩, rfl⟩)
  exact Prod.ext k4.symm (by show h = (PySem.W.maxOf x xs).2; omega)
def spGreat (K : PySem.W.Frag) : Sp := fun vs H Q _ => ∃ (l : Addr) (ys : List V) (x : Mk) (xs : List Mk), vs = [.ref l] ∧ SqL K H l ys ∧ DvL K H ys (x :: xs) ∧ (x :: xs).length ≤ 5000 ∧ ∀ v H', Same H H' → Dv K H' v (PySem.W.maxOf x xs) → Q v H'
abbrev s_law_great : Stmt := top 8
abbrev n_law_great : List Str := ["_law_rows_here", "_law_number", "_law_mark_here"]
theorem sc_law_great : FnScope n_law_great ["_law_rows_here"] (defScope s_law_great) := ⟨rfl, rfl, rfl, by decide +kernel, rfl, by decide +kernel, by decide +kernel⟩
theorem ok_great {f : Addr} {fd : FuncData} (F : Fun K "_law_great" "_law_great" s_law_great f fd) (B : Bt mg)  : FnOk P w K mg base CX0 1 f fd ["_law_rows_here"] (spGreat K) := by
  refine F.ok sc_law_great (fun vs H Q E h => by obtain ⟨_, _, _, _, rfl, _⟩ := h; rfl) (fun cdv A outer s H vs Q E hr h => ?_)
  obtain ⟨l, ys, x, xs, rfl, hs, hv, hz, q⟩ := h
  refine ⟨_, (pss_cons (ps_set (i := 1) sc_law_great.nd rfl (Or.inr rfl) (pe_callB (r := rMax K) (cr_max rfl) (by rfl) B.max (by decide +kernel) (pa_cons (pe_lc (own := [("_law_mark_here", 2)]) (g := gName 2) (tt := tYes) rfl sc_law_great.nd (pi_list (pv 0)) (blkOk_by (N := n_law_great) (sc := defScope s_law_great) (by decide +kernel)) (fun _ _ _ _ _ => pg_name (i := 2) sc_law_great.nd rfl (Or.inl rfl)) (fun _ _ _ _ _ => pts_nil) (fun _ _ _ _ _ => (pe_ix (r := rIxT K) ix_tup (pv 2) pe_int (fun _ _ => rfl)))) pa_nil)))
  (pss_one (ps_ret (pe_tup (pa_cons (pv 1) (pa_cons (pe_callB (r := rMax K) (cr_max rfl) (by rfl) B.max (by decide +kernel) (pa_cons (pe_lc (own := [("_law_mark_here", 2)]) (g := gName 2) rfl sc_law_great.nd (pi_list (pv 0)) (blkOk_by (N := n_law_great) (sc := defScope s_law_great) (by decide +kernel)) (fun _ _ _ _ _ => pg_name (i := 2) sc_law_great.nd rfl (Or.inl rfl)) (fun _ _ _ _ _ => pts_one (pt_cmpR op_eq (pe_ix (r := rIxT K) ix_tup (pv 2) pe_int (fun _ _ => rfl)) (pv 1) (nomark _))) (fun _ _ _ _ _ => (pe_ix (r := rIxT K) ix_tup (pv 2) pe_int (fun _ _ => rfl)))) pa_nil)) pa_nil)))))), ?_⟩
  simp only [L2.start, n_law_great, List.map_cons, List.map_nil, List.length_cons, List.length_nil, List.replicate_succ, List.replicate_zero, Nat.reduceAdd, Nat.reduceSub, Nat.sub_self, List.cons_append, List.nil_append]
  walk_at "wp"
  refine ⟨⟨_, hs⟩, comp_list (x :: xs) (fun m : Mk => m.1) (fun _ => true) hs hv (by omega) ?_ ?_⟩
  · intro v m H' s1 dm hm R R0 hR _
    obtain ⟨a, rfl, ht⟩ := dv_mark_of dm
    walk_at "wp"
    exact ⟨_, _, ht, b_at0, hR _ _ rfl (Same.refl _) (dv_int _)⟩
  · intro D zs H1 hD s1 h1 hz1
    have e : (x :: xs).filter (fun _ => true) = x :: xs := List.filter_eq_self.mpr fun _ _ => rfl
    rw [e] at hz1
    have ez := dvL_ints_of hz1
    subst ez
    refine ⟨D, _, rfl, sqL h1, by simp, fun m hm1 hm2 => ?_⟩
    walk_at "wp"
    refine ⟨⟨_, s1.seq hs⟩, comp_list (x :: xs) (fun m : Mk => m.2) (fun p => decide (p.1 = m)) (s1.seq hs) (hv.same s1) (by omega) ?_ ?_⟩
    · intro v p H' s2 dp hp R R0 hR hR0
      obtain ⟨a, rfl, ht⟩ := dv_mark_of dp
      walk_at "wp"
      refine ⟨_, _, ht, b_at0, ?_⟩
      walk_at "wp"
      refine ite2 (fun c => ?_) (fun c => ?_)
      · exact ⟨_, _, ht, b_at1, hR _ _ (decide_eq_true c) (Same.refl _) (dv_int _)⟩
      · exact hR0 _ (decide_eq_false c) (Same.refl _)
    · intro D2 zs H2 hD2 s2 h2 hz2
      have ez := dvL_ints_of hz2
      subst ez
      have hne : ((x :: xs).filter fun p => decide (p.1 = m)).map (·.2) ≠ [] := by
        obtain ⟨p, hp, e⟩ := List.mem_map.mp hm1
        intro z
        have k : p.2 ∈ ((x :: xs).filter fun p => decide (p.1 = m)).map (·.2) := List.mem_map.mpr ⟨p, List.mem_filter.mpr ⟨hp, decide_eq_true e⟩, rfl⟩
        rw [z] at k
        cases k
      refine ⟨D2, _, rfl, sqL h2, List.length_pos_iff.mpr hne, fun h hh1 hh2 => ?_⟩
      walk_at "wp"
      refine ⟨by decide, new_o fun t H3 ht s3 h3 => ?_⟩
      refine q _ _ ((s1.trans s2).trans s3) ?_
      rw [← great_is hm1 hm2 hh1 hh2]
      exact dv_pair (sqT h3) (dv_int _) (dv_int _)
def spAsked (K : PySem.W.Frag) : Sp := fun vs H Q _ => ∃ (l : Addr) (ys : List V) (x : Mk) (xs : List Mk), vs = [.ref l] ∧ SqL K H l ys ∧ DvL K H ys (x :: xs) ∧ (x :: xs).length ≤ 5000 ∧ ∀ H', Same H H' → Q (.bl true) H'
abbrev s_law_asked : Stmt := top 9
abbrev n_law_asked : List Str := ["_law_rows_here", "_law_handed", "_law_found"]
theorem sc_law_asked : FnScope n_law_asked ["_law_rows_here"] (defScope s_law_asked) := ⟨rfl, rfl, rfl, by decide +kernel, rfl, by decide +kernel, by decide +kernel⟩
theorem ok_asked {f : Addr} {fd : FuncData} (F : Fun K "_law_asked" "_law_asked" s_law_asked f fd) (B : Bt mg) (c_greatest : Cal P w K mg base CX0 1 "greatest" ["marks"] (spGreatest K)) (c_law_mark : Cal P w K mg base CX0 2 "_law_mark" ["_law_found"] (spMark K)) (c_law_great : Cal P w K mg base CX0 1 "_law_great" ["_law_rows_here"] (spGreat K)) : FnOk P w K mg base CX0 3 f fd ["_law_rows_here"] (spAsked K) := by
  refine F.ok sc_law_asked (fun vs H Q E h => by obtain ⟨_, _, _, _, rfl, _⟩ := h; rfl) (fun cdv A outer s H vs Q E hr h => ?_)
  obtain ⟨l, ys, x, xs, rfl, hs, hv, hz, q⟩ := h
  refine ⟨_, (pss_cons (ps_set (i := 1) sc_law_asked.nd rfl (Or.inl rfl) (pe_callTy (r := rListQ K) call_listQ (by rfl) B.list (by decide +kernel) (pa_cons (pv 0) pa_nil)))
  (pss_cons (ps_set (i := 2) sc_law_asked.nd rfl (Or.inl rfl) (pe_callC c_greatest (hr.mono (by decide)) (pa_cons (pv 1) pa_nil)))
  (pss_one (ps_ret (pe_and (pe_callC c_law_mark (hr.mono (by decide)) (pa_cons (pv 2) pa_nil)) (pe_and (pe_cmpR (r := rEqA (Mk) K) (op_eqA (by decide) hr.units) (pv 2) (pe_callC c_law_great (hr.mono (by decide)) (pa_cons (pv 0) pa_nil)) (nomark _)) (pe_one (pe_cmpR (r := rEqA (List Mk) K) (op_eqA (by decide) hr.units) (pv 1) (pv 0) (nomark _))))))))), ?_⟩
  simp only [L2.start, n_law_asked, List.map_cons, List.map_nil, List.length_cons, List.length_nil, List.replicate_succ, List.replicate_zero, Nat.reduceAdd, Nat.reduceSub, Nat.sub_self, List.cons_append, List.nil_append]
  walk_at "wp"
  refine ⟨_, .inl hs, new_o fun k H1 hk s1 h1 => ?_⟩
  refine ⟨k, ys, x, xs, rfl, sqL h1, hv.same s1, fun v dv => ?_⟩
  walk_at "wp"
  refine ⟨v, _, rfl, dv, ?_⟩
  walk_at "wp"
  refine ⟨l, ys, x, xs, rfl, s1.seq hs, hv.same s1, hz, fun u H2 s2 du => ?_⟩
  refine ⟨_, _, dv.same s2, du, ?_⟩
  walk_at "wp"
  refine ⟨x :: xs, x :: xs, dv_lst (sqL (s2 _ _ h1)) ((hv.same s1).same s2), dv_lst (s2.seq (s1.seq hs)) ((hv.same s1).same s2), ?_⟩
  walk_at "wp"
  exact q _ (s1.trans s2)

def spLaw (K : PySem.W.Frag) : Sp := fun vs H Q _ => ∃ (a : Addr) (ns : List Int), vs = [.ref a] ∧ SqL K H a (ns.map V.int) ∧ ns.length ≤ 63 ∧ ∀ H', Q (.bl true) H'
theorem due_val {te : TE} {σ : L2.St} {H : Hp} {n1 h1 n2 h2 : Int} (h : ∀ Q : VK, te σ H Q = if n1 < n2 then Q (.bl true) H else if n1 = n2 then Q (.bl (decide (h1 < h2))) H else Q (.bl false) H) : Val te σ H (.bl (PySem.W.DatumOrd.lt ((n1, h1) : Mk) (n2, h2))) := by
  intro Q q
  rw [h]
  have e : PySem.W.DatumOrd.lt ((n1, h1) : Mk) (n2, h2) = if n1 = n2 then decide (h1 < h2) else decide (n1 < n2) := rfl
  rw [e] at q
  by_cases c : n1 < n2
  · rw [if_pos c]
    rw [if_neg (by omega), decide_eq_true c] at q
    exact q
  · rw [if_neg c]
    by_cases d : n1 = n2
    · rw [if_pos d]
      rw [if_pos d] at q
      exact q
    · rw [if_neg d]
      rw [if_neg d, decide_eq_false c] at q
      exact q
abbrev s_law : Stmt := top 10
abbrev n_law : List Str := ["_law_script", "_law_rows_here", "_law_one", "_law_other", "_law_due", "_law_back", "_law_told", "_law_found"]
theorem sc_law : FnScope n_law ["_law_script"] (defScope s_law) := ⟨rfl, rfl, rfl, by decide +kernel, rfl, by decide +kernel, by decide +kernel⟩
theorem ok_law {f : Addr} {fd : FuncData} (F : Fun K "law" "law" s_law f fd) (B : Bt mg) (c_law_rows : Cal P w K mg base CX0 2 "_law_rows" ["_law_script"] (spRows K)) (c_less : Cal P w K mg base CX0 1 "less" ["one", "other"] (spLess K)) (c_law_asked : Cal P w K mg base CX0 3 "_law_asked" ["_law_rows_here"] (spAsked K)) (c_law_cell_at : Cal P w K mg base CX0 1 "_law_cell_at" ["_law_script", "_law_k"] (spCell K)) : FnOk P w K mg base CX0 4 f fd ["_law_script"] (spLaw K) := by
  refine F.ok sc_law (fun vs H Q E h => by obtain ⟨_, _, rfl, _⟩ := h; rfl) (fun cdv A outer s H vs Q E hr h => ?_)
  obtain ⟨a, ns, rfl, hs, hlen, q⟩ := h
  refine ⟨_, (pss_cons (ps_set (i := 1) sc_law.nd rfl (Or.inl rfl) (pe_callC c_law_rows (hr.mono (by decide)) (pa_cons (pv 0) pa_nil)))
  (pss_cons (ps_for PassesOwn.never rfl (pi_zip (by rfl) B.zip (pa_cons (pv 1) (pa_cons (pe_op op_cat (pe_slice (r := rSlL K) sl_list (pv 1) (po_some pe_int) po_none) (pe_slice (r := rSlL K) sl_list (pv 1) po_none (po_some pe_int))) pa_nil))) (pg_tup rfl (pgs_cons (pg_name (i := 2) sc_law.nd rfl (Or.inl rfl)) (pgs_cons (pg_name (i := 3) sc_law.nd rfl (Or.inl rfl)) pgs_nil)))
  (pss_cons (ps_set (i := 4) sc_law.nd rfl (Or.inl rfl) (pe_or (pe_cmpR op_lt (pe_ix (r := rIxT K) ix_tup (pv 2) pe_int (fun _ _ => rfl)) (pe_ix (r := rIxT K) ix_tup (pv 3) pe_int (fun _ _ => rfl)) (nomark _)) (pe_one (pe_and (pe_cmpR op_eq (pe_ix (r := rIxT K) ix_tup (pv 2) pe_int (fun _ _ => rfl)) (pe_ix (r := rIxT K) ix_tup (pv 3) pe_int (fun _ _ => rfl)) (nomark _)) (pe_one (pe_cmpR op_lt (pe_ix (r := rIxT K) ix_tup (pv 2) pe_int (fun _ _ => rfl)) (pe_ix (r := rIxT K) ix_tup (pv 3) pe_int (fun _ _ => rfl)) (nomark _)))))))
  (pss_cons (ps_set (i := 5) sc_law.nd rfl (Or.inl rfl) (pe_or (pe_cmpR op_lt (pe_ix (r := rIxT K) ix_tup (pv 3) pe_int (fun _ _ => rfl)) (pe_ix (r := rIxT K) ix_tup (pv 2) pe_int (fun _ _ => rfl)) (nomark _)) (pe_one (pe_and (pe_cmpR op_eq (pe_ix (r := rIxT K) ix_tup (pv 2) pe_int (fun _ _ => rfl)) (pe_ix (r := rIxT K) ix_tup (pv 3) pe_int (fun _ _ => rfl)) (nomark _)) (pe_one (pe_cmpR op_lt (pe_ix (r := rIxT K) ix_tup (pv 3) pe_int (fun _ _ => rfl)) (pe_ix (r := rIxT K) ix_tup (pv 2) pe_int (fun _ _ => rfl)) (nomark _)))))))
  (pss_cons (ps_set (i := 6) sc_law.nd rfl (Or.inl rfl) (pe_lst (pa_cons (pe_callC c_less (hr.mono (by decide)) (pa_cons (pv 2) (pa_cons (pv 3) pa_nil))) (pa_cons (pe_callC c_less (hr.mono (by decide)) (pa_cons (pv 3) (pa_cons (pv 2) pa_nil))) (pa_cons (pe_callC c_less (hr.mono (by decide)) (pa_cons (pv 2) (pa_cons (pv 2) pa_nil))) pa_nil)))))
  (pss_one (ps_if (PW.pt (pw_or (pt_cmpR (r := rNeA (List Bool) K) (op_neA (by decide) hr.units) (pv 6) (pe_lst (pa_cons (pv 4) (pa_cons (pv 5) (pa_cons pe_bl pa_nil)))) (nomark _)) (pw_or1 (pt_not (pt_val (pe_callB (r := rAll K) (cr_all rfl) (by rfl) B.all (by decide +kernel) (pa_cons (pe_lc (own := [("_law_found", 7)]) (g := gName 7) (tt := tYes) rfl sc_law.nd (pi_list (pv 6)) (blkOk_by (N := n_law) (sc := defScope s_law) (by decide +kernel)) (fun _ _ _ _ _ => pg_name (i := 7) sc_law.nd rfl (Or.inl rfl)) (fun _ _ _ _ _ => pts_nil) (fun _ _ _ _ _ => (pe_callB (r := rIs "bool" K) (call_is "bool") (by rfl) B.isinstance (by decide +kernel) (pa_cons (pv 7) (pa_cons (pe_bltn (v := .ty "bool") (by rfl) B.bool (by decide +kernel) rfl) pa_nil))))) pa_nil)))))))
  (pss_one (ps_ret pe_bl))
  pss_nil))))))
  (pss_cons (ps_if (pt_cmpR (r := rEqA (List Mk) K) (op_eqA (by decide) hr.units) (pv 1) (pe_lst pa_nil) (nomark _))
  (pss_one (ps_ret pe_bl))
  pss_nil)
  (pss_one (ps_ret (pe_and (pe_callC c_law_asked (hr.mono (by decide)) (pa_cons (pv 1) pa_nil)) (pe_one (pe_callC c_law_asked (hr.mono (by decide)) (pa_cons (pe_slice (r := rSlL K) sl_list (pv 1) po_none (po_some (pe_op op_add pe_int (pe_op op_mod (pe_op op_fdiv (pe_callC c_law_cell_at (hr.mono (by decide)) (pa_cons (pv 0) (pa_cons pe_int pa_nil))) pe_int) (pe_callB (r := rLenQ K) call_lenQ (by rfl) B.len (by decide +kernel) (pa_cons (pv 1) pa_nil)))))) pa_nil))))))))), ?_⟩
  simp only [L2.start, n_law, List.map_cons, List.map_nil, List.length_cons, List.length_nil, List.replicate_succ, List.replicate_zero, Nat.reduceAdd, Nat.reduceSub, Nat.sub_self, List.cons_append, List.nil_append]
  walk_at "wp"
  refine ⟨a, ns, rfl, hs, hlen, fun l ys rows H1 s1 h1 hv hz => ?_⟩
  have hyl := hv.length
  walk_at "wp"
  refine ⟨ys, sqL h1, new_o fun p1 H2 hp1 s2 h2 => ⟨ys, sqL (s2 _ _ h1), new_o fun p2 H3 hp2 s3 h3 => ?_⟩⟩
  walk_at "wp"
  rw [show (1 : Int) = ((1 : Nat) : Int) from rfl, cutV_drop] at h2
  rw [show (1 : Int) = ((1 : Nat) : Int) from rfl, cutV_take] at h3
  have el : (ys.drop 1 ++ ys.take 1).length = ys.length := by rw [List.length_append, List.length_drop, List.length_take]; omega
  refine ⟨_, _, s3 _ _ h2, h3, (by rw [← List.length_append, el]; exact sz_of (by omega)), new_o fun p H4 hp s4 h4 => ?_⟩
  walk_at "wp"
  have s14 : Same H1 H4 := (s2.trans s3).trans s4
  have h4l := s14 _ _ h1
  have v4 := hv.same s14
  have w4 : DvL K H4 (ys.drop 1 ++ ys.take 1) (rows.drop 1 ++ rows.take 1) := (v4.drop 1).append (v4.take 1)
  have s04 := s1.trans s14
  refine ⟨_, _, sqL h4l, sqL h4, loop_zip el.symm (fun i σ H5 => Same H4 H5 ∧ ∃ (v2 v3 v4 v5 v6 v7 : Option V), σ = [some (.ref a), some (.ref l), v2, v3, v4, v5, v6, v7]) ⟨Same.refl _, _, _, _, _, _, _, rfl⟩ (fun i σ H5 h => ⟨sqL (h.1 _ _ h4l), sqL (h.1 _ _ h4)⟩) ?_ ?_⟩
  · rintro i x y T σ H5 H6 hx hy ⟨s5, v2, v3, v4', v5, v6, v7, rfl⟩ hT s6 h6
    obtain ⟨⟨n1, k1⟩, _, dx⟩ := v4.at hx
    obtain ⟨⟨n2, k2⟩, _, dy⟩ := w4.at hy
    have dx := (dx.same s5).same s6
    have dy := (dy.same s5).same s6
    obtain ⟨a1, rfl, t1⟩ := dv_mark_of dx
    obtain ⟨a2, rfl, t2⟩ := dv_mark_of dy
    walk_at "wg"
    refine ⟨_, sqT h6, rfl, ?_⟩
    walk_at "wg"
    have u1 : ∀ i xs, atI [V.int n1, V.int k1] i = some xs → True := fun _ _ _ => trivial
    refine st_set (v := .bl (PySem.W.DatumOrd.lt ((n1, k1) : Mk) (n2, k2))) ?_ ?_
    · have e : PySem.W.DatumOrd.lt ((n1, k1) : Mk) (n2, k2) = if n1 = n2 then decide (k1 < k2) else decide (n1 < n2) := rfl
      rw [e]
      intro Q q
      walk_at "wp"
      refine ⟨_, _, t1, b_at0, _, _, t2, b_at0, ?_⟩
      walk_at "wp"
      refine ite2 (fun c => ?_) (fun c => ?_)
      · rw [if_neg (by omega), decide_eq_true c] at q
        exact q
      · refine ⟨_, _, t1, b_at0, _, _, t2, b_at0, ?_⟩
        walk_at "wp"
        refine ite2 (fun d => ?_) (fun d => ?_)
        · refine ⟨_, _, t1, b_at1, _, _, t2, b_at1, ?_⟩
          walk_at "wp"
          rw [if_pos d] at q
          exact q
        · rw [if_neg d, decide_eq_false c] at q
          exact q
    walk_at "wg"
    refine st_set (v := .bl (PySem.W.DatumOrd.lt ((n2, k2) : Mk) (n1, k1))) ?_ ?_
    · have e : PySem.W.DatumOrd.lt ((n2, k2) : Mk) (n1, k1) = if n2 = n1 then decide (k2 < k1) else decide (n2 < n1) := rfl
      rw [e]
      intro Q q
      walk_at "wp"
      refine ⟨_, _, t2, b_at0, _, _, t1, b_at0, ?_⟩
      walk_at "wp"
      refine ite2 (fun c => ?_) (fun c => ?_)
      · rw [if_neg (by omega), decide_eq_true c] at q
        exact q
      · refine ⟨_, _, t1, b_at0, _, _, t2, b_at0, ?_⟩
        walk_at "wp"
        refine ite2 (fun d => ?_) (fun d => ?_)
        · refine ⟨_, _, t2, b_at1, _, _, t1, b_at1, ?_⟩
          walk_at "wp"
          rw [if_pos d.symm] at q
          exact q
        · rw [if_neg (fun z => d z.symm), decide_eq_false c] at q
          exact q
    walk_at "wp"
    refine ⟨_, _, _, _, rfl, dx, dy, _, _, _, _, rfl, dy, dx, _, _, _, _, rfl, dx, dx, ?_⟩
    have e0 : PySem.W.DatumOrd.lt ((n1, k1) : Mk) (n1, k1) = false := by
      cases e : PySem.W.DatumOrd.lt ((n1, k1) : Mk) (n1, k1) with
      | false => rfl
      | true =>
        rw [mk_lt] at e
        exact absurd e (by omega)
    rw [e0]
    refine ⟨by decide, new_o fun l1 H7 hl1 s7 h7 => ?_⟩
    walk_at "wp"
    refine ⟨by decide, new_o fun l2 H8 hl2 s8 h8 => ?_⟩
    walk_at "wp"
    have h7 := s8 _ _ h7
    refine ⟨[PySem.W.DatumOrd.lt ((n1, k1) : Mk) (n2, k2), PySem.W.DatumOrd.lt ((n2, k2) : Mk) (n1, k1), false], _, dv_lst (sqL h7) (dvL_bls [_, _, _]), dv_lst (sqL h8) (dvL_bls [_, _, _]), ?_⟩
    walk_at "wp"
    refine ⟨⟨_, sqL h7⟩, comp_list [PySem.W.DatumOrd.lt ((n1, k1) : Mk) (n2, k2), PySem.W.DatumOrd.lt ((n2, k2) : Mk) (n1, k1), false] (fun _ => true) (fun _ => true) (sqL h7) (dvL_bls [_, _, _]) (by show 3 ≤ 100000; decide) ?_ ?_⟩
    · intro v b H9 s9 db hb R R0 hR _
      rw [dv_bl_of db]
      walk_at "wp"
      exact hR _ _ rfl (Same.refl _) (dv_bl _)
    · intro D zs H9 hD s9 h9 hz
      have e9 : zs = [true, true, true].map V.bl := dvL_bls_of hz
      subst e9
      refine ⟨D, [true, true, true], rfl, sqL h9, ?_⟩
      walk_at "wp"
      exact ⟨((((s5.trans s6).trans s7).trans s8).trans s9), _, _, _, _, _, _, rfl⟩
  · rintro σ H5 ⟨s5, v2, v3, v4', v5, v6, v7, rfl⟩
    have v5 := v4.same s5
    have h5l := s5 _ _ h4l
    walk_at "wp"
    refine ⟨by decide, new_o fun l1 H6 hl1 s6 h6 => ?_⟩
    refine ⟨rows, [], dv_lst (sqL (s6 _ _ h5l)) (v5.same s6), dv_lst (sqL h6) .nil, ?_⟩
    walk_at "wp"
    refine ite2 (fun _ => q _) (fun c => ?_)
    obtain ⟨x, xs, rfl⟩ : ∃ x xs, rows = x :: xs := by
      cases rows with
      | nil => exact absurd rfl c
      | cons x xs => exact ⟨x, xs, rfl⟩
    have v6 := v5.same s6
    have h6l := s6 _ _ h5l
    refine ⟨l, ys, x, xs, rfl, sqL h6l, v6, hz, fun H7 s7 => ?_⟩
    walk_at "wp"
    refine ⟨a, ns, 0, rfl, s7.seq (s6.seq (s5.seq (s04.seq hs))), by decide, ?_⟩
    walk_at "wp"
    have hn0 : (0 : Int) < (ys.length : Int) := by rw [hyl, List.length_cons]; omega
    refine ⟨⟨by decide, by decide⟩, ys, .inl (sqL (s7 _ _ h6l)), hn0, ys, sqL (s7 _ _ h6l), ?_⟩
    have b1 := Int.emod_nonneg (cellAt ns 0 / 4) (show (ys.length : Int) ≠ 0 by omega)
    have b2 := Int.emod_lt_of_pos (cellAt ns 0 / 4) hn0
    obtain ⟨k, ek⟩ : ∃ k : Nat, 1 + cellAt ns 0 / 4 % (ys.length : Int) = ((k + 1 : Nat) : Int) := ⟨(cellAt ns 0 / 4 % (ys.length : Int)).toNat, by omega⟩
    rw [ek, cutV_take]
    refine new_o fun p3 H8 hp3 s8 h8 => ?_
    walk_at "wp"
    have v8 := ((v6.same s7).same s8).take (k + 1)
    rw [List.take_succ_cons] at v8
    refine ⟨p3, ys.take (k + 1), x, xs.take k, rfl, sqL h8, v8, ?_, fun H9 s9 => q _⟩
    rw [List.length_cons, List.length_take]
    rw [List.length_cons] at hz
    omega
end
theorem all_mk {l : PySem.W.OpenLaw} {w : World} {K : PySem.W.Frag} {h : Heap} {mg : Str → Option Value} {fa f1 f2 f3 f4 f5 f6 f7 f8 f9 : Addr} (X : K.In h) (G : h.Ns mainGlobals mg) (hfa : mg "law" = some (.ref fa))
    {od1 an1 : Option Addr} {sl1 : Array (Option Value)} {oc1 kV1 dc1 pm1 cd1 ct1 : Value}
    {od2 an2 : Option Addr} {sl2 : Array (Option Value)} {oc2 kV2 dc2 pm2 cd2 ct2 : Value}
    {od3 an3 : Option Addr} {sl3 : Array (Option Value)} {oc3 kV3 dc3 pm3 cd3 ct3 : Value}
    {od4 an4 : Option Addr} {sl4 : Array (Option Value)} {oc4 kV4 dc4 pm4 cd4 ct4 : Value}
    {od5 an5 : Option Addr} {sl5 : Array (Option Value)} {oc5 kV5 dc5 pm5 cd5 ct5 : Value}
    {od6 an6 : Option Addr} {sl6 : Array (Option Value)} {oc6 kV6 dc6 pm6 cd6 ct6 : Value}
    {od7 an7 : Option Addr} {sl7 : Array (Option Value)} {oc7 kV7 dc7 pm7 cd7 ct7 : Value}
    {od8 an8 : Option Addr} {sl8 : Array (Option Value)} {oc8 kV8 dc8 pm8 cd8 ct8 : Value}
    {od9 an9 : Option Addr} {sl9 : Array (Option Value)} {oc9 kV9 dc9 pm9 cd9 ct9 : Value}
    (a1 : PySem.W.nsIn K mainGlobals "less" = some (some (.ref f1)))
    (l1 : K.lookup f1 = some ⟨oc1, od1, .func (PySem.W.fnOf "less" "less" (defArgs s_less) (defBody s_less) (defScope s_less) .none kV1 dc1 pm1 an1 cd1 ct1), sl1⟩)
    (c1 : PySem.W.codeIn K cd1 "less" = true) (k1 : PySem.W.keepIn K (.ref f1) = true)
    (a2 : PySem.W.nsIn K mainGlobals "greatest" = some (some (.ref f2)))
    (l2 : K.lookup f2 = some ⟨oc2, od2, .func (PySem.W.fnOf "greatest" "greatest" (defArgs s_greatest) (defBody s_greatest) (defScope s_greatest) .none kV2 dc2 pm2 an2 cd2 ct2), sl2⟩)
    (c2 : PySem.W.codeIn K cd2 "greatest" = true) (k2 : PySem.W.keepIn K (.ref f2) = true)
    (a3 : PySem.W.nsIn K mainGlobals "_law_whole" = some (some (.ref f3)))
    (l3 : K.lookup f3 = some ⟨oc3, od3, .func (PySem.W.fnOf "_law_whole" "_law_whole" (defArgs s_law_whole) (defBody s_law_whole) (defScope s_law_whole) .none kV3 dc3 pm3 an3 cd3 ct3), sl3⟩)
    (c3 : PySem.W.codeIn K cd3 "_law_whole" = true) (k3 : PySem.W.keepIn K (.ref f3) = true)
    (a4 : PySem.W.nsIn K mainGlobals "_law_cell_at" = some (some (.ref f4)))
    (l4 : K.lookup f4 = some ⟨oc4, od4, .func (PySem.W.fnOf "_law_cell_at" "_law_cell_at" (defArgs s_law_cell_at) (defBody s_law_cell_at) (defScope s_law_cell_at) .none kV4 dc4 pm4 an4 cd4 ct4), sl4⟩)
    (c4 : PySem.W.codeIn K cd4 "_law_cell_at" = true) (k4 : PySem.W.keepIn K (.ref f4) = true)
    (a5 : PySem.W.nsIn K mainGlobals "_law_mark" = some (some (.ref f5)))
    (l5 : K.lookup f5 = some ⟨oc5, od5, .func (PySem.W.fnOf "_law_mark" "_law_mark" (defArgs s_law_mark) (defBody s_law_mark) (defScope s_law_mark) .none kV5 dc5 pm5 an5 cd5 ct5), sl5⟩)
    (c5 : PySem.W.codeIn K cd5 "_law_mark" = true) (k5 : PySem.W.keepIn K (.ref f5) = true)
    (a6 : PySem.W.nsIn K mainGlobals "_law_rows" = some (some (.ref f6)))
    (l6 : K.lookup f6 = some ⟨oc6, od6, .func (PySem.W.fnOf "_law_rows" "_law_rows" (defArgs s_law_rows) (defBody s_law_rows) (defScope s_law_rows) .none kV6 dc6 pm6 an6 cd6 ct6), sl6⟩)
    (c6 : PySem.W.codeIn K cd6 "_law_rows" = true) (k6 : PySem.W.keepIn K (.ref f6) = true)
    (a7 : PySem.W.nsIn K mainGlobals "_law_great" = some (some (.ref f7)))
    (l7 : K.lookup f7 = some ⟨oc7, od7, .func (PySem.W.fnOf "_law_great" "_law_great" (defArgs s_law_great) (defBody s_law_great) (defScope s_law_great) .none kV7 dc7 pm7 an7 cd7 ct7), sl7⟩)
    (c7 : PySem.W.codeIn K cd7 "_law_great" = true) (k7 : PySem.W.keepIn K (.ref f7) = true)
    (a8 : PySem.W.nsIn K mainGlobals "_law_asked" = some (some (.ref f8)))
    (l8 : K.lookup f8 = some ⟨oc8, od8, .func (PySem.W.fnOf "_law_asked" "_law_asked" (defArgs s_law_asked) (defBody s_law_asked) (defScope s_law_asked) .none kV8 dc8 pm8 an8 cd8 ct8), sl8⟩)
    (c8 : PySem.W.codeIn K cd8 "_law_asked" = true) (k8 : PySem.W.keepIn K (.ref f8) = true)
    (a9 : PySem.W.nsIn K mainGlobals "law" = some (some (.ref f9)))
    (l9 : K.lookup f9 = some ⟨oc9, od9, .func (PySem.W.fnOf "law" "law" (defArgs s_law) (defBody s_law) (defScope s_law) .none kV9 dc9 pm9 an9 cd9 ct9), sl9⟩)
    (c9 : PySem.W.codeIn K cd9 "law" = true) (k9 : PySem.W.keepIn K (.ref f9) = true)
    (z_len : PySem.W.nsIn K mainGlobals "len" = some none) (z_isinstance : PySem.W.nsIn K mainGlobals "isinstance" = some none) (z_max : PySem.W.nsIn K mainGlobals "max" = some none) (z_min : PySem.W.nsIn K mainGlobals "min" = some none) (z_all : PySem.W.nsIn K mainGlobals "all" = some none) (z_any : PySem.W.nsIn K mainGlobals "any" = some none) (z_sorted : PySem.W.nsIn K mainGlobals "sorted" = some none) (z_int : PySem.W.nsIn K mainGlobals "int" = some none) (z_str : PySem.W.nsIn K mainGlobals "str" = some none) (z_bool : PySem.W.nsIn K mainGlobals "bool" = some none) (z_list : PySem.W.nsIn K mainGlobals "list" = some none) (z_tuple : PySem.W.nsIn K mainGlobals "tuple" = some none) (z_dict : PySem.W.nsIn K mainGlobals "dict" = some none) (z_set : PySem.W.nsIn K mainGlobals "set" = some none) (z_range : PySem.W.nsIn K mainGlobals "range" = some none) (z_zip : PySem.W.nsIn K mainGlobals "zip" = some none) (z_enumerate : PySem.W.nsIn K mainGlobals "enumerate" = some none)
    : ∃ fd : FuncData, (∀ (s : Shared) (v : Value), BindsTo s fd ⟨[v], []⟩ [("_law_script", v)]) ∧ ∀ base : Heap, K.In base → base.Ns mainGlobals mg → FnOk l.prog w K mg base CX0 4 fa fd ["_law_script"] (spLaw K) := by
  have e := hfa.symm.trans (PySem.W.mg_of X G a9)
  cases e
  have B : Bt mg := ⟨PySem.W.mg_none_of X G z_len, PySem.W.mg_none_of X G z_isinstance, PySem.W.mg_none_of X G z_max, PySem.W.mg_none_of X G z_min, PySem.W.mg_none_of X G z_all, PySem.W.mg_none_of X G z_any, PySem.W.mg_none_of X G z_sorted, PySem.W.mg_none_of X G z_int, PySem.W.mg_none_of X G z_str, PySem.W.mg_none_of X G z_bool, PySem.W.mg_none_of X G z_list, PySem.W.mg_none_of X G z_tuple, PySem.W.mg_none_of X G z_dict, PySem.W.mg_none_of X G z_set, PySem.W.mg_none_of X G z_range, PySem.W.mg_none_of X G z_zip, PySem.W.mg_none_of X G z_enumerate⟩
  have F1 := fun_mk (st := s_less) l1 c1 k1
  have F2 := fun_mk (st := s_greatest) l2 c2 k2
  have F3 := fun_mk (st := s_law_whole) l3 c3 k3
  have F4 := fun_mk (st := s_law_cell_at) l4 c4 k4
  have F5 := fun_mk (st := s_law_mark) l5 c5 k5
  have F6 := fun_mk (st := s_law_rows) l6 c6 k6
  have F7 := fun_mk (st := s_law_great) l7 c7 k7
  have F8 := fun_mk (st := s_law_asked) l8 c8 k8
  have F9 := fun_mk (st := s_law) l9 c9 k9
  refine ⟨PySem.W.fnOf "law" "law" (defArgs s_law) (defBody s_law) (defScope s_law) .none kV9 dc9 pm9 an9 cd9 ct9, fun s v => .of_eq rfl, fun base _ _ => ?_⟩
  have b1 := F1.binds (ps := ["one", "other"]) fun _ _ _ _ _ _ us hl => match us, hl with | [_, _], _ => rfl
  have c_less : Cal l.prog w K mg base CX0 1 "less" ["one", "other"] (spLess K) := ⟨_, _, ok_less F1 B , PySem.W.mg_of X G a1, k1, b1⟩
  have b2 := F2.binds (ps := ["marks"]) fun _ _ _ _ _ _ us hl => match us, hl with | [_], _ => rfl
  have c_greatest : Cal l.prog w K mg base CX0 1 "greatest" ["marks"] (spGreatest K) := ⟨_, _, ok_greatest F2 B , PySem.W.mg_of X G a2, k2, b2⟩
  have b3 := F3.binds (ps := ["_law_found"]) fun _ _ _ _ _ _ us hl => match us, hl with | [_], _ => rfl
  have c_law_whole : Cal l.prog w K mg base CX0 1 "_law_whole" ["_law_found"] (spWhole) := ⟨_, _, ok_whole F3 B , PySem.W.mg_of X G a3, k3, b3⟩
  have b4 := F4.binds (ps := ["_law_script", "_law_k"]) fun _ _ _ _ _ _ us hl => match us, hl with | [_, _], _ => rfl
  have c_law_cell_at : Cal l.prog w K mg base CX0 1 "_law_cell_at" ["_law_script", "_law_k"] (spCell K) := ⟨_, _, ok_cell F4 B , PySem.W.mg_of X G a4, k4, b4⟩
  have b5 := F5.binds (ps := ["_law_found"]) fun _ _ _ _ _ _ us hl => match us, hl with | [_], _ => rfl
  have c_law_mark : Cal l.prog w K mg base CX0 2 "_law_mark" ["_law_found"] (spMark K) := ⟨_, _, ok_mark F5 B c_law_whole, PySem.W.mg_of X G a5, k5, b5⟩
  have b6 := F6.binds (ps := ["_law_script"]) fun _ _ _ _ _ _ us hl => match us, hl with | [_], _ => rfl
  have c_law_rows : Cal l.prog w K mg base CX0 2 "_law_rows" ["_law_script"] (spRows K) := ⟨_, _, ok_rows F6 B c_law_cell_at, PySem.W.mg_of X G a6, k6, b6⟩
  have b7 := F7.binds (ps := ["_law_rows_here"]) fun _ _ _ _ _ _ us hl => match us, hl with | [_], _ => rfl
  have c_law_great : Cal l.prog w K mg base CX0 1 "_law_great" ["_law_rows_here"] (spGreat K) := ⟨_, _, ok_great F7 B , PySem.W.mg_of X G a7, k7, b7⟩
  have b8 := F8.binds (ps := ["_law_rows_here"]) fun _ _ _ _ _ _ us hl => match us, hl with | [_], _ => rfl
  have c_law_asked : Cal l.prog w K mg base CX0 3 "_law_asked" ["_law_rows_here"] (spAsked K) := ⟨_, _, ok_asked F8 B c_greatest c_law_mark c_law_great, PySem.W.mg_of X G a8, k8, b8⟩
  exact ok_law F9 B c_law_rows c_less c_law_asked c_law_cell_at
end K01
open PySem PySem.W PyProof.Rows
set_option maxRecDepth 100000 in
set_option maxHeartbeats 0 in
theorem PySem.Challenge.cw_onebell_k01_marks_in_order_holds : PySem.Challenge.rw_onebell_k01_marks_in_order.Holds := by
  w_on; o_law; k_head; (case hw => w_witness2)
  k_fill
  refine L2.walk_ofK (l := PySem.Challenge.rw_onebell_k01_marks_in_order) (n := 63) (k := 4) (x := "_law_script") (CX := L2.CX0) (sp := fun K => K01.spLaw K) rfl (by decide) rfl ⟨rfl, by decide, by decide⟩ (fun w h Y => PySem.W.kIn_of Y) ?F (fun K _ a ns hl _ hS => ⟨a, ns, rfl, hS, hl, fun _ => rfl⟩) (fun _ _ _ _ h => h)
  case F =>
    intro w mg fa h KX G hmg
    refine' K01.all_mk KX G hmg ?a1 ?l1 ?c1 ?k1 ?a2 ?l2 ?c2 ?k2 ?a3 ?l3 ?c3 ?k3 ?a4 ?l4 ?c4 ?k4 ?a5 ?l5 ?c5 ?k5 ?a6 ?l6 ?c6 ?k6 ?a7 ?l7 ?c7 ?k7 ?a8 ?l8 ?c8 ?k8 ?a9 ?l9 ?c9 ?k9 ?z_len ?z_isinstance ?z_max ?z_min ?z_all ?z_any ?z_sorted ?z_int ?z_str ?z_bool ?z_list ?z_tuple ?z_dict ?z_set ?z_range ?z_zip ?z_enumerate
    (case a1 => k_is)
    (case l1 => k_is)
    (case c1 => k_is)
    (case k1 => k_is)
    (case a2 => k_is)
    (case l2 => k_is)
    (case c2 => k_is)
    (case k2 => k_is)
    (case a3 => k_is)
    (case l3 => k_is)
    (case c3 => k_is)
    (case k3 => k_is)
    (case a4 => k_is)
    (case l4 => k_is)
    (case c4 => k_is)
    (case k4 => k_is)
    (case a5 => k_is)
    (case l5 => k_is)
    (case c5 => k_is)
    (case k5 => k_is)
    (case a6 => k_is)
    (case l6 => k_is)
    (case c6 => k_is)
    (case k6 => k_is)
    (case a7 => k_is)
    (case l7 => k_is)
    (case c7 => k_is)
    (case k7 => k_is)
    (case a8 => k_is)
    (case l8 => k_is)
    (case c8 => k_is)
    (case k8 => k_is)
    (case a9 => k_is)
    (case l9 => k_is)
    (case c9 => k_is)
    (case k9 => k_is)
    (case z_len => k_is)
    (case z_isinstance => k_is)
    (case z_max => k_is)
    (case z_min => k_is)
    (case z_all => k_is)
    (case z_any => k_is)
    (case z_sorted => k_is)
    (case z_int => k_is)
    (case z_str => k_is)
    (case z_bool => k_is)
    (case z_list => k_is)
    (case z_tuple => k_is)
    (case z_dict => k_is)
    (case z_set => k_is)
    (case z_range => k_is)
    (case z_zip => k_is)
    (case z_enumerate => k_is)
