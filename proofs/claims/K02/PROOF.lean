import PyProof.Rows.All
import Wide.All
import OpenK.AllK
import Wide.FinOn
import HandS.ForMost
import HandS.ForExc
import HandS.IsInst
import HandS.Flow
import HandS.Zip
import HandS.Wide
import HandS.Steps
import KE.DatumMoreOrd
import HandS.Text
import HandS.Codes
import HandS.ExcCtx
import HandS.FStr
import HandS.StrMore
import HandS.More
import HandS.HotCalls
import HandS.ExcIs
import KE.SortData
import HandS.Style
import PySem.Challenge.RW_onebell_k02_a_desk_proposes
set_option Elab.async false
set_option linter.all false
set_option maxRecDepth 100000
/-! The layer: readings opened by simp, callees as one fact, data. -/
namespace Y
open PySem PySem.Spec PyProof.Rows L2

/-- a new object, and what is wanted then -/
def NewO (H : Hp) (o : HO) (Q : VK) : Prop := ∀ p, H p = none → Q (.ref p) (upd H p o)
/-- the object at a becomes o, and what is wanted then -/
def WrO (H : Hp) (a : Addr) (o : HO) (R : Hp → Prop) : Prop := R (upd H a o)
/-! ### readings, one step each -/
section
variable {σ : L2.St} {H : Hp} {Q : VK} {D : Ends} {i : Nat} {v : V} {ta tb te tv : TE} {t u : TT} {r : R2} {ts ts' : TS} {g : TG} {K : PySem.W.Frag} {QT : Bool → Hp → Prop} {tas : TA} {QA : List V → Hp → Prop}
theorem a_var : tVar i σ H Q = ∃ v, σ[i]? = some (some v) ∧ Q v H := rfl
theorem a_c : tC v σ H Q = Q v H := rfl
theorem a_op : tOp r ta tb σ H Q = ta σ H fun x H1 => tb σ H1 fun y H2 => r x y H2 Q := rfl
theorem a_un {r : V → Hp → VK → Prop} : tUn r ta σ H Q = ta σ H fun x H1 => r x H1 Q := rfl
theorem a_I0 {f : Int → Int → V} {x y : V} : rI0 f x y H Q = ∃ i j, x = .int i ∧ y = .int j ∧ Q (f i j) H := rfl
theorem a_I {C : Int → Int → Prop} {f : Int → Int → V} {x y : V} : rI C f x y H Q = ∃ i j, x = .int i ∧ y = .int j ∧ C i j ∧ Q (f i j) H := rfl
theorem a_U {f : Int → V} {x : V} : rU f x H Q = ∃ i, x = .int i ∧ Q (f i) H := rfl
theorem a_eq {x y : V} : rEq x y H Q = (scal x y = true ∧ Q (.bl (decide (x = y))) H) := rfl
theorem a_ne {x y : V} : rNe x y H Q = (scal x y = true ∧ Q (.bl (!decide (x = y))) H) := rfl
theorem a_B : tB te σ H QT = te σ H fun x H1 => ∃ c, x = .bl c ∧ QT c H1 := rfl
theorem a_test : tTest te σ H QT = te σ H fun x H1 => ∃ c, x = .bl c ∧ QT c H1 := rfl
theorem a_and : tAnd t u σ H QT = t σ H fun c H1 => if c = true then u σ H1 QT else QT false H1 := rfl
theorem a_or : tOr t u σ H QT = t σ H fun c H1 => if c = true then QT true H1 else u σ H1 QT := rfl
theorem a_not : tNot t σ H QT = t σ H fun c H1 => QT (!c) H1 := rfl
theorem a_andV : tAndV ta tb σ H Q = ta σ H fun x H1 => ∃ c, x = .bl c ∧ if c = true then tb σ H1 Q else Q (.bl false) H1 := rfl
theorem a_orV : tOrV ta tb σ H Q = ta σ H fun x H1 => ∃ c, x = .bl c ∧ if c = true then Q (.bl true) H1 else tb σ H1 Q := rfl
theorem a_notV : tNotV ta σ H Q = ta σ H fun x H1 => ∃ c, x = .bl c ∧ Q (.bl (!c)) H1 := rfl
theorem a_isN : tIsN ta σ H Q = ta σ H fun x H1 => Q (.bl (decide (x = .non))) H1 := rfl
theorem a_notN : tNotN ta σ H Q = ta σ H fun x H1 => Q (.bl (!decide (x = .non))) H1 := rfl
theorem a_if : tIf t ta tb σ H Q = t σ H fun c H1 => if c = true then ta σ H1 Q else tb σ H1 Q := rfl
theorem a_next : tNext D σ H = D.nx σ H := rfl
theorem a_seq : tSeq ts ts' D σ H = ts { D with nx := ts' D } σ H := rfl
theorem a_brk : tBreak D σ H = D.bk σ H := rfl
theorem a_cont : tCont D σ H = D.ct σ H := rfl
theorem a_drop : tDrop te D σ H = te σ H fun _ H1 => D.nx σ H1 := rfl
theorem a_ret : tRet te D σ H = te σ H D.rt := rfl
theorem a_retN : tRetN D σ H = D.rt .non H := rfl
theorem a_ifS : tIfS t ts ts' D σ H = t σ H fun b H1 => if b = true then ts D σ H1 else ts' D σ H1 := rfl
theorem a_asg : tAsg te g D σ H = te σ H fun x H1 => g x σ H1 D.nx := rfl
theorem a_gName {q : L2.St → Hp → Prop} : gName i v σ H q = q (σ.set i (some v)) H := rfl
theorem a_nil : tNil σ H QA = QA [] H := rfl
theorem a_cons : tCons te tas σ H QA = te σ H fun x H1 => tas σ H1 fun xs H2 => QA (x :: xs) H2 := rfl
theorem a_tup : tTup tas σ H Q = tas σ H fun xs H1 => xs.length ≤ sizeLine ∧ NewO H1 (.tup xs) Q := rfl
theorem a_lst : tLst tas σ H Q = tas σ H fun xs H1 => xs.length ≤ sizeLine ∧ NewO H1 (.lst xs) Q := rfl
theorem a_cb {r : List V → Hp → VK → Prop} : tCB r tas σ H Q = tas σ H fun xs H1 => r xs H1 Q := rfl
theorem a_call {sp : Sp} {dvs : List V} {E : XK} : tCall sp dvs E tas σ H Q = tas σ H fun vs H1 => sp (vs ++ dvs) H1 Q E := rfl
theorem a_ixL {x y : V} : rIxL K x y H Q = ∃ p xs i v, x = .ref p ∧ y = .int i ∧ SqL K H p xs ∧ atI xs i = some v ∧ Q v H := rfl
theorem a_ixT {x y : V} : rIxT K x y H Q = ∃ p xs i v, x = .ref p ∧ y = .int i ∧ SqT K H p xs ∧ atI xs i = some v ∧ Q v H := rfl
theorem a_tIfT {A B : Prop} : (if true = true then A else B) = A := if_pos rfl
theorem a_tIfF {A B : Prop} : (if false = true then A else B) = B := if_neg Bool.false_ne_true
end

/-! ### heaps -/
/-- what never changes once it stands -/
def tupO : HO → Prop
  | .tup _ => True
  | .frz _ _ => True
  | _ => False
/-- what is tracked outside of M, and every tuple, is as it was -/
def Frm (M : Addr → Prop) (H H' : Hp) : Prop := ∀ a o, H a = some o → (M a → tupO o) → H' a = some o
theorem Frm.refl {M : Addr → Prop} {H : Hp} : Frm M H H := fun _ _ e _ => e
theorem Frm.trans {M : Addr → Prop} {H H1 H2 : Hp} (a : Frm M H H1) (b : Frm M H1 H2) : Frm M H H2 := fun x o e h => b x o (a x o e h) h
theorem Frm.mono {M N : Addr → Prop} {H H1 : Hp} (a : Frm M H H1) (b : ∀ x, M x → N x) : Frm N H H1 := fun x o e h => a x o e fun m => h (b x m)
theorem Frm.tup {M : Addr → Prop} {H H1 : Hp} (a : Frm M H H1) {p : Addr} {xs : List V} (e : H p = some (.tup xs)) : H1 p = some (.tup xs) := a p _ e fun _ => trivial
theorem Frm.upd {H : Hp} {p : Addr} {o u : HO} (h : H p = some o) (ht : ¬ tupO o) : Frm (fun b => b = p) H (L2.upd H p u) := fun a v e m => by
  rw [upd_ne (fun z => ?_)]
  · exact e
  · subst z
    rw [h] at e
    cases e
    exact ht (m rfl)
theorem Frm.sqT {M : Addr → Prop} {H H1 : Hp} (a : Frm M H H1) {K : PySem.W.Frag} {p : Addr} {xs : List V} (h : SqT K H p xs) : SqT K H1 p xs := by
  rcases h with (h | ⟨o, h⟩) | h
  · exact .inl (.inl (a _ _ h fun _ => trivial))
  · exact .inl (.inr ⟨o, a _ _ h fun _ => trivial⟩)
  · exact .inr h
theorem Frm.of_same {M : Addr → Prop} {H H' : Hp} (h : Same H H') : Frm M H H' := fun a o e _ => h a o e
theorem Frm.same {H H' : Hp} (h : Frm (fun _ => False) H H') : Same H H' := fun a o e => h a o e fun z => z.elim
theorem Same.new {H : Hp} {p : Addr} {o : HO} (h : H p = none) : Same H (upd H p o) := fun a u e => by
  rw [upd_ne (ne_of_none e h)]
  exact e
theorem free_of {H H' : Hp} (e : Same H H') {p : Addr} (h : H' p = none) : H p = none := e.free h
theorem _root_.L2.Same.seqT {K : PySem.W.Frag} {H H' : Hp} {a : Addr} {xs : List V} (e : Same H H') (h : SqT K H a xs) : SqT K H' a xs := by
  rcases h with (h | ⟨o, h⟩) | h
  · exact .inl (.inl (e _ _ h))
  · exact .inl (.inr ⟨o, e _ _ h⟩)
  · exact .inr h
theorem sqL {K : PySem.W.Frag} {H : Hp} {a : Addr} {xs : List V} (h : H a = some (.lst xs)) : SqL K H a xs := .inl (.inl h)
theorem sqT {K : PySem.W.Frag} {H : Hp} {a : Addr} {xs : List V} (h : H a = some (.tup xs)) : SqT K H a xs := .inl (.inl h)

/-! ### callees as one fact -/
structure Cal (P : Program) (w : World) (K : PySem.W.Frag) (mg : Str → Option Value) (base : Heap) (CX : CXT) (k : Nat) (x : Str) (ps : List Str) (sp : Sp) : Prop where
  ex : ∃ (f : Addr) (fd : FuncData), FnOk P w K mg base CX k f fd ps sp ∧ mg x = some (.ref f) ∧ PySem.W.keepIn K (.ref f) = true ∧ Binds K fd ps []
section
variable {X : Cx}
theorem pe_callC {k : Nat} {x : Str} {ps : List Str} {sp : Sp} {p pos : Pos} {e : Expr} {es : List Expr} {t : TA} (C : Cal X.prog X.w X.K X.mg X.base CX0 k x ps sp) (hr : Room k X.A) (ha : PA X (e :: es) t) (hg : Gl X x := by rfl) (hn : x ≠ "__name__" := by decide)
    (hdb : (x == ("__debug__" : Str)) = false := by decide) (he : starEach (e :: es) X.env = (false, eval e X.env) :: starEach es X.env := by rfl) (hpl : (backTo pos (starEach es X.env)).any (·.1) = false := by rfl) :
    PE X (.Call (.Name x p) (e :: es) [] pos) (tCall sp [] E0 t) := by
  obtain ⟨f, fd, F, m, kp, b⟩ := C.ex
  exact pe_call F hr hg m kp b .nil pass0 ha hdb he hpl
theorem pe_call0C {k : Nat} {x : Str} {ps : List Str} {sp : Sp} {p pos : Pos} (C : Cal X.prog X.w X.K X.mg X.base CX0 k x ps sp) (hr : Room k X.A) (hg : Gl X x := by rfl) (hn : x ≠ "__name__" := by decide)
    (hdb : (x == ("__debug__" : Str)) = false := by decide) :
    PE X (.Call (.Name x p) [] [] pos) (tCall sp [] E0 tNil) := by
  obtain ⟨f, fd, F, m, kp, b⟩ := C.ex
  exact pe_call0 F hr hg m kp b .nil pass0 hdb
end
/-- the names of built-ins that the module leaves alone -/
structure Bt (mg : Str → Option Value) : Prop where
  len : mg "len" = none
  isinstance : mg "isinstance" = none
  max : mg "max" = none
  min : mg "min" = none
  all : mg "all" = none
  any : mg "any" = none
  sorted : mg "sorted" = none
  int : mg "int" = none
  str : mg "str" = none
  bool : mg "bool" = none
  list : mg "list" = none
  tuple : mg "tuple" = none
  dict : mg "dict" = none
  set : mg "set" = none
  range : mg "range" = none
  zip : mg "zip" = none
  enumerate : mg "enumerate" = none
  ValueError : mg "ValueError" = none

/-! ### data with a Lean type -/
section
variable {α β : Type} [DecidableEq α] [PySem.W.Datum α] [DecidableEq β] [PySem.W.Datum β] {K : PySem.W.Frag} {H H' : Hp} {v u : V} {vs us : List V} {x y : α} {xs ys : List α}
open PySem.W (Datum)
def Dv (K : PySem.W.Frag) (H : Hp) (v : V) (x : α) : Prop := Dp K H v (Datum.toD x)
def DvL (K : PySem.W.Frag) (H : Hp) (vs : List V) (xs : List α) : Prop := DpAll K H vs (xs.map Datum.toD)
mutual
theorem Dp.same (e : Same H H') : ∀ (d : PyData) (v : V), Dp K H v d → Dp K H' v d
  | .none, _, h => by cases h; exact .non
  | .bool b, _, h => by cases h; exact .bl b
  | .int i, _, h => by cases h; exact .int i
  | .str x, _, h => by cases h; exact .str x
  | .list ds, _, h => by
    cases h with
    | lst hs ha => exact .lst (e.seq hs) (DpAll.same e ds _ ha)
  | .tuple ds, _, h => by
    cases h with
    | tup hs ha => exact .tup (e.seqT hs) (DpAll.same e ds _ ha)
  | .dict _, _, h => by cases h
theorem DpAll.same (e : Same H H') : ∀ (ds : List PyData) (vs : List V), DpAll K H vs ds → DpAll K H' vs ds
  | [], _, h => by cases h; exact .nil
  | d :: ds, _, h => by
    cases h with
    | cons h1 h2 => exact .cons (Dp.same e d _ h1) (DpAll.same e ds _ h2)
end
theorem Dv.same (e : Same H H') (h : Dv K H v x) : Dv K H' v x := Dp.same e _ _ h
theorem DvL.same (e : Same H H') (h : DvL K H vs xs) : DvL K H' vs xs := DpAll.same e _ _ h
theorem DvL.nil : DvL K H [] ([] : List α) := DpAll.nil
theorem DvL.cons (a : Dv K H v x) (b : DvL K H vs xs) : DvL K H (v :: vs) (x :: xs) := DpAll.cons a b
theorem DvL.head (h : DvL K H (v :: vs) (x :: xs)) : Dv K H v x ∧ DvL K H vs xs := by
  have h : DpAll K H (v :: vs) (Datum.toD x :: xs.map Datum.toD) := h
  cases h with
  | cons a b => exact ⟨a, b⟩
theorem DvL.length : ∀ {vs : List V} {xs : List α}, DvL K H vs xs → vs.length = xs.length
  | [], [], _ => rfl
  | [], x :: xs, h => by have h : DpAll K H [] (Datum.toD x :: xs.map Datum.toD) := h; cases h
  | v :: vs, [], h => by have h : DpAll K H (v :: vs) [] := h; cases h
  | v :: vs, x :: xs, h => by rw [List.length_cons, List.length_cons, DvL.length h.head.2]
theorem DvL.append : ∀ {vs : List V} {xs : List α}, DvL K H vs xs → DvL K H us ys → DvL K H (vs ++ us) (xs ++ ys)
  | [], [], _, k => k
  | [], x :: xs, h, _ => by have := h.length; cases this
  | v :: vs, [], h, _ => by have := h.length; cases this
  | v :: vs, x :: xs, h, k => .cons h.head.1 (DvL.append h.head.2 k)
theorem DvL.snoc (a : DvL K H vs xs) (b : Dv K H v x) : DvL K H (vs ++ [v]) (xs ++ [x]) := a.append (.cons b .nil)
theorem DvL.at : ∀ {vs : List V} {xs : List α}, DvL K H vs xs → ∀ {i : Nat} {v : V}, vs[i]? = some v → ∃ x, xs[i]? = some x ∧ Dv K H v x
  | [], _, _, i, v, e => by simp at e
  | v :: vs, [], h, _, _, _ => by have := h.length; cases this
  | v :: vs, x :: xs, h, 0, w, e => by
    have e' : v = w := Option.some.inj e
    subst e'
    exact ⟨x, rfl, h.head.1⟩
  | v :: vs, x :: xs, h, i + 1, w, e => DvL.at h.head.2 (i := i) e
theorem DvL.at' : ∀ {vs : List V} {xs : List α}, DvL K H vs xs → ∀ {i : Nat} {x : α}, xs[i]? = some x → ∃ v, vs[i]? = some v ∧ Dv K H v x
  | _, [], _, i, x, e => by simp at e
  | [], x :: xs, h, _, _, _ => by have := h.length; cases this
  | v :: vs, x :: xs, h, 0, w, e => by
    have e' : x = w := Option.some.inj e
    subst e'
    exact ⟨v, rfl, h.head.1⟩
  | v :: vs, x :: xs, h, i + 1, w, e => DvL.at' h.head.2 (i := i) e
theorem DvL.take : ∀ {vs : List V} {xs : List α}, DvL K H vs xs → ∀ n : Nat, DvL K H (vs.take n) (xs.take n)
  | _, _, _, 0 => by rw [List.take_zero, List.take_zero]; exact .nil
  | [], [], h, _ + 1 => h
  | [], x :: xs, h, _ + 1 => by have := h.length; cases this
  | v :: vs, [], h, _ + 1 => by have := h.length; cases this
  | v :: vs, x :: xs, h, n + 1 => .cons h.head.1 (DvL.take h.head.2 n)
theorem DvL.drop : ∀ {vs : List V} {xs : List α}, DvL K H vs xs → ∀ n : Nat, DvL K H (vs.drop n) (xs.drop n)
  | _, _, h, 0 => h
  | [], [], h, _ + 1 => h
  | [], x :: xs, h, _ + 1 => by have := h.length; cases this
  | v :: vs, [], h, _ + 1 => by have := h.length; cases this
  | v :: vs, x :: xs, h, n + 1 => DvL.drop h.head.2 n
theorem dv_int (i : Int) : Dv K H (.int i) i := Dp.int i
theorem dv_bl (b : Bool) : Dv K H (.bl b) b := Dp.bl b
theorem dv_str (z : Str) : Dv K H (.str z) z := Dp.str z
theorem dv_lst {a : Addr} (h : SqL K H a vs) (k : DvL K H vs xs) : Dv K H (.ref a) xs := Dp.lst h k
theorem dv_pair {a : Addr} {y : β} (h : SqT K H a [v, u]) (k : Dv K H v x) (l : Dv K H u y) : Dv K H (.ref a) (x, y) := Dp.tup h (.cons k (.cons l .nil))
/-! no list within -/
mutual
def noL : PyData → Bool
  | .list _ => false
  | .tuple ds => noLs ds
  | .dict _ => false
  | _ => true
def noLs : List PyData → Bool
  | [] => true
  | d :: ds => noL d && noLs ds
end
mutual
theorem Dp.frm {M : Addr → Prop} (e : Frm M H H') : ∀ (d : PyData) (v : V), noL d = true → Dp K H v d → Dp K H' v d
  | .none, _, _, h => by cases h; exact .non
  | .bool b, _, _, h => by cases h; exact .bl b
  | .int i, _, _, h => by cases h; exact .int i
  | .str x, _, _, h => by cases h; exact .str x
  | .list ds, _, n, h => by simp [noL] at n
  | .tuple ds, _, n, h => by
    rw [noL] at n
    cases h with
    | tup hs ha => exact .tup (e.sqT hs) (DpAll.frm e ds _ n ha)
  | .dict _, _, _, h => by cases h
theorem DpAll.frm {M : Addr → Prop} (e : Frm M H H') : ∀ (ds : List PyData) (vs : List V), noLs ds = true → DpAll K H vs ds → DpAll K H' vs ds
  | [], _, _, h => by cases h; exact .nil
  | d :: ds, _, n, h => by
    rw [noLs, Bool.and_eq_true] at n
    cases h with
    | cons h1 h2 => exact .cons (Dp.frm e d _ n.1 h1) (DpAll.frm e ds _ n.2 h2)
end
/-- data of numbers, texts, tuples: never changed -/
class Flat (α : Type) [DecidableEq α] [PySem.W.Datum α] : Prop where
  flat : ∀ x : α, noL (Datum.toD x) = true
instance : Flat Int := ⟨fun _ => rfl⟩
instance : Flat Bool := ⟨fun _ => rfl⟩
instance : Flat Str := ⟨fun _ => rfl⟩
instance [Flat α] [Flat β] : Flat (α × β) := ⟨fun x => by
  show noL (.tuple [Datum.toD x.1, Datum.toD x.2]) = true
  rw [noL, noLs, noLs, noLs, Flat.flat x.1, Flat.flat x.2]; rfl⟩
theorem Dv.frm [Flat α] {M : Addr → Prop} (e : Frm M H H') (h : Dv K H v x) : Dv K H' v x := Dp.frm e _ _ (Flat.flat x) h
theorem DvL.frm [Flat α] {M : Addr → Prop} (e : Frm M H H') : ∀ {vs : List V} {xs : List α}, DvL K H vs xs → DvL K H' vs xs
  | [], [], _ => .nil
  | [], x :: xs, h => by have := h.length; cases this
  | v :: vs, [], h => by have := h.length; cases this
  | v :: vs, x :: xs, h => .cons (h.head.1.frm e) (DvL.frm e h.head.2)
theorem dvL_ints : ∀ ns : List Int, DvL K H (ns.map V.int) ns
  | [] => .nil
  | n :: ns => .cons (dv_int n) (dvL_ints ns)
theorem dvL_bls : ∀ ns : List Bool, DvL K H (ns.map V.bl) ns
  | [] => .nil
  | n :: ns => .cons (dv_bl n) (dvL_bls ns)
theorem dv_int_of {i : Int} (h : Dv K H v i) : v = .int i := by
  have h : Dp K H v (.int i) := h
  cases h; rfl
theorem dv_bl_of {i : Bool} (h : Dv K H v i) : v = .bl i := by
  have h : Dp K H v (.bool i) := h
  cases h; rfl
theorem dv_str_of {i : Str} (h : Dv K H v i) : v = .str i := by
  have h : Dp K H v (.str i) := h
  cases h; rfl
theorem dvL_ints_of : ∀ {vs : List V} {ns : List Int}, DvL K H vs ns → vs = ns.map V.int
  | [], [], _ => rfl
  | [], x :: xs, h => by have := h.length; cases this
  | v :: vs, [], h => by have := h.length; cases this
  | v :: vs, n :: ns, h => by
    rw [dv_int_of h.head.1, dvL_ints_of h.head.2]
    rfl
theorem dvL_bls_of : ∀ {vs : List V} {ns : List Bool}, DvL K H vs ns → vs = ns.map V.bl
  | [], [], _ => rfl
  | [], x :: xs, h => by have := h.length; cases this
  | v :: vs, [], h => by have := h.length; cases this
  | v :: vs, n :: ns, h => by
    rw [dv_bl_of h.head.1, dvL_bls_of h.head.2]
    rfl
theorem dv_lst_of (h : Dv K H v xs) : ∃ a vs, v = .ref a ∧ SqL K H a vs ∧ DvL K H vs xs := by
  have h : Dp K H v (.list (xs.map Datum.toD)) := h
  cases h with
  | lst a b => exact ⟨_, _, rfl, a, b⟩
theorem dv_pair_of {y : β} (h : Dv K H v (x, y)) : ∃ a v1 v2, v = .ref a ∧ SqT K H a [v1, v2] ∧ Dv K H v1 x ∧ Dv K H v2 y := by
  have h : Dp K H v (.tuple [Datum.toD x, Datum.toD y]) := h
  cases h with
  | tup a b =>
    cases b with
    | cons b1 b2 =>
      cases b2 with
      | cons b2 b3 =>
        cases b3
        exact ⟨_, _, _, rfl, a, b1, b2⟩
/-- a mark as it lies -/
theorem dv_mark_of {n h : Int} (q : Dv K H v (n, h)) : ∃ a, v = .ref a ∧ SqT K H a [.int n, .int h] := by
  obtain ⟨a, v1, v2, e, s, q1, q2⟩ := dv_pair_of q
  rw [dv_int_of q1, dv_int_of q2] at s
  exact ⟨a, e, s⟩
end
section
variable {X : Cx} {α : Type} [DecidableEq α] [PySem.W.Datum α]
open PySem.W (Datum Holds HoldAll DatumOrd)
theorem Dv.holds {pins : List (Addr × Obj)} {σ : L2.St} {H : Hp} {s : Shared} {v : V} {u : Value} {x : α} (h : Dv X.K H v x) (I : Inv X pins σ H s) (r : RelV v u) : Holds s.heap u x := Dp.reads I _ _ _ h r
theorem DvL.holds {pins : List (Addr × Obj)} {σ : L2.St} {H : Hp} {s : Shared} {vs : List V} {us : List Value} {xs : List α} (h : DvL X.K H vs xs) (I : Inv X pins σ H s) (r : Vals vs us) : HoldAll s.heap us xs := Dp.readsAll I _ _ _ h r
theorem dep_le {n : Nat} (h : X.A.units + 64 < cLine) (k : n ≤ 62) : X.A.units + n < cLine := by omega
def rEqA (α : Type) [DecidableEq α] [PySem.W.Datum α] (K : PySem.W.Frag) : R2 := fun x y H Q => ∃ a b : α, Dv K H x a ∧ Dv K H y b ∧ Q (.bl (decide (a = b))) H
def rNeA (α : Type) [DecidableEq α] [PySem.W.Datum α] (K : PySem.W.Frag) : R2 := fun x y H Q => ∃ a b : α, Dv K H x a ∧ Dv K H y b ∧ Q (.bl (!decide (a = b))) H
theorem op_eqA (hd : Datum.depth α ≤ 62) (hu : X.A.units + 64 < cLine) : OpR X (compareOp .Eq) (rEqA α X.K) := by
  intro pins s σ H x y v u Q I rx ry h
  obtain ⟨a, b, ha, hb, q⟩ := h
  exact PySem.W.eq_datum (ha.holds I rx) (hb.holds I ry) (dep_le hu hd) ⟨.bl _, H, I, rfl, q⟩
theorem op_neA (hd : Datum.depth α ≤ 62) (hu : X.A.units + 64 < cLine) : OpR X (compareOp .NotEq) (rNeA α X.K) := by
  intro pins s σ H x y v u Q I rx ry h
  obtain ⟨a, b, ha, hb, q⟩ := h
  refine PySem.W.ne_datum (ha.holds I rx) (hb.holds I ry) (dep_le hu hd) ⟨.bl (!decide (a = b)), H, I, ?_, q⟩
  show Value.bool (decide (a ≠ b)) = Value.bool (!decide (a = b))
  rw [decide_not]
end
section
variable {X : Cx} {α : Type} [DecidableEq α] [PySem.W.DatumOrd α]
open PySem.W (Datum Holds HoldAll DatumOrd)
def rLtA (α : Type) [DecidableEq α] [DatumOrd α] (K : PySem.W.Frag) : R2 := fun x y H Q => ∃ a b : α, Dv K H x a ∧ Dv K H y b ∧ Q (.bl (DatumOrd.lt a b)) H
theorem op_ltA (hd : Datum.depth α ≤ 62) (hu : X.A.units + 64 < cLine) : OpR X (compareOp .Lt) (rLtA α X.K) := by
  intro pins s σ H x y v u Q I rx ry h
  obtain ⟨a, b, ha, hb, q⟩ := h
  exact PySem.W.lt_datum (ha.holds I rx) (hb.holds I ry) (dep_le hu hd) ⟨.bl _, H, I, rfl, q⟩
def rMaxA (α : Type) [DecidableEq α] [DatumOrd α] (K : PySem.W.Frag) : List V → Hp → VK → Prop := fun vs H Q => ∃ (l : Addr) (ys : List V) (x : α) (xs : List α), vs = [.ref l] ∧ SqL K H l ys ∧ DvL K H ys (x :: xs) ∧ ∀ v, Dv K H v (PySem.W.maxOf x xs) → Q v H
theorem toD_inj {α : Type} [DecidableEq α] [Datum α] {x y : α} (h : Datum.toD x = Datum.toD y) : x = y := by
  have e := Datum.eqv x y
  rw [h, Datum.eqv y y, decide_eq_true rfl] at e
  exact of_decide_eq_true e.symm
theorem holds_inj {α : Type} [DecidableEq α] [Datum α] {h : Heap} {v : Value} {x y : α} (a : Holds h v x) (b : Holds h v y) : x = y := by
  obtain ⟨as, a⟩ := a
  obtain ⟨bs, b⟩ := b
  exact toD_inj (reads_det (fun _ _ e _ => e) a b).1.symm
theorem maxOf_mem (x : α) (xs : List α) : PySem.W.maxOf x xs ∈ x :: xs := by
  unfold PySem.W.maxOf
  induction xs generalizing x with
  | nil => exact List.mem_cons_self
  | cons y ys ih =>
    rw [List.foldl_cons]
    by_cases c : DatumOrd.lt x y = true
    · rw [if_pos c]
      exact List.mem_cons_of_mem _ (ih y)
    · rw [if_neg c]
      rcases List.mem_cons.mp (ih x) with e | m
      · rw [e]; exact List.mem_cons_self
      · exact List.mem_cons_of_mem _ (List.mem_cons_of_mem _ m)
theorem cr_maxA (hc : X.calm = true) (hd : Datum.depth α ≤ 60) (hu : X.A.units + 64 < cLine) : CallR X (.builtin "max") (rMaxA α X.K) := by
  intro pins s σ H vs us Q I r h
  obtain ⟨l, ys, x, xs, rfl, hs, hv, q⟩ := h
  obtain ⟨its, rv, hl, _⟩ := I.list hs
  rw [Vals.ref1 r]
  refine PySem.W.max_list_datum (I.ok.hd hc) hl.isList (hv.holds I rv) (by omega) fun i v h' tk hi hh hk => ?_
  have hi' : its[i]? = some v := by rw [← hi, List.getElem?_toArray]
  obtain ⟨y, hy, ry⟩ : ∃ y, ys[i]? = some y ∧ RelV y v := by
    cases e : ys[i]? with
    | none => rw [rv.none_of e] at hi'; cases hi'
    | some y =>
      obtain ⟨u, hu', ru⟩ := rv.get e
      rw [hu'] at hi'
      cases hi'
      exact ⟨y, rfl, ru⟩
  obtain ⟨z, hz, dz⟩ := hv.at hy
  have e := holds_inj ((dz.holds I ry).keeps hk) hh
  subst e
  exact ⟨y, H, I.kept hk, ry, q y dz⟩
end

/-! ### isinstance of a built-in type, by the value's kind -/
def isB (t n : String) : Bool := decide (t = n) || (decide (t = "bool") && decide (n = "int"))
theorem kitB_int : ∀ n ∈ ["int", "bool", "str", "tuple", "list"], kitB "int" n = some (isB "int" n) := by decide +kernel
theorem kitB_bool : ∀ n ∈ ["int", "bool", "str", "tuple", "list"], kitB "bool" n = some (isB "bool" n) := by decide +kernel
theorem kitB_str : ∀ n ∈ ["int", "bool", "str", "tuple", "list"], kitB "str" n = some (isB "str" n) := by decide +kernel
theorem kitB_non : ∀ n ∈ ["int", "bool", "str", "tuple", "list"], kitB "NoneType" n = some (isB "NoneType" n) := by decide +kernel
theorem kitB_tuple : ∀ n ∈ ["int", "bool", "str", "tuple", "list"], kitB "tuple" n = some (isB "tuple" n) := by decide +kernel
theorem kitB_list : ∀ n ∈ ["int", "bool", "str", "tuple", "list"], kitB "list" n = some (isB "list" n) := by decide +kernel
def rIs (n : String) (K : PySem.W.Frag) : List V → Hp → VK → Prop := fun xs H Q => ∃ x, xs = [x, .ty n] ∧
  match x with
  | .int _ => Q (.bl (isB "int" n)) H
  | .bl _ => Q (.bl (isB "bool" n)) H
  | .str _ => Q (.bl (isB "str" n)) H
  | .non => Q (.bl (isB "NoneType" n)) H
  | .ref a => (∃ xs, SqT K H a xs ∧ Q (.bl (isB "tuple" n)) H) ∨ (∃ xs, SqL K H a xs ∧ Q (.bl (isB "list" n)) H)
  | _ => False
theorem tyX_tup {K : PySem.W.Frag} {H : Hp} {a : Addr} {xs : List V} (h : SqT K H a xs) : TyX K H (.ref a) (.type "tuple") := by
  rcases h with (h | ⟨o, h⟩) | ⟨o, its, n, h1, h2, _⟩
  · exact .base (.tup h)
  · exact .fTuple h
  · exact .kTuple h1 h2
theorem tyX_lst {K : PySem.W.Frag} {H : Hp} {a : Addr} {xs : List V} (h : SqL K H a xs) : TyX K H (.ref a) (.type "list") := by
  rcases h with (h | ⟨o, h⟩) | ⟨o, its, n, h1, h2, _⟩
  · exact .base (.lst h)
  · exact .base (.frz h)
  · exact .kList h1 h2
theorem call_is {X : Cx} (n : String) (hn : n ∈ ["int", "bool", "str", "tuple", "list"] := by decide) : CallR X (.builtin "isinstance") (rIs n X.K) := by
  intro pins s σ H xs us Q I r h
  obtain ⟨x, rfl, h⟩ := h
  refine call_isi pins s σ H _ us Q I r ?_
  cases x with
  | int i => exact ⟨.int i, .ty n, _, _, _, rfl, .ty n, .base (.int i), kit_ty (kitB_int n hn), h⟩
  | bl i => exact ⟨.bl i, .ty n, _, _, _, rfl, .ty n, .base (.bl i), kit_ty (kitB_bool n hn), h⟩
  | str i => exact ⟨.str i, .ty n, _, _, _, rfl, .ty n, .base (.str i), kit_ty (kitB_str n hn), h⟩
  | non => exact ⟨.non, .ty n, _, _, _, rfl, .ty n, .base .non, kit_ty (kitB_non n hn), h⟩
  | ref a =>
    rcases h with ⟨ys, hs, h⟩ | ⟨ys, hs, h⟩
    · exact ⟨.ref a, .ty n, _, _, _, rfl, .ty n, tyX_tup hs, kit_ty (kitB_tuple n hn), h⟩
    · exact ⟨.ref a, .ty n, _, _, _, rfl, .ty n, tyX_lst hs, kit_ty (kitB_list n hn), h⟩
  | byt _ => exact h.elim
  | flt _ => exact h.elim
  | ty _ => exact h.elim
section
variable {H : Hp} {Q : VK} {n : String} {K : PySem.W.Frag}
theorem a_isInt {i : Int} : rIs n K [.int i, .ty n] H Q = Q (.bl (isB "int" n)) H := propext ⟨fun ⟨x, e, h⟩ => by cases e; exact h, fun h => ⟨_, rfl, h⟩⟩
theorem a_isBl {i : Bool} : rIs n K [.bl i, .ty n] H Q = Q (.bl (isB "bool" n)) H := propext ⟨fun ⟨x, e, h⟩ => by cases e; exact h, fun h => ⟨_, rfl, h⟩⟩
theorem a_isStr {i : Str} : rIs n K [.str i, .ty n] H Q = Q (.bl (isB "str" n)) H := propext ⟨fun ⟨x, e, h⟩ => by cases e; exact h, fun h => ⟨_, rfl, h⟩⟩
theorem a_isNon : rIs n K [.non, .ty n] H Q = Q (.bl (isB "NoneType" n)) H := propext ⟨fun ⟨x, e, h⟩ => by cases e; exact h, fun h => ⟨_, rfl, h⟩⟩
theorem a_isRef {a : Addr} : rIs n K [.ref a, .ty n] H Q = ((∃ xs, SqT K H a xs ∧ Q (.bl (isB "tuple" n)) H) ∨ (∃ xs, SqL K H a xs ∧ Q (.bl (isB "list" n)) H)) := propext ⟨fun ⟨x, e, h⟩ => by cases e; exact h, fun h => ⟨_, rfl, h⟩⟩
theorem isB_tt : isB "tuple" "tuple" = true := rfl
theorem isB_ii : isB "int" "int" = true := rfl
theorem isB_ib : isB "int" "bool" = false := rfl
theorem isB_bb : isB "bool" "bool" = true := rfl
theorem isB_bi : isB "bool" "int" = true := rfl
theorem isB_ll : isB "list" "list" = true := rfl
theorem isB_lt : isB "list" "tuple" = false := rfl
theorem isB_tl : isB "tuple" "list" = false := rfl
theorem isB_ss : isB "str" "str" = true := rfl
theorem isB_st : isB "str" "tuple" = false := rfl
theorem isB_sl : isB "str" "list" = false := rfl
theorem isB_nt : isB "NoneType" "tuple" = false := rfl
theorem isB_nl : isB "NoneType" "list" = false := rfl
end

/-! ### len, list(..) of lists and tuples, by either -/
def rLenQ (K : PySem.W.Frag) : List V → Hp → VK → Prop := fun xs H Q => ∃ p ys, xs = [.ref p] ∧ (SqL K H p ys ∨ SqT K H p ys) ∧ Q (.int ys.length) H
def rListQ (K : PySem.W.Frag) : List V → Hp → VK → Prop := fun xs H Q => ∃ p ys, xs = [.ref p] ∧ (SqL K H p ys ∨ SqT K H p ys) ∧ ∀ l, H l = none → Q (.ref l) (upd H l (.lst ys))
section
variable {X : Cx} {H : Hp} {Q : VK} {K : PySem.W.Frag} {p : Addr}
theorem call_lenQ : CallR X (.builtin "len") (rLenQ X.K) := call_len_seq
theorem call_listQ : CallR X (.type "list") (rListQ X.K) := call_list_of
theorem a_lenQ : rLenQ K [.ref p] H Q = ∃ ys, (SqL K H p ys ∨ SqT K H p ys) ∧ Q (.int ys.length) H := propext ⟨fun ⟨_, ys, e, h⟩ => by cases e; exact ⟨ys, h⟩, fun ⟨ys, h⟩ => ⟨p, ys, rfl, h⟩⟩
theorem a_listQ : rListQ K [.ref p] H Q = ∃ ys, (SqL K H p ys ∨ SqT K H p ys) ∧ NewO H (.lst ys) Q := propext ⟨fun ⟨_, ys, e, h⟩ => by cases e; exact ⟨ys, h⟩, fun ⟨ys, h⟩ => ⟨p, ys, rfl, h⟩⟩
theorem a_sl {r : V → Option Int → Option Int → Hp → VK → Prop} {te : TE} {tl th : TO} {σ : L2.St} : tSl r te tl th σ H Q = te σ H fun x H1 => tl σ H1 fun l H2 => th σ H2 fun u H3 => r x l u H3 Q := rfl
theorem a_noPart {σ : L2.St} {q : Option Int → Hp → Prop} : tNoPart σ H q = q none H := rfl
theorem a_part {σ : L2.St} {q : Option Int → Hp → Prop} {te : TE} : tPart te σ H q = te σ H fun x H1 => ∃ i, x = .int i ∧ q (some i) H1 := rfl
theorem a_slL {x : V} {lo hi : Option Int} : rSlL K x lo hi H Q = ∃ a xs, x = .ref a ∧ SqL K H a xs ∧ ∀ p, H p = none → Q (.ref p) (upd H p (.lst (cutV xs lo hi))) := rfl
theorem a_cat {x y : V} : rCat x y H Q = ∃ l b xs zs, x = .ref l ∧ y = .ref b ∧ H l = some (.lst xs) ∧ H b = some (.lst zs) ∧ xs.length + zs.length ≤ sizeLine ∧ ∀ p, H p = none → Q (.ref p) (upd H p (.lst (xs ++ zs))) := rfl
theorem a_bm {T : String} {r : V → List V → Hp → VK → Prop} {to : TE} {t : TA} {σ : L2.St} : tBM K T r to t σ H Q = to σ H fun x H1 => tyV K T x H1 ∧ t σ H1 fun xs H2 => r x xs H2 Q := rfl
theorem a_bm0 {T : String} {r : V → List V → Hp → VK → Prop} {to : TE} {σ : L2.St} : tBM0 K T r to σ H Q = to σ H fun x H1 => tyV K T x H1 ∧ r x [] H1 Q := rfl
theorem a_append {x : V} {vs : List V} : rAppend x vs H Q = ∃ l xs y, x = .ref l ∧ vs = [y] ∧ H l = some (.lst xs) ∧ xs.length < sizeLine ∧ Q .non (upd H l (.lst (xs ++ [y]))) := rfl
theorem tyV_lst {xs : List V} (h : SqL K H p xs) : tyV K "list" (.ref p) H := .inl ⟨rfl, _, h⟩
end

/-! ### a new object, a changed one: the heap behind it by what is known of it -/
theorem new_o {H : Hp} {o : HO} {Q : VK} (h : ∀ p H1, H p = none → Same H H1 → H1 p = some o → Q (.ref p) H1) : NewO H o Q := fun p hp => h p _ hp (Same.new hp) upd_same
theorem wr_o {H : Hp} {a : Addr} {o u : HO} {R : Hp → Prop} (ha : H a = some u) (ht : ¬ tupO u) (h : ∀ H1, Frm (fun b => b = a) H H1 → H1 a = some o → R H1) : WrO H a o R := h _ (Frm.upd ha ht) upd_same
theorem _root_.L2.Same.frm {M : Addr → Prop} {H0 H H1 : Hp} (e : Same H0 H) (f : Frm M H H1) (h : ∀ a, M a → H0 a = none) : Same H0 H1 := fun a o ha => f a o (e a o ha) fun m => by rw [h a m] at ha; cases ha
theorem _root_.L2.Same.frm1 {H0 H H1 : Hp} {p : Addr} (e : Same H0 H) (f : Frm (fun b => b = p) H H1) (h : H0 p = none) : Same H0 H1 := e.frm f fun a m => by rw [m]; exact h
theorem _root_.L2.Same.mut {H0 H : Hp} {p : Addr} {o : HO} (e : Same H0 H) (h : H0 p = none) : Same H0 (upd H p o) := fun a u ha => by
  rw [upd_ne (ne_of_none ha h)]
  exact e a u ha
theorem sz_of {n : Nat} (h : n ≤ 100000) : n ≤ sizeLine := Nat.le_trans h (by decide)
theorem sz_lt {n : Nat} (h : n < 100000) : n < sizeLine := Nat.lt_of_lt_of_le h (by decide)
theorem sz_small {n : Nat} (h : n ≤ 1000 := by decide) : n ≤ sizeLine := sz_of (Nat.le_trans h (by decide))
theorem get_map {α β : Type} {f : α → β} {l : List α} {i : Nat} {y : β} (h : (l.map f)[i]? = some y) : ∃ x, l[i]? = some x ∧ y = f x := by
  rw [List.getElem?_map] at h
  cases e : l[i]? with
  | none => rw [e] at h; cases h
  | some x => rw [e] at h; exact ⟨x, rfl, (Option.some.inj h).symm⟩
theorem get_lt {α : Type} {l : List α} {i : Nat} {x : α} (h : l[i]? = some x) : i < l.length := (List.getElem?_eq_some_iff.mp h).1
/-! ### the script's cells -/
def cellAt (ns : List Int) (k : Int) : Int := ns.getD k.toNat 0
theorem cell_at {ns : List Int} {k : Int} (h0 : 0 ≤ k) (h1 : k < ns.length) : atI (ns.map V.int) k = some (.int (cellAt ns k)) := by
  obtain ⟨j, rfl⟩ : ∃ j : Nat, k = (j : Int) := ⟨k.toNat, by omega⟩
  have hl : j < ns.length := by omega
  refine atI_nat ?_
  rw [List.getElem?_map, List.getElem?_eq_getElem hl]
  show some (V.int ns[j]) = some (V.int (cellAt ns j))
  unfold cellAt
  rw [List.getD_eq_getElem?_getD, Int.toNat_natCast, List.getElem?_eq_getElem hl]
  rfl
theorem cell_out {ns : List Int} {k : Int} (h0 : 0 ≤ k) (h1 : ¬ k < ns.length) : cellAt ns k = 0 := by
  have hl : ns.length ≤ k.toNat := by omega
  unfold cellAt
  rw [List.getD_eq_getElem?_getD, List.getElem?_eq_none hl]
  rfl

/-! ### operations at values of known kind -/
section
variable {H : Hp} {Q : VK} {K : PySem.W.Frag} {a b p : Addr} {i j k : Int} {x y v : V} {xs ys : List V} {s z : Str} {c d : Bool} {QT : Bool → Hp → Prop}
theorem b_I0 {f : Int → Int → V} : rI0 f (.int i) (.int j) H Q = Q (f i j) H := propext ⟨fun ⟨_, _, e1, e2, h⟩ => by cases e1; cases e2; exact h, fun h => ⟨_, _, rfl, rfl, h⟩⟩
theorem b_I {C : Int → Int → Prop} {f : Int → Int → V} : rI C f (.int i) (.int j) H Q = (C i j ∧ Q (f i j) H) := propext ⟨fun ⟨_, _, e1, e2, h⟩ => by cases e1; cases e2; exact h, fun h => ⟨_, _, rfl, rfl, h⟩⟩
theorem b_U {f : Int → V} : rU f (.int i) H Q = Q (f i) H := propext ⟨fun ⟨_, e1, h⟩ => by cases e1; exact h, fun h => ⟨_, rfl, h⟩⟩
theorem b_eqI : rEq (.int i) (.int j) H Q = Q (.bl (decide (i = j))) H := propext ⟨fun ⟨_, h⟩ => by rw [dec_int, Bool.beq_eq_decide_eq] at h; exact h, fun h => ⟨rfl, by rw [dec_int, Bool.beq_eq_decide_eq]; exact h⟩⟩
theorem b_neI : rNe (.int i) (.int j) H Q = Q (.bl (!decide (i = j))) H := propext ⟨fun ⟨_, h⟩ => by rw [dec_int, Bool.beq_eq_decide_eq] at h; exact h, fun h => ⟨rfl, by rw [dec_int, Bool.beq_eq_decide_eq]; exact h⟩⟩
theorem b_eqS : rEq (.str s) (.str z) H Q = Q (.bl (decide (s = z))) H := propext ⟨fun ⟨_, h⟩ => by rw [dec_str, Bool.beq_eq_decide_eq] at h; exact h, fun h => ⟨rfl, by rw [dec_str, Bool.beq_eq_decide_eq]; exact h⟩⟩
theorem b_neS : rNe (.str s) (.str z) H Q = Q (.bl (!decide (s = z))) H := propext ⟨fun ⟨_, h⟩ => by rw [dec_str, Bool.beq_eq_decide_eq] at h; exact h, fun h => ⟨rfl, by rw [dec_str, Bool.beq_eq_decide_eq]; exact h⟩⟩
theorem b_eqB : rEq (.bl c) (.bl d) H Q = Q (.bl (decide (c = d))) H := propext ⟨fun ⟨_, h⟩ => by rw [dec_bl, Bool.beq_eq_decide_eq] at h; exact h, fun h => ⟨rfl, by rw [dec_bl, Bool.beq_eq_decide_eq]; exact h⟩⟩
theorem b_neB : rNe (.bl c) (.bl d) H Q = Q (.bl (!decide (c = d))) H := propext ⟨fun ⟨_, h⟩ => by rw [dec_bl, Bool.beq_eq_decide_eq] at h; exact h, fun h => ⟨rfl, by rw [dec_bl, Bool.beq_eq_decide_eq]; exact h⟩⟩
theorem b_ixL : rIxL K (.ref a) (.int k) H Q = ∃ xs v, SqL K H a xs ∧ atI xs k = some v ∧ Q v H := propext ⟨fun ⟨_, xs, _, v, e1, e2, h⟩ => by cases e1; cases e2; exact ⟨xs, v, h⟩, fun ⟨xs, v, h⟩ => ⟨_, xs, _, v, rfl, rfl, h⟩⟩
theorem b_ixT : rIxT K (.ref a) (.int k) H Q = ∃ xs v, SqT K H a xs ∧ atI xs k = some v ∧ Q v H := propext ⟨fun ⟨_, xs, _, v, e1, e2, h⟩ => by cases e1; cases e2; exact ⟨xs, v, h⟩, fun ⟨xs, v, h⟩ => ⟨_, xs, _, v, rfl, rfl, h⟩⟩
theorem b_slL {lo hi : Option Int} : rSlL K (.ref a) lo hi H Q = ∃ xs, SqL K H a xs ∧ NewO H (.lst (cutV xs lo hi)) Q := propext ⟨fun ⟨_, xs, e1, h⟩ => by cases e1; exact ⟨xs, h⟩, fun ⟨xs, h⟩ => ⟨_, xs, rfl, h⟩⟩
theorem b_cat : rCat (.ref a) (.ref b) H Q = ∃ xs zs, H a = some (.lst xs) ∧ H b = some (.lst zs) ∧ xs.length + zs.length ≤ sizeLine ∧ NewO H (.lst (xs ++ zs)) Q :=
  propext ⟨fun ⟨_, _, xs, zs, e1, e2, h⟩ => by cases e1; cases e2; exact ⟨xs, zs, h⟩, fun ⟨xs, zs, h⟩ => ⟨_, _, xs, zs, rfl, rfl, h⟩⟩
theorem b_append : rAppend (.ref a) [v] H Q = ∃ xs, H a = some (.lst xs) ∧ xs.length < sizeLine ∧ WrO H a (.lst (xs ++ [v])) (Q .non) := propext ⟨fun ⟨_, xs, _, e1, e2, h⟩ => by cases e1; cases e2; exact ⟨xs, h⟩, fun ⟨xs, h⟩ => ⟨_, xs, _, rfl, rfl, h⟩⟩
theorem b_tyL : tyV K "list" (.ref p) H = ∃ xs, SqL K H p xs := propext ⟨fun h => by
  rcases h with ⟨_, h⟩ | ⟨e, _⟩ | ⟨e, _⟩ | ⟨e, _⟩
  · exact h
  · exact absurd e (by decide)
  · exact absurd e (by decide)
  · exact absurd e (by decide), fun h => .inl ⟨rfl, h⟩⟩
theorem b_bl {P : Bool → Prop} : (∃ e, V.bl c = V.bl e ∧ P e) = P c := propext ⟨fun ⟨_, e1, h⟩ => by cases e1; exact h, fun h => ⟨_, rfl, h⟩⟩
theorem b_int {P : Int → Prop} : (∃ e, V.int i = V.int e ∧ P e) = P i := propext ⟨fun ⟨_, e1, h⟩ => by cases e1; exact h, fun h => ⟨_, rfl, h⟩⟩
theorem b_some {α : Type} {x : α} {P : α → Prop} : (∃ e, some x = some e ∧ P e) = P x := propext ⟨fun ⟨_, e1, h⟩ => by cases e1; exact h, fun h => ⟨_, rfl, h⟩⟩
theorem b_some2 {α : Type} {x : α} {P : α → Prop} : (∃ e, some (some x) = some (some e) ∧ P e) = P x := propext ⟨fun ⟨_, e1, h⟩ => by cases e1; exact h, fun h => ⟨_, rfl, h⟩⟩
theorem b_at0 : atI (x :: xs) 0 = some x := atI_nat (j := 0) rfl
theorem b_at1 : atI (x :: y :: xs) 1 = some y := atI_nat (j := 1) rfl
theorem b_at2 {z : V} : atI (x :: y :: z :: xs) 2 = some z := atI_nat (j := 2) rfl
theorem b_at3 {z w : V} : atI (x :: y :: z :: w :: xs) 3 = some w := atI_nat (j := 3) rfl
theorem b_at4 {z w v : V} : atI (x :: y :: z :: w :: v :: xs) 4 = some v := atI_nat (j := 4) rfl
end

/-! ### loops -/
section
variable {σ : L2.St} {H : Hp} {Q : VK} {D : Ends} {K : PySem.W.Frag} {a b p : Addr} {i j k : Int} {x y v : V} {xs ys : List V} {g : TG} {tb : TS} {te : TE} {tt : TT} {ta : TA} {wi : TI} {J : It} {vs : List Nat} {R : It → Hp → Prop}
def Loop (J : It) (g : TG) (tb : TS) (D : Ends) (σ : L2.St) (H : Hp) : Prop := ∃ W : Nat → Nat → L2.St → Hp → Prop, (∃ m, W 0 m σ H) ∧ ∀ i m σ H, W i m σ H →
  (J.stop i H ∧ D.nx σ H) ∨ (J.go i H ∧ ∃ N : L2.St → Hp → Prop, (∀ σ' H', N σ' H' → ∃ m', m' < m ∧ W (i + 1) m' σ' H') ∧ ∀ x H', J.yld i H x H' → g x σ H' fun σ2 H2 => tb { D with nx := N, ct := N, bk := D.nx } σ2 H2)
theorem a_for : tFor wi g tb D σ H = wi σ H fun J H1 => Loop J g tb D σ H1 := rfl
def LoopC (J : It) (g : TG) (tt : TT) (te : TE) (vs : List Nat) (σ : L2.St) (Q : VK) (H1 : Hp) : Prop := ∀ D, H1 D = none → ∃ W : Nat → Nat → Hp → Prop, (∃ m, W 0 m (upd H1 D (.lst []))) ∧ ∀ i m H, W i m H →
  (J.stop i H ∧ Q (.ref D) H) ∨ (J.go i H ∧ ∃ Nx : Hp → Prop, (∀ H', Nx H' → ∃ m', m' < m ∧ W (i + 1) m' H') ∧ ∀ x H', J.yld i H x H' → g x (wipe σ vs) H' fun σ2 H2 => wipe σ2 vs = wipe σ vs ∧ tt σ2 H2 fun b H3 =>
    if b = true then te σ2 H3 fun y H4 => ∃ acc, H4 D = some (.lst acc) ∧ acc.length < sizeLine ∧ Nx (upd H4 D (.lst (acc ++ [y]))) else Nx H3)
theorem a_lc : tLc wi g tt te vs σ H Q = wi σ H fun J H1 => LoopC J g tt te vs σ Q H1 := rfl
theorem a_iList {tl : TE} : iList K tl σ H R = tl σ H fun x H1 => ∃ a, x = .ref a ∧ (∃ xs, SqL K H1 a xs) ∧ R (Itl K a) H1 := rfl
theorem a_iTup {tl : TE} : iTup K tl σ H R = tl σ H fun x H1 => ∃ a, x = .ref a ∧ (∃ xs, SqT K H1 a xs) ∧ R (Itt K a) H1 := rfl
theorem a_iRng1 : iRng1 ta σ H R = ta σ H fun vs H1 => ∃ j : Int, vs = [.int j] ∧ -(2 ^ 62) ≤ j ∧ j < 2 ^ 62 ∧ R (Itr 0 j.toNat) H1 := rfl
theorem a_iRng2 : iRng2 ta σ H R = ta σ H fun vs H1 => ∃ i j : Int, vs = [.int i, .int j] ∧ (-(2 ^ 62) ≤ i ∧ i < 2 ^ 62 ∧ -(2 ^ 62) ≤ j ∧ j < 2 ^ 62) ∧ R (Itr i (j - i).toNat) H1 := rfl
theorem a_iRng3 : iRng3 ta σ H R = ta σ H fun vs H1 => ∃ (i j c : Int) (n : Nat), vs = [.int i, .int j, .int c] ∧ RgC i j c n ∧ R (Itc i c n) H1 := rfl
theorem a_iZip : iZip K ta σ H R = ta σ H fun vs H1 => ∃ a b xs ys, vs = [.ref a, .ref b] ∧ SqL K H1 a xs ∧ SqL K H1 b ys ∧ R (Itz K a b) H1 := rfl
theorem a_iEnum : iEnum K ta σ H R = ta σ H fun vs H1 => ∃ a xs, vs = [.ref a] ∧ SqL K H1 a xs ∧ R (Ite K a) H1 := rfl
theorem a_iStr : iStr te σ H R = te σ H fun v H1 => ∃ x, v = .str x ∧ R (Its x) H1 := rfl
theorem b_rng1 {P : Int → Prop} : (∃ e : Int, [V.int i] = [V.int e] ∧ P e) = P i := propext ⟨fun ⟨_, e1, h⟩ => by cases e1; exact h, fun h => ⟨_, rfl, h⟩⟩
theorem b_rng2 {P : Int → Int → Prop} : (∃ e f : Int, [V.int i, V.int j] = [V.int e, V.int f] ∧ P e f) = P i j := propext ⟨fun ⟨_, _, e1, h⟩ => by cases e1; exact h, fun h => ⟨_, _, rfl, h⟩⟩
theorem b_rng3 {P : Int → Int → Int → Nat → Prop} : (∃ (e f c : Int) (n : Nat), [V.int i, V.int j, V.int k] = [V.int e, V.int f, V.int c] ∧ P e f c n) = ∃ n, P i j k n := propext ⟨fun ⟨_, _, _, n, e1, h⟩ => by cases e1; exact ⟨n, h⟩, fun ⟨n, h⟩ => ⟨_, _, _, n, rfl, h⟩⟩
theorem b_zip {P : Addr → Addr → List V → List V → Prop} : (∃ (e f : Addr) (xs ys : List V), [V.ref a, V.ref b] = [V.ref e, V.ref f] ∧ P e f xs ys) = ∃ xs ys, P a b xs ys := propext ⟨fun ⟨_, _, xs, ys, e1, h⟩ => by cases e1; exact ⟨xs, ys, h⟩, fun ⟨xs, ys, h⟩ => ⟨_, _, xs, ys, rfl, h⟩⟩
theorem b_enum {P : Addr → List V → Prop} : (∃ (e : Addr) (xs : List V), [V.ref a] = [V.ref e] ∧ P e xs) = ∃ xs, P a xs := propext ⟨fun ⟨_, xs, e1, h⟩ => by cases e1; exact ⟨xs, h⟩, fun ⟨xs, h⟩ => ⟨_, xs, rfl, h⟩⟩
theorem b_ref {P : Addr → Prop} : (∃ e : Addr, V.ref a = V.ref e ∧ P e) = P a := propext ⟨fun ⟨_, e1, h⟩ => by cases e1; exact h, fun h => ⟨_, rfl, h⟩⟩
theorem b_str {z : Str} {P : Str → Prop} : (∃ e : Str, V.str z = V.str e ∧ P e) = P z := propext ⟨fun ⟨_, e1, h⟩ => by cases e1; exact h, fun h => ⟨_, rfl, h⟩⟩
theorem b_gTup {n : Nat} {t : TGs} {q : L2.St → Hp → Prop} : gTup K n t (.ref a) σ H q = ∃ xs, SqT K H a xs ∧ xs.length = n ∧ t xs σ H q := propext ⟨fun ⟨_, xs, e1, h⟩ => by cases e1; exact ⟨xs, h⟩, fun ⟨xs, h⟩ => ⟨_, xs, rfl, h⟩⟩
theorem b_gCons {t : TG} {u : TGs} {q : L2.St → Hp → Prop} : gCons t u (x :: xs) σ H q = t x σ H fun σ' H' => u xs σ' H' q := propext ⟨fun ⟨_, _, e1, h⟩ => by cases e1; exact h, fun h => ⟨_, _, rfl, h⟩⟩
theorem b_gNil {q : L2.St → Hp → Prop} : gNil [] σ H q = q σ H := propext ⟨fun h => h.2, fun h => ⟨rfl, h⟩⟩
theorem a_yes {QT : Bool → Hp → Prop} : tYes σ H QT = QT true H := rfl
theorem a_wipe0 : wipe σ [] = σ := rfl
theorem a_wipe1 {n : Nat} {ns : List Nat} : wipe σ (n :: ns) = (wipe σ ns).set n none := rfl
theorem loop_list (Pv : Nat → L2.St → Hp → Prop) (h0 : Pv 0 σ H) (hl : ∀ i σ H, i ≤ xs.length → Pv i σ H → SqL K H a xs)
    (hs : ∀ i x σ H, xs[i]? = some x → Pv i σ H → g x σ H fun σ2 H2 => tb { D with nx := Pv (i + 1), ct := Pv (i + 1), bk := D.nx } σ2 H2) (hd : ∀ σ H, Pv xs.length σ H → D.nx σ H) : Loop (Itl K a) g tb D σ H := for_list Pv h0 hl hs hd
theorem loop_tup (Pv : Nat → L2.St → Hp → Prop) (h0 : Pv 0 σ H) (hl : ∀ i σ H, i ≤ xs.length → Pv i σ H → SqT K H a xs)
    (hs : ∀ i x σ H, xs[i]? = some x → Pv i σ H → g x σ H fun σ2 H2 => tb { D with nx := Pv (i + 1), ct := Pv (i + 1), bk := D.nx } σ2 H2) (hd : ∀ σ H, Pv xs.length σ H → D.nx σ H) : Loop (Itt K a) g tb D σ H := for_tup Pv h0 hl hs hd
theorem loop_range {lo : Int} {n : Nat} (Pv : Nat → L2.St → Hp → Prop) (h0 : Pv 0 σ H)
    (hs : ∀ i σ H, i < n → Pv i σ H → g (.int (lo + i)) σ H fun σ2 H2 => tb { D with nx := Pv (i + 1), ct := Pv (i + 1), bk := D.nx } σ2 H2) (hd : ∀ σ H, Pv n σ H → D.nx σ H) : Loop (Itr lo n) g tb D σ H := for_range Pv h0 hs hd
theorem loop_rangeC {lo c : Int} {n : Nat} (Pv : Nat → L2.St → Hp → Prop) (h0 : Pv 0 σ H)
    (hs : ∀ i σ H, i < n → Pv i σ H → g (.int (lo + (i : Nat) * c)) σ H fun σ2 H2 => tb { D with nx := Pv (i + 1), ct := Pv (i + 1), bk := D.nx } σ2 H2) (hd : ∀ σ H, Pv n σ H → D.nx σ H) : Loop (Itc lo c n) g tb D σ H := for_rangeC Pv h0 hs hd
theorem loop_zip (hl : xs.length = ys.length) (Pv : Nat → L2.St → Hp → Prop) (h0 : Pv 0 σ H) (hq : ∀ i σ H, Pv i σ H → SqL K H a xs ∧ SqL K H b ys)
    (hs : ∀ (i : Nat) (x y : V) (T : Addr) (σ : L2.St) (H H' : Hp), xs[i]? = some x → ys[i]? = some y → Pv i σ H → H T = none → Same H H' → H' T = some (.tup [x, y]) → g (.ref T) σ H' fun σ2 H2 => tb { D with nx := Pv (i + 1), ct := Pv (i + 1), bk := D.nx } σ2 H2) (hd : ∀ σ H, Pv xs.length σ H → D.nx σ H) :
    Loop (Itz K a b) g tb D σ H := RZ.for_zipL hl Pv h0 hq (fun i x y T σ H hx hy hp hT => hs i x y T σ H _ hx hy hp hT (Same.new hT) upd_same) hd
/-- a range's turns by a step of c -/
theorem rgc_of {i j c : Int} (hc : 0 < c) (hc2 : c < 1000) (hi : 0 ≤ i) (hi2 : i < 1000) (hj : -1000 < j) (hj2 : j < 1000) : ∃ n, RgC i j c n ∧ n ≤ 1000 ∧ ∀ m : Nat, m < n → i + m * c < j ∧ 0 ≤ (m : Int) * c := by
  have key : ∀ q : Int, 0 ≤ q → 0 ≤ q / c ∧ q / c * c ≤ q ∧ q / c ≤ q := fun q hq => by
    refine ⟨Int.ediv_nonneg hq (by omega), ?_, ?_⟩
    · exact Int.ediv_mul_le q (by omega)
    · exact Int.ediv_le_self c hq
  by_cases h : i < j
  · obtain ⟨k1, k2, k3⟩ := key (j - i - 1) (by omega)
    have e : Builtin.Range.rangeSize i j c = (j - i - 1) / c + 1 := by
      unfold Builtin.Range.rangeSize
      rw [if_pos (show c > 0 from hc), if_pos h]
    refine ⟨((j - i - 1) / c + 1).toNat, ⟨by omega, by omega, ?_, ?_⟩, by omega, fun m hm => ?_⟩
    · unfold Builtin.Range.small
      rw [e]
      simp only [Builtin.Range.rangeFitsLong, Bool.and_eq_true, Bool.or_eq_true, decide_eq_true_eq, beq_iff_eq, show c > 0 from hc, if_true]
      omega
    · rw [e]; omega
    · have h1 : (m : Int) ≤ (j - i - 1) / c := by omega
      have h2 : (m : Int) * c ≤ (j - i - 1) / c * c := Int.mul_le_mul_of_nonneg_right h1 (by omega)
      exact ⟨by omega, Int.mul_nonneg (by omega) (by omega)⟩
  · have e : Builtin.Range.rangeSize i j c = 0 := by
      unfold Builtin.Range.rangeSize
      rw [if_pos (show c > 0 from hc), if_neg h]
    refine ⟨0, ⟨by omega, by omega, ?_, ?_⟩, by omega, fun m hm => absurd hm (Nat.not_lt_zero m)⟩
    · unfold Builtin.Range.small
      rw [e]
      simp only [Builtin.Range.rangeFitsLong, Bool.and_eq_true, Bool.or_eq_true, decide_eq_true_eq, beq_iff_eq, show c > 0 from hc, if_true]
      omega
    · rw [e]; rfl
end
/-! ### comprehensions over data -/
section
variable {σ : L2.St} {H : Hp} {Q : VK} {K : PySem.W.Frag} {a : Addr} {xs : List V} {g : TG} {tt : TT} {te : TE} {vs : List Nat} {α β : Type} [DecidableEq α] [PySem.W.Datum α] [DecidableEq β] [PySem.W.Datum β] [Flat β]
open PySem.W (Datum)
/-- over a list of data: each kept element is F of the item -/
theorem comp_list (as : List α) (F : α → β) (keep : α → Bool) (hs : SqL K H a xs) (hv : DvL K H xs as) (hz : as.length ≤ 100000)
    (el : ∀ (v : V) (x : α) (H' : Hp), Same H H' → Dv K H' v x → x ∈ as → ∀ (R : Bool → VK) (R0 : Hp → Prop), (∀ y H'', keep x = true → Same H' H'' → Dv K H'' y (F x) → R true y H'') → (∀ H'', keep x = false → Same H' H'' → R0 H'') →
      g v (wipe σ vs) H' fun σ2 H2 => wipe σ2 vs = wipe σ vs ∧ tt σ2 H2 fun b H3 => if b = true then te σ2 H3 (R true) else R0 H3)
    (hd : ∀ D ys H', H D = none → Same H H' → H' D = some (.lst ys) → DvL K H' ys ((as.filter keep).map F) → Q (.ref D) H') : LoopC (Itl K a) g tt te vs σ Q H := by
  intro D hD
  refine lc_list (K := K) (a := a) (xs := xs) (fun i H' => Same H H' ∧ ∃ ys, H' D = some (.lst ys) ∧ DvL K H' ys (((as.take i).filter keep).map F)) ⟨Same.new hD, [], upd_same, ?_⟩ (fun i H' _ h => h.1.seq hs) ?_ ?_
  · rw [List.take_zero, List.filter_nil, List.map_nil]
    exact .nil
  · rintro i v H' hi ⟨s1, ys, h1, h2⟩
    obtain ⟨x, hx, dx⟩ := hv.at hi
    have hl := get_lt hx
    have et : as.take (i + 1) = as.take i ++ [x] := by rw [List.take_add_one, hx]; rfl
    refine el v x H' s1 (dx.same s1) (List.mem_of_getElem? hx) (fun b y H4 => ∃ acc, H4 D = some (.lst acc) ∧ acc.length < sizeLine ∧ (Same H (upd H4 D (.lst (acc ++ [y]))) ∧ ∃ ys, (upd H4 D (.lst (acc ++ [y]))) D = some (.lst ys) ∧ DvL K (upd H4 D (.lst (acc ++ [y]))) ys (((as.take (i + 1)).filter keep).map F)))
      (fun H4 => Same H H4 ∧ ∃ ys, H4 D = some (.lst ys) ∧ DvL K H4 ys (((as.take (i + 1)).filter keep).map F)) (fun y H4 hk s2 dy => ?_) (fun H4 hk s2 => ?_)
    · have hn := h2.length
      have hb : ys.length ≤ i := by
        rw [hn, List.length_map]
        exact Nat.le_trans (List.length_filter_le _ _) (by rw [List.length_take]; omega)
      refine ⟨ys, s2 _ _ h1, sz_lt (by omega), (s1.trans s2).mut hD, ys ++ [y], upd_same, ?_⟩
      rw [et, List.filter_append, List.map_append, List.filter_cons_of_pos hk]
      have s3 : Frm (fun b => b = D) H4 (upd H4 D (.lst (ys ++ [y]))) := Frm.upd (s2 _ _ h1) (fun z => z)
      exact ((h2.same s2).frm s3).snoc (dy.frm s3)
    · refine ⟨s1.trans s2, ys, s2 _ _ h1, ?_⟩
      rw [et, List.filter_append, List.filter_cons_of_neg (by rw [hk]; exact Bool.false_ne_true), List.filter_nil, List.append_nil]
      exact h2.same s2
  · rintro H' ⟨s1, ys, h1, h2⟩
    rw [List.take_of_length_le (by rw [hv.length]; exact Nat.le_refl _)] at h2
    exact hd D ys H' hD s1 h1 h2
/-- over a range: the i-th element is f i -/
theorem comp_range {lo : Int} {n : Nat} (f : Nat → β) (hz : n ≤ 100000)
    (el : ∀ (i : Nat) (H' : Hp), i < n → Same H H' → ∀ (R : VK), (∀ y H'', Same H' H'' → Dv K H'' y (f i) → R y H'') →
      g (.int (lo + i)) (wipe σ vs) H' fun σ2 H2 => wipe σ2 vs = wipe σ vs ∧ te σ2 H2 R)
    (hd : ∀ D ys H', H D = none → Same H H' → H' D = some (.lst ys) → DvL K H' ys ((List.range n).map f) → Q (.ref D) H') : LoopC (Itr lo n) g tYes te vs σ Q H := by
  intro D hD
  refine lc_range (lo := lo) (n := n) (fun i H' => Same H H' ∧ ∃ ys, H' D = some (.lst ys) ∧ DvL K H' ys ((List.range i).map f)) ⟨Same.new hD, [], upd_same, .nil⟩ ?_ ?_
  · rintro i H' hi ⟨s1, ys, h1, h2⟩
    refine el i H' hi s1 (fun y H4 => ∃ acc, H4 D = some (.lst acc) ∧ acc.length < sizeLine ∧ (Same H (upd H4 D (.lst (acc ++ [y]))) ∧ ∃ ys, (upd H4 D (.lst (acc ++ [y]))) D = some (.lst ys) ∧ DvL K (upd H4 D (.lst (acc ++ [y]))) ys ((List.range (i + 1)).map f))) fun y H4 s2 dy => ?_
    have hn := h2.length
    rw [List.length_map, List.length_range] at hn
    refine ⟨ys, s2 _ _ h1, sz_lt (by omega), (s1.trans s2).mut hD, ys ++ [y], upd_same, ?_⟩
    have s3 : Frm (fun b => b = D) H4 (upd H4 D (.lst (ys ++ [y]))) := Frm.upd (s2 _ _ h1) (fun z => z)
    rw [List.range_succ, List.map_append]
    exact ((h2.same s2).frm s3).snoc (dy.frm s3)
  · rintro H' ⟨s1, ys, h1, h2⟩
    exact hd D ys H' hD s1 h1 h2
end
theorem cx_K {CX : CXT} {P : Program} {w : World} {K : PySem.W.Frag} {mg : Str → Option Value} {base : Heap} {N : List Str} {qual : Str} {scope : Scope} {f : Addr} {cd : Value} {A : Around} {outer : List Env} {s : Shared} {H : Hp} {E : XK} :
    (cxOf CX P w K mg base N qual scope f cd A outer s H E).K = K := rfl
/-! ### odds -/
theorem cutV_drop {xs : List V} {k : Nat} : cutV xs (some (k : Int)) none = xs.drop k := by
  unfold cutV
  rw [HT.sIx_nat, HT.sIx_none, List.take_of_length_le (by rw [List.length_drop]; omega)]
  by_cases h : k ≤ xs.length
  · rw [Nat.min_eq_left h]
  · rw [Nat.min_eq_right (by omega), List.drop_eq_nil_of_le (Nat.le_refl _), List.drop_eq_nil_of_le (by omega)]
theorem cutV_take {xs : List V} {k : Nat} : cutV xs none (some (k : Int)) = xs.take k := by
  unfold cutV
  rw [HT.sIx_nat, HT.sIx_none, List.drop_zero, Nat.sub_zero]
  by_cases h : k ≤ xs.length
  · rw [Nat.min_eq_left h]
  · rw [Nat.min_eq_right (by omega), List.take_of_length_le (Nat.le_refl _), List.take_of_length_le (by omega)]
theorem pick2 (a b i : Int) : ∃ z, atI [V.int a, V.int b] (i % 2) = some (.int z) := by
  have h : i % 2 = 0 ∨ i % 2 = 1 := by omega
  rcases h with h | h <;> rw [h]
  · exact ⟨a, b_at0⟩
  · exact ⟨b, b_at1⟩
theorem pick3 (a b c i : Int) : ∃ z, atI [V.int a, V.int b, V.int c] (i % 3) = some (.int z) := by
  have h : i % 3 = 0 ∨ i % 3 = 1 ∨ i % 3 = 2 := by omega
  rcases h with h | h | h <;> rw [h]
  · exact ⟨a, b_at0⟩
  · exact ⟨b, b_at1⟩
  · exact ⟨c, b_at2⟩
end Y

set_option Elab.async false
set_option linter.all false
set_option maxRecDepth 100000
/-! Texts: parts at blanks, the cut at a colon, figures; a mail's text and what it tells. -/
namespace Tx
open PySem PySem.Builtin PySem.Builtin.Str
/-- parts at blanks -/
def sp : List Nat → List (List Nat)
  | [] => [[]]
  | c :: r => if c = 32 then [] :: sp r else match sp r with
    | [] => [[c]]
    | w :: ws => (c :: w) :: ws
theorem sp_ne (l : List Nat) : sp l ≠ [] := by
  cases l with
  | nil => simp [sp]
  | cons c r =>
    rw [sp]
    split
    · simp
    · split <;> simp
def hd (acc : List Nat) : List (List Nat) → List (List Nat)
  | [] => [acc]
  | w :: ws => (acc ++ w) :: ws
theorem spl_sp : ∀ (l acc : List Nat), TL.spl [32] 0 acc l = hd acc (sp l)
  | [], acc => by rw [TL.spl_nil]; simp [sp, hd]
  | c :: r, acc => by
    by_cases h : c = 32
    · subst h
      rw [TL.spl_hit (by rfl), sp, if_pos rfl]
      show acc :: TL.spl [32] 0 [] r = _
      rw [spl_sp r []]
      cases e : sp r with
      | nil => exact absurd e (sp_ne r)
      | cons w ws => simp [hd]
    · rw [TL.spl_miss (TL.pre_of_head _ _ h), spl_sp r, sp, if_neg h]
      cases e : sp r with
      | nil => exact absurd e (sp_ne r)
      | cons w ws => simp [hd]
open SX (S)
theorem split_sp (x : Str) : Txt.split x ⟨#[32]⟩ = (sp (TL.tl x)).map S := by
  refine TL.map_tl_inj ?_
  rw [TL.split_spl x _ (by simp) (TL.kind_ok (by simp))]
  show TL.spl [32] 0 [] (TL.tl x) = _
  rw [spl_sp]
  cases e : sp (TL.tl x) with
  | nil => exact absurd e (sp_ne _)
  | cons w ws =>
    simp only [hd, List.nil_append, List.map_map]
    rw [show (TL.tl ∘ S) = _root_.id from rfl, List.map_id]
/-- cut at the first colon with a blank behind it -/
def pa : List Nat → Option (List Nat × List Nat)
  | [] => none
  | c :: r => if c = 58 ∧ r.head? = some 32 then some ([], r.drop 1) else (pa r).map fun q => (c :: q.1, q.2)
theorem pre_two (c : Nat) (r : List Nat) : TL.pre [58, 32] (c :: r) = decide (c = 58 ∧ r.head? = some 32) := by
  unfold TL.pre
  cases r with
  | nil => simp
  | cons d r =>
    rw [Bool.eq_iff_iff]
    simp
theorem par_pa : ∀ (l acc : List Nat), TL.par [58, 32] acc l = (pa l).map fun q => (acc ++ q.1, q.2)
  | [], acc => rfl
  | c :: r, acc => by
    by_cases h : c = 58 ∧ r.head? = some 32
    · rw [TL.par_hit (by rw [pre_two, decide_eq_true h]), pa, if_pos h]
      simp
    · rw [TL.par_miss (by rw [pre_two, decide_eq_false h]), pa, if_neg h, par_pa r, Option.map_map]
      congr 1
      funext q
      simp
theorem partition_pa (x : Str) : Txt.partition x ⟨#[58, 32]⟩ = match pa (TL.tl x) with
    | some (a, b) => (S a, ⟨#[58, 32]⟩, S b)
    | none => (x, Str.empty, Str.empty) := by
  rw [TL.partition_par x _ (by simp)]
  show (match TL.par [58, 32] [] (TL.tl x) with | some (a, b) => _ | none => _) = _
  rw [par_pa]
  cases pa (TL.tl x) <;> simp
/-- the cut, told by the parts -/
def cut : List (List Nat) → Option (List (List Nat) × List (List Nat))
  | [] => none
  | w :: ws => if ws ≠ [] ∧ w.getLast? = some 58 then some ([w.dropLast], ws) else (cut ws).map fun q => (w :: q.1, q.2)
theorem pa_cut : ∀ l : List Nat, (pa l).map (fun q => (sp q.1, sp q.2)) = cut (sp l)
  | [] => by simp [pa, sp, cut]
  | c :: r => by
    have ih := pa_cut r
    by_cases h : c = 32
    · subst h
      rw [pa, if_neg (by simp), Option.map_map, sp, if_pos rfl, cut, if_neg (by simp), ← ih, Option.map_map]
      congr 1
    · rw [sp, if_neg h]
      by_cases k : c = 58 ∧ r.head? = some 32
      · obtain ⟨rfl, k⟩ := k
        cases r with
        | nil => simp at k
        | cons d r =>
          simp only [List.head?_cons, Option.some.injEq] at k
          subst k
          rw [pa, if_pos ⟨rfl, rfl⟩, sp, if_pos rfl]
          show _ = cut ([58] :: sp r)
          rw [cut, if_pos ⟨sp_ne r, rfl⟩]
          simp [sp]
      · rw [pa, if_neg k, Option.map_map]
        cases e : sp r with
        | nil => exact absurd e (sp_ne r)
        | cons w ws =>
          show _ = cut ((c :: w) :: ws)
          rw [e] at ih
          have hx : ∀ q : List Nat × List Nat, (sp (c :: q.1)) = hd [c] (sp q.1) := fun q => by
            rw [sp, if_neg h]
            cases sp q.1 <;> simp [hd]
          have e1 : Option.map ((fun q : List Nat × List Nat => (sp q.1, sp q.2)) ∘ fun q => (c :: q.1, q.2)) (pa r) = ((pa r).map (fun q => (sp q.1, sp q.2))).map fun q => (hd [c] q.1, q.2) := by
            rw [Option.map_map]
            congr 1
            funext q
            simp only [Function.comp]
            rw [hx]
          rw [e1, ih, cut, cut]
          by_cases hw : ws = []
          · subst hw
            rw [if_neg (by simp), if_neg (by simp)]
            simp [cut]
          · cases w with
            | nil =>
              have hr : r.head? = some 32 := by
                cases r with
                | nil => simp [sp] at e; exact absurd e hw
                | cons d r =>
                  rw [sp] at e
                  by_cases hd32 : d = 32
                  · rw [hd32]; rfl
                  · rw [if_neg hd32] at e
                    split at e <;> simp at e
              have hc : c ≠ 58 := fun z => k ⟨z, hr⟩
              rw [if_neg (by simp), if_neg (by simp [hc]), Option.map_map]
              congr 1
            | cons d w =>
              have hg : (c :: d :: w).getLast? = (d :: w).getLast? := by simp
              rw [hg]
              by_cases g : (d :: w).getLast? = some 58
              · rw [if_pos ⟨hw, g⟩, if_pos ⟨hw, g⟩]
                simp [hd]
              · rw [if_neg (fun z => g z.2), if_neg (fun z => g z.2), Option.map_map]
                congr 1
/-- parts without blanks, joined -/
theorem sp_free {p : List Nat} (h : 32 ∉ p) : sp p = [p] := by
  induction p with
  | nil => rfl
  | cons c r ih =>
    rw [sp, if_neg (fun z => h (by rw [z]; exact List.mem_cons_self)), ih (fun z => h (List.mem_cons_of_mem _ z))]
theorem sp_cat {p q : List Nat} (h : 32 ∉ p) : sp (p ++ 32 :: q) = p :: sp q := by
  induction p with
  | nil => simp [sp]
  | cons c r ih =>
    rw [List.cons_append, sp, if_neg (fun z => h (by rw [z]; exact List.mem_cons_self)), ih (fun z => h (List.mem_cons_of_mem _ z))]

/-! ### figures -/
abbrev Mk := Int × Int
def dig (c : Nat) : Bool := decide (48 ≤ c) && decide (c ≤ 57)
/-- the number that a part tells -/
def num (z : List Nat) : Option Int :=
  if z ≠ [] ∧ z.all dig = true ∧ z.length ≤ 30 ∧ (z.head? = some 48 → z = [48]) then some (NumText.digitsVal z : Nat) else none
theorem all_digits {z : List Nat} (h : z.all dig = true) : NumText.AllDigits z := fun c hc => by
  have e := List.all_eq_true.mp h c hc
  unfold dig at e
  rw [Bool.and_eq_true, decide_eq_true_eq, decide_eq_true_eq] at e
  exact e
theorem digit_ascii : ∀ c, c < 128 → PySem.Unicode.isDigit c = dig c := by decide +kernel
theorem isdig (z : List Nat) (h : Txt.isascii (S z) = true) : Txt.isdigit (S z) = (decide (z ≠ []) && z.all dig) := by
  unfold Txt.isascii at h
  unfold Txt.isdigit
  have e : ∀ l : List Nat, l.all (· < 128) = true → l.all PySem.Unicode.isDigit = l.all dig := fun l hl => by
    induction l with
    | nil => rfl
    | cons c r ih =>
      rw [List.all_cons, Bool.and_eq_true, decide_eq_true_eq] at hl
      rw [List.all_cons, List.all_cons, digit_ascii c hl.1, ih hl.2]
  have e1 : (S z).cps.all (· < 128) = z.all (· < 128) := by simp
  have e2 : (S z).cps.all PySem.Unicode.isDigit = z.all PySem.Unicode.isDigit := by simp
  rw [e1] at h
  rw [e2, e z h]
  cases z with
  | nil => rfl
  | cons c r => simp [Str.length]
theorem ascii_dig {z : List Nat} (h : z.all dig = true) : Txt.isascii (S z) = true := by
  unfold Txt.isascii
  have e1 : (S z).cps.all (· < 128) = z.all (· < 128) := by simp
  rw [e1, List.all_eq_true]
  intro c hc
  have k := all_digits h c hc
  exact decide_eq_true (by omega)
theorem num_int {z : List Nat} {n : Int} (h : num z = some n) : intText? (S z) = some n ∧ z.length ≤ 30 := by
  unfold num at h
  split at h
  · rename_i c
    obtain ⟨c1, c2, c3, c4⟩ := c
    cases h
    have k := intText_digits (x := S z) (all_digits c2) c1 (by rw [TL.len_tl]; exact Nat.le_trans c3 (by decide))
    exact ⟨k, c3⟩
  · cases h
theorem num_numL {n : Nat} (h : n < 10 ^ 30) : num (TL.numL n) = some (n : Int) := by
  have h1 : (TL.numL n).all dig = true := by
    rw [List.all_eq_true]
    intro c hc
    have k := TL.numL_digits n c hc
    unfold dig
    rw [Bool.and_eq_true, decide_eq_true_eq, decide_eq_true_eq]
    exact k
  have h2 : (TL.numL n).head? = some 48 → TL.numL n = [48] := by
    intro hh
    by_cases h10 : n < 10
    · rw [TL.numL_lt h10] at hh ⊢
      exact congrArg (fun x => [x]) (Option.some.inj hh)
    · exfalso
      have key : ∀ m : Nat, 0 < m → (TL.numL m).head? ≠ some 48 := by
        intro m
        induction m using Nat.strongRecOn with
        | _ m ih =>
          intro hm
          by_cases hl : m < 10
          · rw [TL.numL_lt hl]
            intro z
            have := Option.some.inj z
            omega
          · have k := ih (m / 10) (by omega) (by omega)
            rw [TL.numL_step (by omega)]
            cases e : TL.numL (m / 10) with
            | nil => exact absurd e (TL.numL_ne _)
            | cons d r =>
              rw [e] at k
              exact k
      exact key n (by omega) hh
  unfold num
  rw [if_pos ⟨TL.numL_ne n, h1, TL.numL_len (by decide) h, h2⟩, TL.numL_val]
theorem num_none {z : List Nat} (h : ¬ (z ≠ [] ∧ z.all dig = true ∧ z.length ≤ 30 ∧ (z.head? = some 48 → z = [48]))) : num z = none := by
  unfold num
  rw [if_neg h]
theorem num_no1 {z : List Nat} (h : Txt.isascii (S z) = false) : num z = none := num_none fun ⟨_, h2, _⟩ => by rw [ascii_dig h2] at h; cases h
theorem num_no2 {z : List Nat} (h : Txt.isascii (S z) = true) (k : Txt.isdigit (S z) = false) : num z = none := num_none fun ⟨h1, h2, _⟩ => by
  rw [isdig z h, decide_eq_true h1, h2] at k
  cases k
theorem num_no3 {z : List Nat} (h : 30 < z.length) : num z = none := num_none fun ⟨_, _, h3, _⟩ => by omega
theorem num_no4 {z : List Nat} (h : z.head? = some 48) (k : z ≠ [48]) : num z = none := num_none fun ⟨_, _, _, h4⟩ => k (h4 h)
theorem num_yes {z : List Nat} (h1 : Txt.isascii (S z) = true) (h2 : Txt.isdigit (S z) = true) (h3 : ¬ 30 < z.length) (h4 : z.head? = some 48 → z = [48]) : num z = some ((NumText.digitsVal z : Nat) : Int) := by
  rw [isdig z h1, Bool.and_eq_true, decide_eq_true_eq] at h2
  unfold num
  rw [if_pos ⟨h2.1, h2.2, by omega, h4⟩]
theorem str0 : Str.ofString "0" = S [48] := by decide +kernel
theorem one0 (c : Nat) : ((⟨#[c]⟩ : Str) = Str.ofString "0") ↔ c = 48 := by
  rw [str0]
  show (S [c] = S [48]) ↔ _
  constructor
  · intro h
    have e : TL.tl (S [c]) = TL.tl (S [48]) := by rw [h]
    have e : [c] = [48] := e
    simpa using e
  · intro h; rw [h]
theorem eqS {a b : List Nat} : S a = S b ↔ a = b := ⟨fun h => by
  have e : TL.tl (S a) = TL.tl (S b) := by rw [h]
  exact e, fun h => by rw [h]⟩
/-! ### mails -/
structure Mail where
  w : Str
  l : Int
  a : Int
  b : Int
  m : Option Mk
  deriving DecidableEq
theorem Mail.same : ∀ {p q : Mail}, p.w = q.w → p.l = q.l → p.a = q.a → p.b = q.b → p.m = q.m → p = q
  | ⟨_, _, _, _, _⟩, ⟨_, _, _, _, _⟩, rfl, rfl, rfl, rfl, rfl => rfl
open PySem.W in
instance : Datum Mail where
  toD x := .tuple [.str x.w, .int x.l, .int x.a, .int x.b, Datum.toD x.m]
  plain x := by simp only [PyData.plain, PyData.plainAll, Datum.plain, Bool.and_self]
  eqv p q := by
    have e1 : PyData.eqv (.str p.w) (.str q.w) = decide (p.w = q.w) := Datum.eqv p.w q.w
    have e2 : ∀ i j : Int, PyData.eqv (.int i) (.int j) = decide (i = j) := fun i j => Datum.eqv i j
    show PyData.eqv (.tuple _) (.tuple _) = _
    rw [PyData.eqv, PyData.eqvAll, PyData.eqvAll, PyData.eqvAll, PyData.eqvAll, PyData.eqvAll, PyData.eqvAll, e1, e2, e2, e2, Datum.eqv, Bool.and_true, ← Bool.decide_and, ← Bool.decide_and, ← Bool.decide_and, ← Bool.decide_and]
    exact decide_eq_decide.mpr ⟨fun ⟨a, b, c, d, e⟩ => Mail.same a b c d e, fun e => by rw [e]; exact ⟨rfl, rfl, rfl, rfl, rfl⟩⟩
  depth := Datum.depth (Option Mk) + 1
  depth_le p := by
    simp only [PyData.depth, PyData.depthAll]
    refine Nat.succ_le_succ ?_
    have k := Datum.depth_le p.m
    simp only [Nat.max_le]
    exact ⟨Nat.zero_le _, Nat.zero_le _, Nat.zero_le _, Nat.zero_le _, k, Nat.zero_le _⟩
open PySem.W in
instance : SomeDatum Mail := ⟨fun _ => by show PyData.eqv .none (.tuple _) = false; simp only [PyData.eqv], fun _ => by show PyData.eqv (.tuple _) .none = false; simp only [PyData.eqv]⟩
abbrev wL : Str := "letter"
abbrev wN : Str := "number"
abbrev wM : Str := "mark"
/-- what a mark's text tells -/
def markOf (T : List (List Nat)) : Option Mk := match T with
  | [n, o, h] => if S o = "of" then match num n with
    | some n => if n = 0 then none else (num h).map fun h => (n, h)
    | none => none
    else none
  | _ => none
/-- what stands behind the word and the numbers -/
def markBy : Option (List Nat) → Option (Option Mk)
  | none => some none
  | some q => (markOf (sp q)).map some
def mailBy (head : List Nat) (tail : Option (List Nat)) : Option Mail := match sp head with
  | [w, l, f, a, t, b] =>
    if S f = "from" ∧ S t = "to" ∧ ((S w = wL ∧ tail.isSome = false) ∨ ((S w = wN ∨ S w = wM) ∧ tail.isSome = true)) then
      match markBy tail, num l, num a, num b with
      | some m, some l, some a, some b => some ⟨S w, l, a, b, m⟩
      | _, _, _, _ => none
    else none
  | _ => none
/-- what a text tells -/
def mailOf (x : Str) : Option Mail := match pa (TL.tl x) with
  | some (a, b) => mailBy a (some b)
  | none => mailBy (TL.tl x) none
theorem markOf_three (n o h : List Nat) : markOf [n, o, h] = if S o = "of" then (match num n with
    | some n => if n = 0 then none else (num h).map fun h => (n, h)
    | none => none) else none := rfl
theorem markOf_len {T : List (List Nat)} (h : T.length ≠ 3) : markOf T = none := by
  unfold markOf
  split
  · exact absurd rfl h
  · rfl
theorem blank : Str.ofString " " = ⟨#[32]⟩ := by decide +kernel
theorem colon : Str.ofString ": " = ⟨#[58, 32]⟩ := by decide +kernel
theorem split_b (x : Str) : Txt.split x (Str.ofString " ") = (sp (TL.tl x)).map S := by rw [blank, split_sp]
theorem partition_c (x : Str) : Txt.partition x (Str.ofString ": ") = match pa (TL.tl x) with
    | some (a, b) => (S a, Str.ofString ": ", S b)
    | none => (x, Str.empty, Str.empty) := by rw [colon, partition_pa]
theorem three_of {α : Type} {l : List α} (h : l.length = 3) : ∃ a b c, l = [a, b, c] := by
  match l, h with
  | [a, b, c], _ => exact ⟨a, b, c, rfl⟩
theorem six_of {α : Type} {l : List α} (h : l.length = 6) : ∃ a b c d e f, l = [a, b, c, d, e, f] := by
  match l, h with
  | [a, b, c, d, e, f], _ => exact ⟨a, b, c, d, e, f, rfl⟩
theorem sp_len : ∀ (z p : List Nat), p ∈ sp z → p.length ≤ z.length
  | [], p, h => by
    rw [sp, List.mem_singleton] at h
    rw [h]; exact Nat.le_refl _
  | c :: r, p, h => by
    rw [sp] at h
    split at h
    · rcases List.mem_cons.mp h with rfl | h
      · exact Nat.zero_le _
      · exact Nat.le_succ_of_le (sp_len r p h)
    · split at h
      · rw [List.mem_singleton] at h
        rw [h]; simp
      · rename_i w ws e
        rcases List.mem_cons.mp h with rfl | h
        · exact Nat.succ_le_succ (sp_len r w (by rw [e]; exact List.mem_cons_self))
        · exact Nat.le_succ_of_le (sp_len r p (by rw [e]; exact List.mem_cons_of_mem _ h))
theorem pa_len : ∀ (z a b : List Nat), pa z = some (a, b) → a.length ≤ z.length ∧ b.length ≤ z.length
  | [], a, b, h => by cases h
  | c :: r, a, b, h => by
    rw [pa] at h
    split at h
    · cases h
      refine ⟨Nat.zero_le _, ?_⟩
      rw [List.length_drop, List.length_cons]; omega
    · cases e : pa r with
      | none => rw [e] at h; cases h
      | some q =>
        rw [e] at h
        obtain ⟨a', b'⟩ := q
        have k := pa_len r a' b' e
        cases h
        simp only [List.length_cons]
        omega
def coOf : Option (List Nat) → Str
  | some _ => Str.ofString ": "
  | none => Str.empty
theorem coOf_ne (t : Option (List Nat)) : (!decide (coOf t = Str.ofString "")) = t.isSome := by
  cases t with
  | none =>
    have e : Str.empty = Str.ofString "" := by decide +kernel
    show (!decide (Str.empty = Str.ofString "")) = false
    rw [decide_eq_true e]; rfl
  | some q =>
    have e : ¬ Str.ofString ": " = Str.ofString "" := by decide +kernel
    show (!decide (Str.ofString ": " = Str.ofString "")) = true
    rw [decide_eq_false e]; rfl
theorem part_by (x : Str) : ∃ (h : List Nat) (t : Option (List Nat)), Txt.partition x (Str.ofString ": ") = (S h, coOf t, S (t.getD [])) ∧ mailOf x = mailBy h t ∧ h.length ≤ x.length ∧ (t.getD []).length ≤ x.length := by
  rw [partition_c]
  unfold mailOf
  cases e : pa (TL.tl x) with
  | none => exact ⟨TL.tl x, none, by rw [show S (TL.tl x) = x from TL.mk_tl x]; rfl, rfl, by rw [TL.len_tl]; exact Nat.le_refl _, Nat.zero_le _⟩
  | some q =>
    obtain ⟨a, b⟩ := q
    have k := pa_len _ _ _ e
    rw [← TL.len_tl] at k
    exact ⟨a, some b, rfl, rfl, k.1, k.2⟩
theorem mailBy_len {h : List Nat} {t : Option (List Nat)} (k : (sp h).length ≠ 6) : mailBy h t = none := by
  unfold mailBy
  split
  · rename_i e
    rw [e] at k
    exact absurd rfl k
  · rfl
theorem mailBy_six {h w l f a t b : List Nat} {q : Option (List Nat)} (e : sp h = [w, l, f, a, t, b]) : mailBy h q = 
    if S f = "from" ∧ S t = "to" ∧ ((S w = wL ∧ q.isSome = false) ∨ ((S w = wN ∨ S w = wM) ∧ q.isSome = true)) then
      match markBy q, num l, num a, num b with
      | some m, some l, some a, some b => some ⟨S w, l, a, b, m⟩
      | _, _, _, _ => none
    else none := by
  unfold mailBy
  rw [e]
/-! ### numbers that may be written -/
def okI (i : Int) : Prop := 0 ≤ i ∧ i < 10 ^ 30
theorem okI_nat {i : Int} (h : okI i) : ∃ n : Nat, i = (n : Int) ∧ n < 10 ^ 30 := by
  obtain ⟨n, rfl⟩ : ∃ n : Nat, i = (n : Int) := ⟨i.toNat, (Int.toNat_of_nonneg h.1).symm⟩
  have k := h.2
  refine ⟨n, rfl, ?_⟩
  have e : ((10 : Int) ^ 30) = ((10 ^ 30 : Nat) : Int) := by decide +kernel
  rw [e] at k
  exact Int.ofNat_lt.mp k
theorem log_lt {n : Nat} (h : n < 10 ^ 40) : n.log2 < 1920 := by
  by_cases z : n = 0
  · subst z; decide
  · exact (Nat.log2_lt z).mpr (Nat.lt_trans h (by decide +kernel))
theorem okI_log {i : Int} (h : okI i) : i.natAbs.log2 < 1920 := by
  obtain ⟨n, rfl, k⟩ := okI_nat h
  exact log_lt (Nat.lt_trans k (by decide +kernel))
theorem okI_tl {n : Nat} : TL.tl (Str.ofString (toString ((n : Nat) : Int))) = TL.numL n := TL.tl_num n
theorem okI_len {i : Int} (h : okI i) : (Str.ofString (toString i)).length ≤ 30 := by
  obtain ⟨n, rfl, k⟩ := okI_nat h
  rw [TL.len_tl, TL.tl_num]
  exact TL.numL_len (by decide) k
theorem okI_num {i : Int} (h : okI i) : num (TL.tl (Str.ofString (toString i))) = some i := by
  obtain ⟨n, rfl, k⟩ := okI_nat h
  rw [TL.tl_num]
  exact num_numL k
theorem okI_free {i : Int} (h : okI i) : ∀ s, s < 48 ∨ 57 < s → s ∉ TL.tl (Str.ofString (toString i)) := fun s hs => by
  obtain ⟨n, rfl, k⟩ := okI_nat h
  rw [TL.tl_num]
  exact TL.numL_free hs
structure Okm (m : Mail) : Prop where
  l : okI m.l
  a : okI m.a
  b : okI m.b
  w : m.w.length ≤ 10
  m : ∀ p, m.m = some p → okI p.1 ∧ okI p.2
def txt0 (m : Mail) : Str := m.w ++ " " ++ toString m.l ++ " from " ++ toString m.a ++ " to " ++ toString m.b
def txtOf (m : Mail) : Str := match m.m with
  | none => txt0 m
  | some p => txt0 m ++ ": " ++ toString p.1 ++ " of " ++ toString p.2
theorem pa_free {p : List Nat} (h : 58 ∉ p) : pa p = none := by
  induction p with
  | nil => rfl
  | cons c r ih =>
    rw [pa, if_neg (fun z => h (by rw [z.1]; exact List.mem_cons_self)), ih (fun z => h (List.mem_cons_of_mem _ z))]
    rfl
theorem pa_cat {p q : List Nat} (h : 58 ∉ p) : pa (p ++ 58 :: 32 :: q) = some (p, q) := by
  induction p with
  | nil => simp [pa]
  | cons c r ih =>
    rw [List.cons_append, pa, if_neg (fun z => h (by rw [z.1]; exact List.mem_cons_self)), ih (fun z => h (List.mem_cons_of_mem _ z))]
    rfl
theorem tl_from : TL.tl (Str.ofString " from ") = 32 :: ([102, 114, 111, 109] ++ [32]) := by decide +kernel
theorem tl_to : TL.tl (Str.ofString " to ") = 32 :: ([116, 111] ++ [32]) := by decide +kernel
theorem tl_of : TL.tl (Str.ofString " of ") = 32 :: ([111, 102] ++ [32]) := by decide +kernel
theorem tl_b : TL.tl (Str.ofString " ") = [32] := by decide +kernel
theorem tl_c : TL.tl (Str.ofString ": ") = [58, 32] := by decide +kernel
/-- what is written is read back -/
theorem read_back {m : Mail} (ok : Okm m) (hw : (m.w = wL ∧ m.m = none) ∨ ((m.w = wN ∨ m.w = wM) ∧ ∃ p, m.m = some p ∧ p.1 ≠ 0)) : mailOf (txtOf m) = some m := by
  have fw : ∀ s, s = 32 ∨ s = 58 → s ∉ TL.tl m.w := by
    intro s hs
    have e : m.w = wL ∨ m.w = wN ∨ m.w = wM := by
      rcases hw with h | h
      · exact .inl h.1
      · exact h.1.elim (fun z => .inr (.inl z)) (fun z => .inr (.inr z))
    have k1 : ∀ s, s = 32 ∨ s = 58 → s ∉ TL.tl wL := by rintro s (rfl | rfl) <;> decide +kernel
    have k2 : ∀ s, s = 32 ∨ s = 58 → s ∉ TL.tl wN := by rintro s (rfl | rfl) <;> decide +kernel
    have k3 : ∀ s, s = 32 ∨ s = 58 → s ∉ TL.tl wM := by rintro s (rfl | rfl) <;> decide +kernel
    rcases e with e | e | e <;> rw [e]
    · exact k1 s hs
    · exact k2 s hs
    · exact k3 s hs
  have e0 : TL.tl (txt0 m) = TL.tl m.w ++ 32 :: (TL.tl (Str.ofString (toString m.l)) ++ 32 :: ([102, 114, 111, 109] ++ 32 :: (TL.tl (Str.ofString (toString m.a)) ++ 32 :: ([116, 111] ++ 32 :: TL.tl (Str.ofString (toString m.b)))))) := by
    unfold txt0
    rw [TL.tl_append, TL.tl_append, TL.tl_append, TL.tl_append, TL.tl_append, TL.tl_append, tl_b, tl_from, tl_to]
    simp only [List.append_assoc, List.cons_append, List.nil_append]
  have i32 := fun {i : Int} (h : okI i) => okI_free h 32 (by omega)
  have i58 := fun {i : Int} (h : okI i) => okI_free h 58 (by omega)
  have es : sp (TL.tl (txt0 m)) = [TL.tl m.w, TL.tl (Str.ofString (toString m.l)), [102, 114, 111, 109], TL.tl (Str.ofString (toString m.a)), [116, 111], TL.tl (Str.ofString (toString m.b))] := by
    rw [e0, sp_cat (fw 32 (.inl rfl)), sp_cat (i32 ok.l), sp_cat (by decide), sp_cat (i32 ok.a), sp_cat (by decide), sp_free (i32 ok.b)]
  have f58 : 58 ∉ TL.tl (txt0 m) := by
    rw [e0]
    simp only [List.mem_append, List.mem_cons, not_or]
    exact ⟨fw 58 (.inr rfl), by decide, i58 ok.l, by decide, by simp, by decide, i58 ok.a, by decide, by simp, by decide, i58 ok.b⟩
  have ef : S [102, 114, 111, 109] = Str.ofString "from" := by decide +kernel
  have et : S [116, 111] = Str.ofString "to" := by decide +kernel
  have ew : S (TL.tl m.w) = m.w := TL.mk_tl m.w
  obtain ⟨w, l, a, b, mk⟩ := m
  cases mk with
  | none =>
    have hw : w = wL := by
      rcases hw with h | ⟨_, p, h, _⟩
      · exact h.1
      · cases h
    show mailOf (txt0 _) = _
    unfold mailOf
    rw [pa_free f58]
    show mailBy _ none = _
    rw [mailBy_six es, if_pos ⟨ef, et, .inl ⟨ew.trans hw, rfl⟩⟩]
    show (match markBy none, num _, num _, num _ with | some m, some l, some a, some b => some (⟨_, l, a, b, m⟩ : Mail) | _, _, _, _ => none) = _
    rw [okI_num ok.l, okI_num ok.a, okI_num ok.b, ew]
    rfl
  | some p =>
    obtain ⟨hw, h0⟩ : (w = wN ∨ w = wM) ∧ p.1 ≠ 0 := by
      rcases hw with h | ⟨h, q, e, z⟩
      · cases h.2
      · cases e; exact ⟨h, z⟩
    obtain ⟨o1, o2⟩ := ok.m p rfl
    have ex : TL.tl (txtOf ⟨w, l, a, b, some p⟩) = TL.tl (txt0 ⟨w, l, a, b, some p⟩) ++ 58 :: 32 :: (TL.tl (Str.ofString (toString p.1)) ++ 32 :: ([111, 102] ++ 32 :: TL.tl (Str.ofString (toString p.2)))) := by
      show TL.tl (txt0 _ ++ Str.ofString ": " ++ Str.ofString (toString p.1) ++ Str.ofString " of " ++ Str.ofString (toString p.2)) = _
      rw [TL.tl_append, TL.tl_append, TL.tl_append, TL.tl_append, tl_c, tl_of]
      simp only [List.append_assoc, List.cons_append, List.nil_append]
    unfold mailOf
    rw [ex, pa_cat f58]
    show mailBy _ (some _) = _
    rw [mailBy_six es, if_pos ⟨ef, et, .inr ⟨hw.elim (fun z => .inl (ew.trans z)) (fun z => .inr (ew.trans z)), rfl⟩⟩]
    have em : markBy (some (TL.tl (Str.ofString (toString p.1)) ++ 32 :: ([111, 102] ++ 32 :: TL.tl (Str.ofString (toString p.2))))) = some (some p) := by
      show (markOf (sp _)).map some = _
      rw [sp_cat (i32 o1), sp_cat (by decide), sp_free (i32 o2)]
      have eo : S [111, 102] = Str.ofString "of" := by decide +kernel
      rw [markOf_three, if_pos eo, okI_num o1, okI_num o2]
      simp [h0]
    rw [em, okI_num ok.l, okI_num ok.a, okI_num ok.b, ew]
theorem len_c : (Str.ofString " ").length = 1 ∧ (Str.ofString " from ").length = 6 ∧ (Str.ofString " to ").length = 4 ∧ (Str.ofString ": ").length = 2 ∧ (Str.ofString " of ").length = 4 := by decide +kernel
theorem txtOf_len {m : Mail} (ok : Okm m) : (txtOf m).length ≤ 100000 := by
  obtain ⟨g1, g2, g3, g4, g5⟩ := len_c
  have gl := okI_len ok.l
  have ga := okI_len ok.a
  have gb := okI_len ok.b
  have gw := ok.w
  have e0 : (txt0 m).length ≤ 200 := by
    show (m.w ++ Str.ofString " " ++ Str.ofString (toString m.l) ++ Str.ofString " from " ++ Str.ofString (toString m.a) ++ Str.ofString " to " ++ Str.ofString (toString m.b)).length ≤ 200
    simp only [Str.length_append, g1, g2, g3]
    omega
  unfold txtOf
  cases e : m.m with
  | none => exact Nat.le_trans e0 (by decide)
  | some p =>
    obtain ⟨o1, o2⟩ := ok.m p e
    have hn := okI_len o1
    have hh := okI_len o2
    show (txt0 m ++ Str.ofString ": " ++ Str.ofString (toString p.1) ++ Str.ofString " of " ++ Str.ofString (toString p.2)).length ≤ 100000
    simp only [Str.length_append, g4, g5]
    omega
/-! ### what the parts at blanks tell -/
def markT : Option (List (List Nat)) → Option (Option Mk)
  | none => some none
  | some T => (markOf T).map some
def mailW (P : List (List Nat)) (q : Option (List (List Nat))) : Option Mail := match P with
  | [w, l, f, a, t, b] =>
    if S f = "from" ∧ S t = "to" ∧ ((S w = wL ∧ q.isSome = false) ∨ ((S w = wN ∨ S w = wM) ∧ q.isSome = true)) then
      match markT q, num l, num a, num b with
      | some m, some l, some a, some b => some ⟨S w, l, a, b, m⟩
      | _, _, _, _ => none
    else none
  | _ => none
theorem mailBy_W (h : List Nat) (t : Option (List Nat)) : mailBy h t = mailW (sp h) (t.map sp) := by
  unfold mailBy mailW
  cases t with
  | none => rfl
  | some q => rfl
theorem mailOf_W (x : Str) : mailOf x = match cut (sp (TL.tl x)) with
    | some q => mailW q.1 (some q.2)
    | none => mailW (sp (TL.tl x)) none := by
  rw [← pa_cut]
  unfold mailOf
  cases pa (TL.tl x) with
  | none => exact mailBy_W _ _
  | some q => exact mailBy_W _ _
theorem mailW_six (w l f a t b : List Nat) (q : Option (List (List Nat))) : mailW [w, l, f, a, t, b] q =
    if S f = "from" ∧ S t = "to" ∧ ((S w = wL ∧ q.isSome = false) ∨ ((S w = wN ∨ S w = wM) ∧ q.isSome = true)) then
      (match markT q, num l, num a, num b with
      | some m, some l, some a, some b => some ⟨S w, l, a, b, m⟩
      | _, _, _, _ => none)
    else none := rfl
theorem mailW_len {P : List (List Nat)} {q : Option (List (List Nat))} (h : P.length ≠ 6) : mailW P q = none := by
  unfold mailW
  split
  · exact absurd rfl h
  · rfl
theorem cut_len : ∀ {W : List (List Nat)} {a b : List (List Nat)}, cut W = some (a, b) → a.length + b.length = W.length ∧ b ≠ []
  | [], _, _, h => by cases h
  | w :: ws, a, b, h => by
    rw [cut] at h
    split at h
    · rename_i c
      cases h
      exact ⟨by simp only [List.length_cons, List.length_nil]; omega, c.1⟩
    · cases e : cut ws with
      | none => rw [e] at h; cases h
      | some q =>
        rw [e] at h
        obtain ⟨a', b'⟩ := q
        have k := cut_len e
        cases h
        exact ⟨by simp only [List.length_cons]; omega, k.2⟩
theorem cut_step {w : List Nat} {ws : List (List Nat)} (h : w.getLast? ≠ some 58) : cut (w :: ws) = (cut ws).map fun q => (w :: q.1, q.2) := by
  rw [cut, if_neg fun z => h z.2]
theorem last_num {z : List Nat} {n : Int} (h : num z = some n) : z.getLast? ≠ some 58 := by
  unfold num at h
  split at h
  · rename_i c
    intro e
    have k := all_digits c.2.1 58 (List.mem_of_getLast? e)
    omega
  · cases h
theorem last_word {z : List Nat} {x : Str} (h : S z = x) (k : (TL.tl x).getLast? ≠ some 58) : z.getLast? ≠ some 58 := by
  rw [← h] at k
  exact k
theorem from_last {z : List Nat} (h : S z = Str.ofString "from") : z.getLast? ≠ some 58 := last_word h (by decide +kernel)
theorem to_last {z : List Nat} (h : S z = Str.ofString "to") : z.getLast? ≠ some 58 := last_word h (by decide +kernel)
theorem L_last {z : List Nat} (h : S z = wL) : z.getLast? ≠ some 58 := last_word h (by decide +kernel)
theorem N_last {z : List Nat} (h : S z = wN) : z.getLast? ≠ some 58 := last_word h (by decide +kernel)
theorem M_last {z : List Nat} (h : S z = wM) : z.getLast? ≠ some 58 := last_word h (by decide +kernel)
/-- six parts -/
theorem mail_six {x : Str} {w l f a t b : List Nat} (e : sp (TL.tl x) = [w, l, f, a, t, b]) : mailOf x =
    if S f = "from" ∧ S t = "to" ∧ S w = wL then (match num l, num a, num b with | some l, some a, some b => some ⟨S w, l, a, b, none⟩ | _, _, _ => none) else none := by
  rw [mailOf_W, e]
  have hb : ∀ m, m = mailW [w, l, f, a, t, b] none → m = if S f = "from" ∧ S t = "to" ∧ S w = wL then (match num l, num a, num b with | some l, some a, some b => some ⟨S w, l, a, b, none⟩ | _, _, _ => none) else none := by
    intro m hm
    rw [hm, mailW_six]
    by_cases c : S f = "from" ∧ S t = "to" ∧ S w = wL
    · rw [if_pos c, if_pos ⟨c.1, c.2.1, .inl ⟨c.2.2, rfl⟩⟩]
      rw [show markT none = some none from rfl]
      cases num l <;> cases num a <;> cases num b <;> rfl
    · rw [if_neg c, if_neg fun z => c ⟨z.1, z.2.1, z.2.2.elim (fun y => y.1) fun y => nomatch y.2⟩]
  cases ec : cut [w, l, f, a, t, b] with
  | none => exact hb _ rfl
  | some q =>
    obtain ⟨p1, p2⟩ := q
    obtain ⟨k1, k2⟩ := cut_len ec
    have k3 : 0 < p2.length := List.length_pos_iff.mpr k2
    simp only [List.length_cons, List.length_nil] at k1
    show mailW p1 (some p2) = _
    rw [mailW_len (by omega)]
    by_cases c : S f = "from" ∧ S t = "to" ∧ S w = wL
    · rw [if_pos c]
      cases el : num l with
      | none => rfl
      | some l' =>
        cases ea : num a with
        | none => rfl
        | some a' =>
          rw [cut_step (L_last c.2.2), cut_step (last_num el), cut_step (from_last c.1), cut_step (last_num ea), cut_step (to_last c.2.1)] at ec
          have e0 : cut [b] = none := by simp [cut]
          rw [e0] at ec
          cases ec
    · rw [if_neg c]
theorem num_zero {z : List Nat} (h : num z = some 0) : z = [48] := by
  unfold num at h
  split at h
  · rename_i c
    obtain ⟨c1, c2, c3, c4⟩ := c
    have h0 : NumText.digitsVal z = 0 := by
      have e := Option.some.inj h
      exact Int.ofNat_eq_zero.mp e
    cases z with
    | nil => exact absurd rfl c1
    | cons d r =>
      refine c4 ?_
      have hd := all_digits c2 d List.mem_cons_self
      have key : ∀ (l : List Nat) (acc : Nat), acc ≤ l.foldl (fun acc c => acc * 10 + (c - 48)) acc := by
        intro l
        induction l with
        | nil => intro acc; exact Nat.le_refl _
        | cons c r ih => intro acc; exact Nat.le_trans (show acc ≤ acc * 10 + (c - 48) by omega) (ih _)
      have k := key r (0 * 10 + (d - 48))
      have e2 : NumText.digitsVal (d :: r) = r.foldl (fun acc c => acc * 10 + (c - 48)) (0 * 10 + (d - 48)) := rfl
      rw [← e2, h0] at k
      show some d = some 48
      congr 1
      omega
  · cases h
theorem num_48 : num [48] = some 0 := by decide +kernel
/-- nine parts -/
theorem mail_nine {x : Str} {w l f a t b n o h : List Nat} (e : sp (TL.tl x) = [w, l, f, a, t, b, n, o, h]) : mailOf x =
    if S f = "from" ∧ S t = "to" ∧ (S w = wN ∨ S w = wM) ∧ b.getLast? = some 58 ∧ S o = "of" ∧ n ≠ [48] then
      (match num l, num a, num b.dropLast, num n, num h with | some l, some a, some b, some n, some h => some ⟨S w, l, a, b, some (n, h)⟩ | _, _, _, _, _ => none) else none := by
  rw [mailOf_W, e]
  have nine : ∀ q : Option (List (List Nat)), mailW [w, l, f, a, t, b, n, o, h] q = none := fun q => mailW_len (by simp)
  -- where the cut lies behind the sixth part
  have six : mailW [w, l, f, a, t, b.dropLast] (some [n, o, h]) = if S f = "from" ∧ S t = "to" ∧ (S w = wN ∨ S w = wM) ∧ S o = "of" ∧ n ≠ [48] then
      (match num l, num a, num b.dropLast, num n, num h with | some l, some a, some b, some n, some h => some ⟨S w, l, a, b, some (n, h)⟩ | _, _, _, _, _ => none) else none := by
    rw [mailW_six]
    by_cases c : S f = "from" ∧ S t = "to" ∧ (S w = wN ∨ S w = wM)
    · rw [if_pos ⟨c.1, c.2.1, .inr ⟨c.2.2, rfl⟩⟩]
      rw [show markT (some [n, o, h]) = (markOf [n, o, h]).map some from rfl, markOf_three]
      by_cases c2 : S o = "of"
      · rw [if_pos c2]
        by_cases c3 : n = [48]
        · rw [if_neg fun z => z.2.2.2.2 c3, c3, num_48]
          rfl
        · rw [if_pos ⟨c.1, c.2.1, c.2.2, c2, c3⟩]
          cases en : num n with
          | none => cases num l <;> cases num a <;> cases num b.dropLast <;> rfl
          | some i =>
            have hi : i ≠ 0 := fun z => c3 (num_zero (by rw [en, z]))
            simp only [if_neg hi]
            cases num l <;> cases num a <;> cases num b.dropLast <;> cases num h <;> rfl
      · rw [if_neg c2, if_neg fun z => c2 z.2.2.2.1]
        rfl
    · rw [if_neg fun z => c ⟨z.1, z.2.1, z.2.2.elim (fun y => nomatch y.2) fun y => y.1⟩, if_neg fun z => c ⟨z.1, z.2.1, z.2.2.1⟩]
  cases ec : cut [w, l, f, a, t, b, n, o, h] with
  | none =>
    show mailW _ none = _
    rw [nine]
    by_cases c : S f = "from" ∧ S t = "to" ∧ (S w = wN ∨ S w = wM) ∧ b.getLast? = some 58 ∧ S o = "of" ∧ n ≠ [48]
    · rw [if_pos c]
      obtain ⟨c1, c2, c3, c4, _⟩ := c
      cases el : num l with
      | none => rfl
      | some l' =>
        cases ea : num a with
        | none => rfl
        | some a' =>
          rw [cut_step (c3.elim N_last M_last), cut_step (last_num el), cut_step (from_last c1), cut_step (last_num ea), cut_step (to_last c2)] at ec
          rw [show cut [b, n, o, h] = some ([b.dropLast], [n, o, h]) by rw [cut, if_pos ⟨by simp, c4⟩]] at ec
          cases ec
    · rw [if_neg c]
  | some q =>
    obtain ⟨p1, p2⟩ := q
    show mailW p1 (some p2) = _
    by_cases hp : p1.length = 6
    · -- the cut is behind the sixth
      have key : p1 = [w, l, f, a, t, b.dropLast] ∧ p2 = [n, o, h] ∧ b.getLast? = some 58 := by
        have step : ∀ {u : List Nat} {us : List (List Nat)} {r1 r2 : List (List Nat)} {k : Nat}, cut (u :: us) = some (r1, r2) → r1.length = k + 2 → ∃ r, r1 = u :: r ∧ r.length = k + 1 ∧ cut us = some (r, r2) := by
          intro u us r1 r2 k hc hl
          rw [cut] at hc
          split at hc
          · cases hc
            simp at hl
          · cases e2 : cut us with
            | none => rw [e2] at hc; cases hc
            | some q =>
              rw [e2] at hc
              cases hc
              exact ⟨q.1, rfl, by simpa using hl, rfl⟩
        obtain ⟨r1, e1, l1, g1⟩ := step ec hp
        obtain ⟨r2, e2, l2, g2⟩ := step g1 l1
        obtain ⟨r3, e3, l3, g3⟩ := step g2 l2
        obtain ⟨r4, e4, l4, g4⟩ := step g3 l3
        obtain ⟨r5, e5, l5, g5⟩ := step g4 l4
        rw [cut] at g5
        split at g5
        · rename_i c
          cases g5
          exact ⟨by rw [e1, e2, e3, e4, e5], rfl, c.2⟩
        · cases e6 : cut [n, o, h] with
          | none => rw [e6] at g5; cases g5
          | some q =>
            rw [e6] at g5
            have l5 : r5.length = 1 := l5
            have z := congrArg (fun y : Option (List (List Nat) × List (List Nat)) => y.map fun q => q.1.length) g5
            have z : some (q.1.length + 1) = some r5.length := z
            have z := Option.some.inj z
            have z0 : q.1 = [] := List.length_eq_zero_iff.mp (by omega)
            rw [cut] at e6
            split at e6
            · cases e6; simp at z0
            · cases e7 : cut [o, h] with
              | none => rw [e7] at e6; cases e6
              | some q7 => rw [e7] at e6; cases e6; simp at z0
      obtain ⟨k1, k2, k3⟩ := key
      rw [k1, k2, six]
      by_cases c : S f = "from" ∧ S t = "to" ∧ (S w = wN ∨ S w = wM) ∧ S o = "of" ∧ n ≠ [48]
      · rw [if_pos c, if_pos ⟨c.1, c.2.1, c.2.2.1, k3, c.2.2.2⟩]
      · rw [if_neg c, if_neg fun z => c ⟨z.1, z.2.1, z.2.2.1, z.2.2.2.2⟩]
    · rw [mailW_len hp]
      by_cases c : S f = "from" ∧ S t = "to" ∧ (S w = wN ∨ S w = wM) ∧ b.getLast? = some 58 ∧ S o = "of" ∧ n ≠ [48]
      · rw [if_pos c]
        obtain ⟨c1, c2, c3, c4, _⟩ := c
        cases el : num l with
        | none => rfl
        | some l' =>
          cases ea : num a with
          | none => rfl
          | some a' =>
            rw [cut_step (c3.elim N_last M_last), cut_step (last_num el), cut_step (from_last c1), cut_step (last_num ea), cut_step (to_last c2)] at ec
            rw [show cut [b, n, o, h] = some ([b.dropLast], [n, o, h]) by rw [cut, if_pos ⟨by simp, c4⟩]] at ec
            cases ec
            exact absurd rfl hp
      · rw [if_neg c]
/-- neither six nor nine -/
theorem mail_other {x : Str} (h6 : (sp (TL.tl x)).length ≠ 6) (h9 : (sp (TL.tl x)).length ≠ 9) : mailOf x = none := by
  rw [mailOf_W]
  cases ec : cut (sp (TL.tl x)) with
  | none => exact mailW_len h6
  | some q =>
    obtain ⟨p1, p2⟩ := q
    have k := (cut_len ec).1
    show mailW p1 (some p2) = none
    by_cases hp : p1.length = 6
    · have h3 : p2.length ≠ 3 := by omega
      unfold mailW
      split
      · split
        · rw [show markT (some p2) = (markOf p2).map some from rfl, markOf_len h3]
          rfl
        · rfl
      · rfl
    · exact mailW_len hp
end Tx

set_option Elab.async false
set_option linter.all false
set_option maxRecDepth 100000
/-! The layer for texts and for what is raised. -/
namespace Y
open PySem PySem.Spec PyProof.Rows L2
/-- a statement that is not reached -/
theorem ps_no {X : Cx} {st : Stmt} : PS X st (fun _ _ _ => False) := ⟨fun _ _ _ _ _ _ h => h.elim⟩
section
variable {P : Program} {w : World} {K : PySem.W.Frag} {mg : Str → Option Value} {base : Heap}
/-- a def that may raise -/
theorem okN {x qual : Str} {st : Stmt} {f : Addr} {fd : FuncData} {N ps : List Str} {k : Nat} {sp : Sp} (F : Fun K x qual st f fd) (S : FnScope N ps (defScope st)) (len : ∀ vs H Q E, sp vs H Q E → vs.length = ps.length)
    (hbody : ∀ (cdv : Value) (A : Around) (outer : List Env) (s : Shared) (H : Hp) (vs : List V) (Q : VK) (E : XK), Room k (A.deeper (envOfC qual (defScope st) s.heap.objs.size f cdv)) → sp vs H Q E →
      ∃ t, PSs (cxOf (L2N.CX P w) P w K mg base N qual (defScope st) f cdv A outer s H E) (defBody st) t ∧ t { nx := fun _ H' => Q .non H', rt := Q } (L2.start N vs) H) : FnOk P w K mg base (L2N.CX P w) (k + 1) f fd ps sp := by
  obtain ⟨oc, od, kV, doc, pm, an, cdv, ct, osl, rfl, lk, hcd⟩ := F.ex
  exact fn_of lk hcd S len fun A outer s H vs Q E hr q => hbody cdv A outer s H vs Q E hr q
theorem passN {N : List Str} {qual : Str} {scope : Scope} {f : Addr} {cd : Value} {A : Around} {outer : List Env} {s : Shared} {H : Hp} {E : XK} : Passes (L2N.CX P w) (cxOf (L2N.CX P w) P w K mg base N qual scope f cd A outer s H E) E :=
  L2N.passes_call (W := fun c d _ H => E c d H) (L2N.takes_of rfl rfl rfl rfl) (fun _ _ _ _ h => h)
end
section
variable {X : Cx} {k : Nat} {x : Str} {ps : List Str} {sp : Sp} {p pos : Pos} {e : Expr} {es : List Expr} {t : TA}
theorem takesN0 : L2N.Takes X (fun _ _ _ _ => False) := fun _ _ h => by
  obtain ⟨_, _, _, _, _, _, _, _, _, _, _, _, _, _, _, _, z⟩ := h
  exact z.elim
theorem passN0 : Passes (L2N.CX X.prog X.w) X E0 := fun _ _ _ _ _ _ _ h => by
  obtain ⟨_, _, _, _, _, _, _, _, _, _, _, _, z⟩ := h
  exact z.elim
theorem pe_callN {E : XK} (C : Cal X.prog X.w X.K X.mg X.base (L2N.CX X.prog X.w) k x ps sp) (hr : Room k X.A) (hx : Passes (L2N.CX X.prog X.w) X E) (ha : PA X (e :: es) t) (hg : Gl X x := by rfl)
    (hdb : (x == ("__debug__" : Str)) = false := by decide) (he : starEach (e :: es) X.env = (false, eval e X.env) :: starEach es X.env := by rfl) (hpl : (backTo pos (starEach es X.env)).any (·.1) = false := by rfl) :
    PE X (.Call (.Name x p) (e :: es) [] pos) (tCall sp [] E t) := by
  obtain ⟨f, fd, F, m, kp, b⟩ := C.ex
  exact pe_call F hr hg m kp b .nil hx ha hdb he hpl
theorem pe_callT {W : WX} (C : Cal X.prog X.w X.K X.mg X.base (L2N.CX X.prog X.w) k x ps sp) (hr : Room k X.A) (tk : L2N.Takes X W) (ha : PA X (e :: es) t) (hg : Gl X x := by rfl)
    (hdb : (x == ("__debug__" : Str)) = false := by decide) (he : starEach (e :: es) X.env = (false, eval e X.env) :: starEach es X.env := by rfl) (hpl : (backTo pos (starEach es X.env)).any (·.1) = false := by rfl) :
    PE X (.Call (.Name x p) (e :: es) [] pos) (tCallS sp (WE W) t) := by
  obtain ⟨f, fd, F, m, kp, b⟩ := C.ex
  exact pe_callS F hr hg m kp b (fun σ => L2N.passAt tk σ) ha hdb he hpl
end
/-- an own error class -/
structure Err (K : PySem.W.Frag) (mg : Str → Option Value) (x : Str) (C : Addr) : Prop where
  g : mg x = some (.ref C)
  x : PySem.W.excIn K C [.type "ValueError", .type "Exception", .type "BaseException", .type "object"] "ValueError.__new__" = true
  k : PySem.W.keepIn K (.ref C) = true
  b : PySem.W.subIn K (.ref C) (.type "BaseException") = some true
  t : PySem.W.typeIn K (.ref C) = some (.type "type")
theorem pmk_err {X : Cx} {x m : Str} {C : Addr} {j : Nat} {p p2 pos : Pos} (E : Err X.K X.mg x C) (hg : Gl X x := by rfl) (hdb : (x == ("__debug__" : Str)) = false := by decide) :
    L2N.PMk X (.Call (.Name x p) [.Constant (.str m) j p2] [] pos) (fun _ H Q => Q (.ref C) none H) := L2N.pmk_own PySem.F.excBase_ValueError E.x E.g E.k (raises_own E.b E.t) hg hdb
def tRaise (C : Addr) (W : WX) : TS := fun _ σ H => W (.ref C) none σ H
theorem ps_err {X : Cx} {W : WX} {x m : Str} {C : Addr} {j : Nat} {p p2 pos pos2 : Pos} (E : Err X.K X.mg x C) (hc : X.calm = true) (tk : L2N.Takes X W) (hg : Gl X x := by rfl) (hdb : (x == ("__debug__" : Str)) = false := by decide) :
    PS X (.Raise (some (.Call (.Name x p) [.Constant (.str m) j p2] [] pos)) none pos2) (tRaise C W) := L2N.ps_raise hc tk (pmk_err E hg hdb)
/-- a name of the module -/
theorem pe_gl {X : Cx} {x : Str} {pos : Pos} {v : V} (h : ∃ u, X.mg x = some u ∧ RelV v u) (hg : Gl X x := by rfl) (hd : (x == ("__debug__" : Str)) = false := by decide) : PE X (.Name x pos) (tC v) := by
  obtain ⟨u, hm, r⟩ := h
  exact pe_glob hg hm r hd
/-! ### a dict of the module -/
structure KD (K : PySem.W.Frag) (w : World) (d : Addr) (kvs : List (Str × Value)) : Prop where
  kd : ∃ es n, KDict K w d es n
  f : ∀ z, PySem.W.nsIn K d z = some (kvs.lookup z)
def keyT (e : DictEntry) : Option Str := match e.key with
  | .str x _ => some x
  | _ => none
theorem kd_mk {K : PySem.W.Frag} {w : World} {d : Addr} {kvs : List (Str × Value)} {es : Array DictEntry} {n : Nat} (h : K.lookup d = some ⟨.type "dict", none, .dict es n, #[]⟩) (hk : PySem.W.KeysLit w.params es.toList) (hs : (d == sysModules) = false)
    (hv : es.toList.map (fun e => (keyT e, e.val)) = kvs.map fun p => (some p.1, p.2)) : KD K w d kvs := by
  refine ⟨⟨es, n, h, hk, hs⟩, fun z => ?_⟩
  unfold PySem.W.nsIn
  rw [h]
  show (match es.toList.find? (·.key.isStr z) with | some e => some (some e.val) | none => if es.toList.any (·.refKey) then none else some none) = _
  generalize es.toList = l at hk hv
  have key : ∀ (l : List DictEntry) (kvs : List (Str × Value)), PySem.W.KeysLit w.params l → l.map (fun e => (keyT e, e.val)) = kvs.map (fun p => (some p.1, p.2)) → (l.find? (·.key.isStr z)).map (·.val) = kvs.lookup z ∧ l.any (·.refKey) = false := by
    intro l
    induction l with
    | nil =>
      intro kvs _ hv
      cases kvs with
      | nil => exact ⟨rfl, rfl⟩
      | cons p r => simp at hv
    | cons e l ih =>
      intro kvs hk hv
      cases kvs with
      | nil => simp at hv
      | cons p r =>
        rw [List.map_cons, List.map_cons] at hv
        injection hv with hv1 hv2
        obtain ⟨⟨x, t, hx, _⟩, hk2⟩ := hk
        obtain ⟨i1, i2⟩ := ih r hk2 hv2
        have e1 : keyT e = some p.1 := congrArg Prod.fst hv1
        have e2 : e.val = p.2 := congrArg Prod.snd hv1
        have e3 : x = p.1 := by
          unfold keyT at e1
          rw [hx] at e1
          exact Option.some.inj e1
        have e4 : e.key.isStr z = (z == p.1) := by
          rw [hx, ← e3]
          show (x == z) = (z == x)
          rw [Bool.eq_iff_iff, beq_iff_eq, beq_iff_eq]
          exact ⟨Eq.symm, Eq.symm⟩
        refine ⟨?_, ?_⟩
        · obtain ⟨p1, p2⟩ := p
          rw [List.find?_cons, List.lookup_cons, e4]
          cases z == p1 with
          | true => simpa using e2
          | false => exact i1
        · rw [List.any_cons, i2]
          have : e.refKey = false := by
            unfold DictEntry.refKey
            rw [hx]
          rw [this]; rfl
  obtain ⟨k1, k2⟩ := key l kvs hk hv
  rw [← k1, k2]
  cases l.find? (·.key.isStr z) <;> rfl
section
variable {X : Cx} {d : Addr} {kvs : List (Str × Value)}
def rNotInKD (d : Addr) (kvs : List (Str × Value)) : R2 := fun x y H Q => ∃ z, x = .str z ∧ y = .ref d ∧ Q (.bl (!(kvs.lookup z).isSome)) H
theorem op_notInKD (D : KD X.K X.w d kvs) : OpR X (compareOp .NotIn) (rNotInKD d kvs) := by
  obtain ⟨es, n, D1⟩ := D.kd
  intro pins s σ H x y v u Q I rx ry h
  obtain ⟨z, ex, ey, q⟩ := h
  exact op_notIn_kd D1 pins s σ H x y v u Q I rx ry ⟨z, _, ex, ey, D.f z, q⟩
def rIxKD (d : Addr) (kvs : List (Str × Value)) : R2 := fun x y H Q => ∃ z u v, x = .ref d ∧ y = .str z ∧ kvs.lookup z = some u ∧ RelV v u ∧ Q v H
theorem ix_KD (D : KD X.K X.w d kvs) : IxR X (rIxKD d kvs) := by
  obtain ⟨es, n, D1⟩ := D.kd
  intro value slice pins s σ H x y v u Q I rx ry h hs
  obtain ⟨z, u0, v0, ex, ey, hl, r, q⟩ := h
  exact ix_kdict value slice pins s σ H x y v u Q I rx ry ⟨d, z, v0, ex, ey, ⟨es, n, u0, D1.at_, D1.lit, by rw [D.f z, hl], r⟩, q⟩ hs
end
/-! ### texts -/
def rSplit : V → List V → Hp → VK → Prop := fun x xs H Q => ∃ a b, x = .str a ∧ xs = [.str b] ∧ (b.length == 0) = false ∧ a.length + 2 ≤ sizeLine ∧ rNewStrs (Txt.split a b) H Q
def rPart : V → List V → Hp → VK → Prop := fun x xs H Q => ∃ a b, x = .str a ∧ xs = [.str b] ∧ (b.length == 0) = false ∧ a.length ≤ sizeLine ∧ ∀ p, H p = none → Q (.ref p) (upd H p (.tup [.str (Txt.partition a b).1, .str (Txt.partition a b).2.1, .str (Txt.partition a b).2.2]))
def rT0 (g : Str → V) : V → List V → Hp → VK → Prop := fun x xs H Q => ∃ a, x = .str a ∧ xs = [] ∧ True ∧ Q (g a) H
def rCatS : R2 := fun x y H Q => ∃ i j, x = .str i ∧ y = .str j ∧ i.length + j.length ≤ sizeLine ∧ Q (.str (i ++ j)) H
def rLenS : List V → Hp → VK → Prop := fun xs H Q => ∃ z, xs = [.str z] ∧ z.length ≤ sizeLine ∧ Q (.int z.length) H
def rStrI : List V → Hp → VK → Prop := fun xs H Q => ∃ i : Int, xs = [.int i] ∧ i.natAbs.log2 < 1920 ∧ Q (.str (toString i)) H
def rIntS : List V → Hp → VK → Prop := fun xs H Q => ∃ a n, xs = [.str a] ∧ PySem.intText? a = some n ∧ a.length ≤ 640 ∧ Q (.int n) H
def rIxS : R2 := fun x y H Q => ∃ z i c, x = .str z ∧ y = .int i ∧ 0 ≤ i ∧ i < 2 ^ 63 ∧ i < z.length ∧ z.cps[i.toNat]? = some c ∧ Q (.str ⟨#[c]⟩) H
def rFmt (x : V) (H1 : Hp) (Q : VK) : Prop := (∃ y : Str, x = .str y ∧ y.length ≤ sizeLine ∧ Q (.str y) H1) ∨ ∃ i : Int, x = .int i ∧ i.natAbs.log2 < 1920 ∧ Q (.str (toString i)) H1
def tFs (ts : List TE) : TE := fun σ H Q => tJs ts Str.empty σ H fun out H1 => Q (.str out) H1
section
variable {X : Cx} {o e : Expr} {to te : TE} {apos pos : Pos} {σ : L2.St} {H : Hp} {Q : VK} {a b z y : Str} {r : V → List V → Hp → VK → Prop} {i : Int}
theorem mt_splitY : MtR X "str.split" rSplit := mt_split
theorem mt_partY : MtR X "str.partition" rPart := mt_partition
theorem pe_fs {v1 v2 : Expr} {rest : List Expr} {ts : List TE} (h : PJ X (v1 :: v2 :: rest) ts) : PE X (.JoinedStr (v1 :: v2 :: rest) pos) (tFs ts) := pe_joined h
theorem a_m1 : tM1 r to te σ H Q = to σ H fun x H1 => (∃ a, x = .str a) ∧ te σ H1 fun y H2 => r x [y] H2 Q := rfl
theorem b_isS : (∃ a, V.str z = V.str a) = True := eq_true ⟨z, rfl⟩
theorem b_split : rSplit (.str a) [.str b] H Q = ((b.length == 0) = false ∧ a.length + 2 ≤ sizeLine ∧ NewO H (.lst ((Txt.split a b).map V.str)) Q) := propext ⟨fun ⟨_, _, e1, e2, h⟩ => by cases e1; cases e2; exact h, fun h => ⟨_, _, rfl, rfl, h⟩⟩
theorem b_part : rPart (.str a) [.str b] H Q = ((b.length == 0) = false ∧ a.length ≤ sizeLine ∧ NewO H (.tup [.str (Txt.partition a b).1, .str (Txt.partition a b).2.1, .str (Txt.partition a b).2.2]) Q) := propext ⟨fun ⟨_, _, e1, e2, h⟩ => by cases e1; cases e2; exact h, fun h => ⟨_, _, rfl, rfl, h⟩⟩
theorem b_T0 {g : Str → V} : rT0 g (.str a) [] H Q = Q (g a) H := propext ⟨fun ⟨_, e1, _, _, h⟩ => by cases e1; exact h, fun h => ⟨_, rfl, rfl, trivial, h⟩⟩
theorem b_tyS {K : PySem.W.Frag} : tyV K "str" (.str z) H = True := eq_true rfl
theorem b_addS : rCatS (.str a) (.str b) H Q = (a.length + b.length ≤ sizeLine ∧ Q (.str (a ++ b)) H) := propext ⟨fun ⟨_, _, e1, e2, h⟩ => by cases e1; cases e2; exact h, fun h => ⟨_, _, rfl, rfl, h⟩⟩
theorem b_lenS : rLenS [.str z] H Q = (z.length ≤ sizeLine ∧ Q (.int z.length) H) := propext ⟨fun ⟨_, e1, h⟩ => by cases e1; exact h, fun h => ⟨_, rfl, h⟩⟩
theorem b_strI : rStrI [.int i] H Q = (i.natAbs.log2 < 1920 ∧ Q (.str (toString i)) H) := propext ⟨fun ⟨_, e1, h⟩ => by cases e1; exact h, fun h => ⟨_, rfl, h⟩⟩
theorem b_intS : rIntS [.str z] H Q = ∃ n, PySem.intText? z = some n ∧ z.length ≤ 640 ∧ Q (.int n) H := propext ⟨fun ⟨_, n, e1, h⟩ => by cases e1; exact ⟨n, h⟩, fun ⟨n, h⟩ => ⟨_, n, rfl, h⟩⟩
theorem b_ixS : rIxS (.str z) (.int i) H Q = ∃ c, 0 ≤ i ∧ i < 2 ^ 63 ∧ i < z.length ∧ z.cps[i.toNat]? = some c ∧ Q (.str ⟨#[c]⟩) H := propext ⟨fun ⟨_, _, c, e1, e2, h⟩ => by cases e1; cases e2; exact ⟨c, h⟩, fun ⟨c, h⟩ => ⟨_, _, c, rfl, rfl, h⟩⟩
theorem a_fmt : tFmt te σ H Q = te σ H fun x H1 => rFmt x H1 Q := rfl
theorem b_fmtS : rFmt (.str y) H Q = (y.length ≤ sizeLine ∧ Q (.str y) H) := propext (Iff.intro (fun h => match h with
  | Or.inl ⟨_, e, h⟩ => by cases e; exact h
  | Or.inr ⟨_, e, _⟩ => by cases e) fun h => Or.inl ⟨_, rfl, h⟩)
theorem b_fmtI : rFmt (.int i) H Q = (i.natAbs.log2 < 1920 ∧ Q (.str (toString i)) H) := propext (Iff.intro (fun h => match h with
  | Or.inl ⟨_, e, _⟩ => by cases e
  | Or.inr ⟨_, e, h⟩ => by cases e; exact h) fun h => Or.inr ⟨_, rfl, h⟩)
theorem a_fs {ts : List TE} : tFs ts σ H Q = tJs ts Str.empty σ H fun out H1 => Q (.str out) H1 := rfl
theorem a_jsN {acc : Str} {q : Str → Hp → Prop} : tJs [] acc σ H q = q acc H := rfl
theorem a_jsC {t : TE} {ts : List TE} {acc : Str} {q : Str → Hp → Prop} : tJs (t :: ts) acc σ H q = t σ H fun x H1 => ∃ y : Str, x = .str y ∧ (acc ++ y).length ≤ sizeLine ∧ tJs ts (acc ++ y) σ H1 q := rfl
theorem b_notInKD {d : Addr} {kvs : List (Str × Value)} : rNotInKD d kvs (.str z) (.ref d) H Q = Q (.bl (!(kvs.lookup z).isSome)) H := propext ⟨fun ⟨_, e1, _, h⟩ => by cases e1; exact h, fun h => ⟨_, rfl, rfl, h⟩⟩
theorem b_ixKD {d : Addr} {kvs : List (Str × Value)} : rIxKD d kvs (.ref d) (.str z) H Q = ∃ u v, kvs.lookup z = some u ∧ RelV v u ∧ Q v H := propext ⟨fun ⟨_, u, v, _, e1, h⟩ => by cases e1; exact ⟨u, v, h⟩, fun ⟨u, v, h⟩ => ⟨_, u, v, rfl, rfl, h⟩⟩
theorem a_callS {sp : Sp} {E : L2.St → XK} {tas : TA} : tCallS sp E tas σ H Q = tas σ H fun vs H1 => sp vs H1 Q (E σ) := rfl
theorem a_raise {C : Addr} {W : WX} {D : Ends} : tRaise C W D σ H = W (.ref C) none σ H := rfl
theorem b_gTup' {K : PySem.W.Frag} {n : Nat} {t : TGs} {q : L2.St → Hp → Prop} {p : Addr} {xs : List V} (h : SqT K H p xs) (hl : xs.length = n) (h2 : t xs σ H q) : gTup K n t (.ref p) σ H q := ⟨p, xs, rfl, h, hl, h2⟩
/-- one of three texts of tuples' texts -/
theorem op_addSY : OpR X (binaryOp .Add) rCatS := op_add_str
theorem call_lenSY : CallR X (.builtin "len") rLenS := call_len_str
theorem call_strIY : CallR X (.type "str") rStrI := call_str_int
theorem call_intSY : CallR X (.type "int") rIntS := call_int_str
theorem pe_ixSY {a b : Expr} {ta tb : TE} (ha : PE X a ta) (hb : PE X b tb) (hs : PlainIxT b) : PE X (.Subscript a b pos) (tOp rIxS ta tb) := pe_item_str ha hb hs
theorem mt_isasciiY : MtR X "str.isascii" (rT0 fun a => .bl (Txt.isascii a)) := mt_isascii
theorem mt_isdigitY : MtR X "str.isdigit" (rT0 fun a => .bl (Txt.isdigit a)) := mt_isdigit
end
theorem b_at5 {x y z w v u : V} {xs : List V} : atI (x :: y :: z :: w :: v :: u :: xs) 5 = some u := atI_nat (j := 5) rfl
theorem b_at6 {x y z w v u a : V} {xs : List V} : atI (x :: y :: z :: w :: v :: u :: a :: xs) 6 = some a := atI_nat (j := 6) rfl
theorem b_at7 {x y z w v u a b : V} {xs : List V} : atI (x :: y :: z :: w :: v :: u :: a :: b :: xs) 7 = some b := atI_nat (j := 7) rfl
theorem b_at8 {x y z w v u a b c : V} {xs : List V} : atI (x :: y :: z :: w :: v :: u :: a :: b :: c :: xs) 8 = some c := atI_nat (j := 8) rfl
theorem eqV_str {a b : Str} : eqV (.str a) (.str b) = decide (a = b) := by
  first
  | rfl
  | (show (a == b) = decide (a = b); rw [Bool.beq_eq_decide_eq])
  | simp [eqV]
theorem iteT' {c A B : Prop} [Decidable c] (hc : c) (h : A) : if c then A else B := by rw [if_pos hc]; exact h
theorem iteF' {c A B : Prop} [Decidable c] (hc : ¬ c) (h : B) : if c then A else B := by rw [if_neg hc]; exact h
/-! ### data: none, marks, mails -/
section
variable {K : PySem.W.Frag} {H : Hp} {v u : V} {α : Type} [DecidableEq α] [PySem.W.Datum α] [PySem.W.SomeDatum α]
theorem dvL_strs : ∀ ns : List Str, DvL K H (ns.map V.str) ns
  | [] => .nil
  | n :: ns => .cons (dv_str n) (dvL_strs ns)
theorem dv_none : Dv K H .non (none : Option α) := Dp.non
theorem dv_some {x : α} (h : Dv K H v x) : Dv K H v (some x) := h
theorem dv_none_of (h : Dv K H v (none : Option α)) : v = .non := by
  have h : Dp K H v .none := h
  cases h; rfl
theorem dv_some_of {x : α} (h : Dv K H v (some x)) : Dv K H v x := h
theorem dv_mail {a : Addr} {m : Tx.Mail} (h : SqT K H a [.str m.w, .int m.l, .int m.a, .int m.b, u]) (k : Dv K H u m.m) : Dv K H (.ref a) m := Dp.tup h (.cons (.str _) (.cons (.int _) (.cons (.int _) (.cons (.int _) (.cons k .nil)))))
theorem dv_mail_of {m : Tx.Mail} (h : Dv K H v m) : ∃ a u, v = .ref a ∧ SqT K H a [.str m.w, .int m.l, .int m.a, .int m.b, u] ∧ Dv K H u m.m := by
  have h : Dp K H v (.tuple [.str m.w, .int m.l, .int m.a, .int m.b, PySem.W.Datum.toD m.m]) := h
  cases h with
  | tup a b =>
    cases b with
    | cons b1 b =>
      cases b with
      | cons b2 b =>
        cases b with
        | cons b3 b =>
          cases b with
          | cons b4 b =>
            cases b with
            | cons b5 b =>
              cases b
              cases b1; cases b2; cases b3; cases b4
              exact ⟨_, _, rfl, a, b5⟩
end
instance : Flat Tx.Mail := ⟨fun x => by
  show noL (.tuple [.str x.w, .int x.l, .int x.a, .int x.b, PySem.W.Datum.toD x.m]) = true
  have e : noL (PySem.W.Datum.toD x.m) = true := by
    cases x.m with
    | none => rfl
    | some p => exact Flat.flat p
  simp [noL, noLs, e]⟩
/-! ### a comprehension over a text -/
section
variable {σ : L2.St} {H : Hp} {Q : VK} {K : PySem.W.Frag} {g : TG} {te : TE} {vs : List Nat} {β : Type} [DecidableEq β] [PySem.W.Datum β] [Flat β]
theorem comp_str (z : List Nat) (F : Nat → β) (hz : z.length ≤ 100000)
    (el : ∀ (c : Nat) (H' : Hp), Same H H' → c ∈ z → ∀ (R : VK), (∀ y H'', Same H' H'' → Dv K H'' y (F c) → R y H'') → g (.str ⟨#[c]⟩) (wipe σ vs) H' fun σ2 H2 => wipe σ2 vs = wipe σ vs ∧ te σ2 H2 R)
    (hd : ∀ D ys H', H D = none → Same H H' → H' D = some (.lst ys) → DvL K H' ys (z.map F) → Q (.ref D) H') : LoopC (Its (SX.S z)) g tYes te vs σ Q H := by
  intro D hD
  refine ⟨fun i m H' => m + i = z.length ∧ Same H H' ∧ ∃ ys, H' D = some (.lst ys) ∧ DvL K H' ys ((z.take i).map F), ⟨z.length, rfl, Same.new hD, [], upd_same, .nil⟩, ?_⟩
  rintro i m H' ⟨hm, s1, ys, h1, h2⟩
  have esz : (SX.S z).cps.size = z.length := by simp
  by_cases hlt : i < z.length
  · refine .inr ⟨by show i < (SX.S z).cps.size; omega, fun H4 => Same H H4 ∧ ∃ ys, H4 D = some (.lst ys) ∧ DvL K H4 ys ((z.take (i + 1)).map F), fun H4 h4 => ⟨m - 1, by omega, by omega, h4⟩, ?_⟩
    rintro x H2 ⟨rfl, c, hc, rfl⟩
    have hc' : z[i]? = some c := by
      rw [← hc]
      simp
    have et : z.take (i + 1) = z.take i ++ [c] := by rw [List.take_add_one, hc']; rfl
    have k := el c H2 s1 (List.mem_of_getElem? hc') (fun y H4 => ∃ acc, H4 D = some (.lst acc) ∧ acc.length < sizeLine ∧ (Same H (upd H4 D (.lst (acc ++ [y]))) ∧ ∃ ys, (upd H4 D (.lst (acc ++ [y]))) D = some (.lst ys) ∧ DvL K (upd H4 D (.lst (acc ++ [y]))) ys ((z.take (i + 1)).map F))) fun y H4 s2 dy => by
      have hn := h2.length
      rw [List.length_map, List.length_take] at hn
      refine ⟨ys, s2 _ _ h1, sz_lt (by omega), (s1.trans s2).mut hD, ys ++ [y], upd_same, ?_⟩
      rw [et, List.map_append]
      have s3 : Frm (fun b => b = D) H4 (upd H4 D (.lst (ys ++ [y]))) := Frm.upd (s2 _ _ h1) (fun z => z)
      exact ((h2.same s2).frm s3).snoc (dy.frm s3)
    exact k
  · refine .inl ⟨by show (SX.S z).cps.size ≤ i; omega, ?_⟩
    rw [List.take_of_length_le (by omega)] at h2
    exact hd D ys H' hD s1 h1 h2
end
theorem b_slX {z : Str} {lo hi : Option Int} {H : Hp} {Q : VK} : C8.rSlX (.str z) lo hi H Q = (z.length ≤ sizeLine ∧ Q (.str (Txt.slice z lo hi)) H) := propext ⟨fun ⟨_, e, h⟩ => by cases e; exact h, fun h => ⟨_, rfl, h⟩⟩
theorem pick_mem {xs : List V} {i : Int} (h0 : 0 ≤ i) (h1 : i < xs.length) : ∃ v, atI xs i = some v ∧ v ∈ xs := by
  obtain ⟨n, rfl⟩ : ∃ n : Nat, i = (n : Int) := ⟨i.toNat, (Int.toNat_of_nonneg h0).symm⟩
  have hl : n < xs.length := by omega
  exact ⟨xs[n], atI_nat (List.getElem?_eq_getElem hl), List.getElem_mem hl⟩
theorem cutV_mid {xs : List V} {k n : Nat} (h : n ≤ xs.length) : cutV xs (some (k : Int)) (some (n : Int)) = (xs.drop k).take (n - k) := by
  unfold cutV
  rw [HT.sIx_nat, HT.sIx_nat, Nat.min_eq_left h]
  by_cases hk : k ≤ xs.length
  · rw [Nat.min_eq_left hk]
  · rw [List.drop_eq_nil_of_le (show xs.length ≤ min k xs.length by omega), List.drop_eq_nil_of_le (show xs.length ≤ k by omega), List.take_nil, List.take_nil]
end Y

set_option Elab.async false
set_option linter.all false
set_option maxRecDepth 100000
/-! A comprehension over a list, in a def that is called while an exception is handled. -/
namespace Y
open PySem PySem.Spec PyProof.Rows L2
section
variable {prog : Program} {w : World} {A : Around} {E : Value → Shared → Prop} {s : Shared}
/-- a list's iterator at its end, an exception being handled -/
theorem hot_end {it l x1 : Addr} {i : Nat} {items : Array Value} {Q : Option Value → Shared → Prop} (hot : HotX.HotAt A x1 s.heap) (hit : s.heap.IsListIter it l i) (hl : s.heap.IsList l items) (hx : items[i]? = none)
    (hQ : ∀ h', (∀ b o, b ≠ it → s.heap.get? b = some o → h'.get? b = some o) → Q none { s with heap := h' }) : wpAny (model prog w) A (pyNext (.ref it)) Q E s := by
  obtain ⟨hh, ox, vx, gx, dx, cx⟩ := hot
  obtain ⟨oi, gi, ci, di⟩ := id hit
  obtain ⟨ol, gl, _, nl, dl⟩ := hl
  have ne1 : x1 ≠ it := fun z => by
    subst z
    rw [gi] at gx
    cases gx
    rw [di] at dx
    cases dx
    simp at cx
  unfold pyNext
  refine wpAny_bind (wpAny_attempt (wpAny_callSpecial?_slot (name := Str.ofString "__next__") hit.typeIs slot_listiter_next
    (wpAny_call_entry slot_listiter_next hit.typeIs entry_listiter_next ?body (args_listiter_next _))))
  case body =>
    show wpAny _ _ (field (.ref it) 0 >>= fun z => _) _ _ s
    refine wpAny_bind (wpAny_field gi di (x := .ref l) rfl ?_)
    rw [if_neg (show ¬ ((Value.ref l == Value.none) = true) from nofun)]
    show wpAny _ _ (field (.ref it) 1 >>= fun z => _) _ _ s
    refine wpAny_bind (wpAny_field gi di (x := .int i 0) rfl ?_)
    show wpAny _ _ (seqItems? (.ref l) >>= fun z => _) _ _ s
    refine wpAny_bind (wpAny_seqItems gl dl ?_)
    simp only [Int.toNat_natCast, hx]
    refine wpAny_bind (wpAny_rule (wpAny_bind (wpAny_setField gi di (by simp) ?_)))
    have up : ∀ b o, b ≠ it → s.heap.get? b = some o → (s.heap.update it (Obj.mapFields fun x => x.setIfInBounds 0 Value.none)).get? b = some o := fun b o hb e => by
      rw [Heap.get?_update_other _ _ (fun z => hb z.symm)]
      exact e
    show wpAny _ _ (newExc (.type "StopIteration") [] >>= fun z => _) _ _ _
    refine wpAny_bind ?_
    simp only [newExc, newTuple]
    refine wpAny_bind (wpAny_newObj_type ?_ (by size_fits))
    refine wpAny_bind (m := firstArgMember _ _) (wpAny_of_eq (a := Value.none) (by first | rfl | (simp only [firstArgMember]; rfl)) ?_)
    refine wpAny_newObj_type ?_ (by size_fits)
    have gx' := Heap.get?_push_of_some { cls := .type "StopIteration", data := .fields #[] } (Heap.get?_push_of_some { cls := .type "tuple", data := .seq #[] } (up x1 ox ne1 gx))
    refine HotX.raiseNew_hot (x1 := x1) ⟨hh, ox, vx, Heap.get?_push_of_some _ (Heap.get?_push_of_some _ (up x1 ox ne1 gx)), dx, cx⟩ (Nat.ne_of_lt (Heap.lt_size (Heap.get?_push_of_some _ (up x1 ox ne1 gx)))) (Heap.get?_push_size _ rfl) rfl (by first | (simp; done) | (simp; omega) | (simp only [Array.size_append]; simp; omega)) ?_
    refine wpAny_bind (wpAny_isInstance (T := "StopIteration") (b := true) ⟨_, Heap.get?_update_self _ (Heap.get?_push_size _ rfl) rfl, rfl⟩ isSubtype_stop ?_)
    refine wpAny_pure (hQ _ fun b o hb e => ?_)
    have e2 := Heap.get?_push_of_some { cls := .type "tuple", data := .seq #[] } (up b o hb e)
    rw [Heap.get?_update_other _ _ (Nat.ne_of_gt (Heap.lt_size (Heap.get?_push_of_some _ (up b o hb e))))]
    exact Heap.get?_push_of_some _ (Heap.get?_push_of_some _ (up b o hb e))
end
section
variable {X : Cx}
/-- the handled exception stands where a block has run -/
theorem hot_blk {pins : List (Addr × Obj)} {σ σ' : L2.St} {H H' : Hp} {s s' : Shared} {scope : Scope} {ce : Env} {it : Addr} (hot : L2H.HotC X) (I : Inv X pins σ H s) (hit : it ∉ (X.pn ++ pins).map (·.1)) (B : Inv (X.blk s H scope ce [it]) [] σ' H' s') : ∃ x1, HotX.HotAt X.A x1 s'.heap := by
  obtain ⟨p, ⟨hh, vx, dx, cx⟩, hp⟩ := hot
  obtain ⟨gp, fp, nl, nf, _⟩ := I.pin p (List.mem_append_left _ hp)
  refine ⟨p.1, hh, p.2, vx, B.base.keep p.1 p.2 gp fp (fun m => ?_) (fun m => ?_), dx, cx⟩
  · exact (List.mem_cons.mp (I.stkSub p.1 m)).elim nl nf
  · exact hit (List.mem_map.mpr ⟨p, List.mem_append_left _ hp, List.mem_singleton.mp m⟩)
theorem pe_lcH {elt iter tg : Expr} {scope : Scope} {own : List (Str × Nat)} {pos : Pos} {tl te : TE} {g : TG} (hot : L2H.HotC X) (hN : X.N.Nodup) (hi : PE X iter tl) (ok : BlkOk X.N X.env.scope scope own)
    (hg : ∀ (s : Shared) (H : Hp) (C : Addr) (cl : List (Str × Addr)) (fp : List Addr), PG (X.blk s H scope (compEnvC scope cl C X.env) fp) tg g)
    (he : ∀ (s : Shared) (H : Hp) (C : Addr) (cl : List (Str × Addr)) (fp : List Addr), PE (X.blk s H scope (compEnvC scope cl C X.env) fp) elt te) (hs : ∀ x, foldedSetIterable iter X.env x = pure x := by intro _; rfl) :
    PE X (.ListComp elt [⟨tg, iter, [], 0⟩] scope pos) (tLc (iList X.K tl) g tYes te (own.map (·.2))) := by
  refine ⟨fun pins s σ H Q I h => ?_⟩
  rw [eval_ListComp]
  have fr : ∀ y ∈ scope.names, y.2 = .free → ∃ c, X.env.cells.lookup y.1 = some c := fun y hy e => (ok.free y hy e).elim (fun k => I.ok.has _ (.inl k)) fun k => I.ok.has _ (.inr k)
  refine wpAny_comprehension_free (use := none) rfl hs (closure_ok fr) ok.kind (fun y hy e => (ok.uniq y hy).trans (congrArg some e)) ?_
  refine thn (hi.run pins s σ H _ I h) fun lv s1 hl => ?_
  obtain ⟨xv, H1, I1, rl, a, rfl, ⟨xs, hq⟩, loopQ⟩ := hl
  cases rl
  obtain ⟨its, rv, pl, _⟩ := I1.list hq
  refine wpAny_pyIter_list pl.isList ?_
  -- the iterator, the new list
  obtain ⟨it, hit0⟩ : ∃ it, it = s1.heap.objs.size := ⟨_, rfl⟩
  obtain ⟨s2, hs2⟩ : ∃ s2 : Shared, s2 = { s1 with heap := s1.heap.push { cls := .type "list_iterator", data := .fields #[.ref a, .int 0 0] } } := ⟨_, rfl⟩
  have I2 : Inv X pins σ H1 s2 := by
    rw [hs2]
    exact I1.kept (t' := s1.toks) fun b o e => Heap.get?_push_of_some _ e
  have ti2 : s2.heap.IsListIter it a 0 := by
    rw [hs2, hit0]
    exact ⟨_, Heap.get?_push_size _ rfl, rfl, rfl⟩
  have fp2 : FpOk X pins H1 it := I1.fpOk (Nat.le_of_eq hit0.symm) (I1.hok.fresh (Nat.le_of_eq hit0.symm))
  rw [← hs2, ← hit0]
  refine wpAny_newObj_type (newEnv_comp ?_) (by show 0 ≤ sizeLine; decide)
  obtain ⟨D, hD⟩ : ∃ D, D = s2.heap.objs.size := ⟨_, rfl⟩
  have noD : H1 D = none := I2.hok.fresh (Nat.le_of_eq hD.symm)
  obtain ⟨W, ⟨m0, w0⟩, turn⟩ := loopQ D noD
  obtain ⟨s3, hs3⟩ : ∃ s3 : Shared, s3 = { s2 with heap := s2.heap.push { cls := .type "list", data := .seq ([] : List Value).toArray } } := ⟨_, rfl⟩
  obtain ⟨H3, hH3⟩ : ∃ H3 : Hp, H3 = upd H1 D (.lst []) := ⟨_, rfl⟩
  have old3 : ∀ b o, s2.heap.get? b = some o → s3.heap.get? b = some o := fun b o e => by
    rw [hs3]
    exact Heap.get?_push_of_some _ e
  have I3 : Inv X pins σ H3 s3 := by
    rw [hs3, hH3]
    refine I2.laid (t' := s2.toks) (fun b o e => Heap.get?_push_of_some _ e) (Nat.le_of_eq hD.symm) ⟨Nat.zero_le _, [], 0, .nil, ?_⟩
    rw [hD]
    exact Heap.get?_push_size _ rfl
  have itlt : it < s2.heap.objs.size := by
    obtain ⟨o, e, _⟩ := ti2
    exact Heap.lt_size e
  have itD : it ≠ D := by rw [hD]; exact Nat.ne_of_lt itlt
  have fp3 : FpOk X pins H3 it := by
    refine ⟨?_, fp2.2⟩
    rw [hH3, upd_ne itD]
    exact fp2.1
  have sz3 : it < s3.heap.objs.size := by
    obtain ⟨o, e, _⟩ := ti2
    exact Heap.lt_size (old3 _ _ e)
  have I4 := block_start (fp := [it]) I3 ok hN fun b hb => by
    rw [List.mem_singleton.mp hb]
    exact ⟨fp3, sz3⟩
  have pg := hg s3 H3 s3.heap.objs.size (cellsFrom (s3.heap.objs.size + 1) scope.names (cloFrom X.env.cells scope.names [])) [it]
  have pe := he s3 H3 s3.heap.objs.size (cellsFrom (s3.heap.objs.size + 1) scope.names (cloFrom X.env.cells scope.names [])) [it]
  rw [← hD]
  rw [← hH3] at w0
  rw [← hs3]
  obtain ⟨cl, hcl⟩ : ∃ cl, cl = cellsFrom (s3.heap.objs.size + 1) scope.names (cloFrom X.env.cells scope.names []) := ⟨_, rfl⟩
  obtain ⟨L, hL⟩ : ∃ L, L = s3.heap.objs.size := ⟨_, rfl⟩
  obtain ⟨s4, hs4⟩ : ∃ s4 : Shared, s4 = { s3 with heap := pushCells (s3.heap.push { cls := .type "dict", data := .dict #[] }) scope.names } := ⟨_, rfl⟩
  show codeAny _ _ (.compStart (.ListComp elt [⟨tg, iter, [], 0⟩] scope pos) 0 (.ref it) (.ref D) (compEnvC scope (cellsFrom (s3.heap.objs.size + 1) scope.names (cloFrom X.env.cells scope.names [])) s3.heap.objs.size X.env))
    (compPost (model X.prog X.w) X.A X.xe none (EP X pins σ Q) (.ref D) s3.heap.objs.size) { s3 with heap := pushCells (s3.heap.push { cls := .type "dict", data := .dict #[] }) scope.names }
  rw [← hs4, ← hcl, ← hL]
  rw [← hs4, ← hcl, ← hL] at I4
  rw [← hcl, ← hL] at pg pe
  have ti4 : s4.heap.IsListIter it a 0 := by
    obtain ⟨o, e, r⟩ := ti2
    refine ⟨o, ?_, r⟩
    rw [hs4]
    exact pushCells_keeps _ _ _ _ (Heap.get?_push_of_some _ (old3 _ _ e))
  obtain ⟨ce, hce⟩ : ∃ ce, ce = compEnvC scope cl L X.env := ⟨_, rfl⟩
  rw [← hce]
  rw [← hce] at I4 pg pe
  have cL : ce.locals = L := by rw [hce]; rfl
  have noIt : it ∉ (X.pn ++ pins).map (·.1) := fun m => by
    obtain ⟨p, hp, e⟩ := List.mem_map.mp m
    exact fp3.2.2.2.2.2 p hp e
  have stat : ∀ {σ' : L2.St} {H' : Hp} {s' : Shared}, Inv (X.blk s3 H3 scope ce [it]) [] σ' H' s' → H' it = none → FpOk (X.blk s3 H3 scope ce [it]) [] H' it := fun I' hn =>
    ⟨hn, (I'.ok.exf it (List.mem_singleton.mpr rfl)).1, I'.ok.exfs it (List.mem_singleton.mpr rfl), .inl (List.mem_singleton.mpr rfl), fun x c e => (I'.ok.exf it (List.mem_singleton.mpr rfl)).2 x c e, fun p hp => nomatch hp⟩
  have loop : codeAny (model X.prog X.w) X.A (.compLoop (.ListComp elt [⟨tg, iter, [], 0⟩] scope pos) 0 (.ref it) (.ref D) ce) (compPost (model X.prog X.w) X.A X.xe none (EP X pins σ Q) (.ref D) L) s4 := by
    refine compLoop_any (fun n t => ∃ i H', Inv (X.blk s3 H3 scope ce [it]) [] (wipe σ (own.map (·.2))) H' t ∧ t.heap.IsListIter it a i ∧ H' it = none ∧ W i n H') ?_ m0 ⟨0, H3, I4, ti4, fp3.1, w0⟩
    rintro n t ⟨i, Ht, It', tit, tno, wt⟩
    rcases turn i n Ht wt with ⟨⟨zs, hz, hle⟩, qq⟩ | ⟨⟨zs, z, hz, hx⟩, Nx, hNx, step⟩
    · -- the end
      obtain ⟨jts, rz, plz, _⟩ := It'.list hz
      obtain ⟨x1, hx1⟩ := hot_blk hot I3 noIt It'
      obtain ⟨f0, f1, f2, f3, f4, f5⟩ := stat It' tno
      have hl := rz.length
      refine hot_end hx1 tit plz.isList (by simp; omega) fun h' eb => ?_
      have I6 : Inv (X.blk s3 H3 scope ce [it]) [] (wipe σ (own.map (·.2))) Ht { t with heap := h' } := It'.turned (t' := t.toks) eb f0 f1 f3 f4 f5
      have I7 : Inv X pins σ Ht { t with heap := h' } := I3.call' (ch := [it]) I6.os I6.base I6.hok I6.bare fun b hb => by
        rw [List.mem_singleton.mp hb]
        exact ⟨fp3.2.2.2.1, fp3.2.1, fp3.2.2.2.2.1, fp3.2.2.2.2.2⟩
      have nL : Ht L = none := by
        have q0 : Ht ce.locals = none := I6.free
        rw [cL] at q0
        exact q0
      obtain ⟨mm, hn, _⟩ := I6.loc
      have hn : Heap.Ns h' ce.locals mm := hn
      rw [cL] at hn
      obtain ⟨e0, e1, e2, e3, e4, e5⟩ := I3.fpOk (b := L) (Nat.le_of_eq hL.symm) nL
      exact ⟨mm, hn, fun h'' sb => ⟨.ref D, Ht, I7.turned (t' := t.toks) (fun b o hb e => (sb.2 b hb).trans e) e0 e1 e3 e4 e5, rfl, qq⟩⟩
    · -- a turn
      obtain ⟨jts, rz, plz, _⟩ := It'.list hz
      obtain ⟨u, hu, ru⟩ := rz.get hx
      obtain ⟨f0, f1, f2, f3, f4, f5⟩ := stat It' tno
      refine wpAny_pyNext_list_item tit plz.isList (x := u) (by simpa using hu) fun h' ti' sb => ?_
      have I6 : Inv (X.blk s3 H3 scope ce [it]) [] (wipe σ (own.map (·.2))) Ht { t with heap := h' } := It'.turned (t' := t.toks) (fun b o hb e => (sb.2 b hb).trans e) f0 f1 f3 f4 f5
      obtain ⟨oi, gi, ci, di⟩ := id ti'
      refine go_of (s := { t with heap := h' }) gi ci di (by decide) ?_
      have I7 := I6.pinned (fp := [it]) (fun b hb => by rw [List.mem_singleton.mp hb]; exact stat I6 tno) (fun b hb => by
        rw [List.mem_singleton.mp hb]
        exact ⟨oi, gi, fun v z => by rw [di] at z; cases z⟩)
      refine thnF (pg.run _ _ _ Ht z u _ I7 ru (step z Ht ⟨rfl, fun ys hy => by rw [It'.list_inj hy hz]; exact hx⟩)) fun _ t8 ⟨σ8, H8, I8, hw8, q8⟩ => ?_
      refine wpAny_tests_nil ?_
      simp only [if_true]
      have q8 : te σ8 H8 fun y H4 => ∃ acc, H4 D = some (.lst acc) ∧ acc.length < sizeLine ∧ Nx (upd H4 D (.lst (acc ++ [y]))) := q8
      refine thnF (pe.run _ t8 σ8 H8 _ I8 q8) fun y t10 ⟨yv, H10, I10, r10, acc, hD10, hz10, nx⟩ => ?_
      refine app_ok (X := X.blk s3 H3 scope ce [it]) I10 hD10 hz10 r10 fun t11 I11 => ?_
      obtain ⟨m', hm, w'⟩ := hNx _ nx
      have pin11 := I11.pin (it, oi) (List.mem_append_right _ (List.mem_append_right _ (mem_pinsAt (List.mem_singleton.mpr rfl) gi)))
      refine ⟨m', hm, i + 1, _, (I11.unpinned (pins := [])).weak (by rw [← hw8, wipe_length]) (fun j v e => ?_), ?_, pin11.2.1, w'⟩
      · rw [← hw8] at e
        exact (wipe_some e).1
      · obtain ⟨o', g', r'⟩ := ti'
        rw [gi] at g'
        cases g'
        exact ⟨oi, pin11.1, r'⟩
  exact codeAny_compStart_list loop (wpAny_pyIter_listiter ti4 loop)
end
end Y

set_option Elab.async false
set_option linter.all false
set_option maxRecDepth 100000
/-! A def that is handed the handled exception itself. -/
namespace Y
open PySem PySem.Spec PyProof.Rows L2 L2H
/-- the promise of a def that is called while p is handled -/
structure FnE (P : Program) (w : World) (K : PySem.W.Frag) (mg : Str → Option Value) (base : Heap) (k : Nat) (f : Addr) (fd : FuncData) (ps : List Str) (p : Addr × Obj) (sp : Sp) : Prop where
  len : ∀ vs H Q E, sp vs H Q E → vs.length = ps.length
  run : ∀ (A : Around) (outer : List Env) (s : Shared) (H : Hp) (args : Args) (us : List Value) (vs : List V) (Q : VK) (E : XK), RoomH k A → Hot1 A p → PinOk outer H s p → Env0 P w K mg base A outer s H → BindsTo s fd args (ps.zip us) → Vals vs us → sp vs H Q E →
    codeAny (model P w) A (.call (.ref f) args) (CR CX0 outer P w H s Q E) s
theorem fn_E {P : Program} {w : World} {K : PySem.W.Frag} {mg : Str → Option Value} {base : Heap} {k : Nat} {x qual : Str} {st : Stmt} {f : Addr} {fd : FuncData} {N ps : List Str} {p : Addr × Obj} {sp : Sp} (F : Fun K x qual st f fd) (S : FnScope N ps (defScope st)) (len : ∀ vs H Q E, sp vs H Q E → vs.length = ps.length)
    (body : ∀ (cdv : Value) (A : Around) (outer : List Env) (s : Shared) (H : Hp) (vs : List V) (Q : VK) (E : XK), Hot1 A p → RoomH k (A.deeper (envOfC qual (defScope st) s.heap.objs.size f cdv)) → sp vs H Q E →
      ∃ t, PSs (cxH CX0 P w K mg base N qual (defScope st) f cdv A outer s H E p) (defBody st) t ∧ t { nx := fun _ H' => Q .non H', rt := Q } (L2.start N vs) H) : FnE P w K mg base (k + 1) f fd ps p sp := by
  obtain ⟨oc, od, kV, doc, pm, an, cdv, ct, osl, rfl, lk, hcd⟩ := F.ex
  refine ⟨len, ?_⟩
  intro A outer s H args us vs Q E room hot pin env bind vals want
  have nv := len _ _ _ _ want
  have hK : K.In s.heap := env.mod.kin.keeps fun b o e => (env.bs b o e).1
  have kinds : ∀ y ∈ ps.zip us, (defScope st).names.lookup y.1 = some .local ∨ ((defScope st).names.lookup y.1 = some .cell ∧ ((cellsFrom (s.heap.objs.size + 1) (defScope st).names []).lookup y.1).isSome = true) := by
    intro y hy
    obtain ⟨n, v⟩ := y
    refine (S.par n (List.of_mem_zip hy).1).imp _root_.id fun c => ⟨c, ?_⟩
    exact PySem.W.cellsFrom_some _ _ _ (.inl c)
  refine codeAny_call_function room.depth (hK _ _ lk) rfl S.co S.gen rfl (PySem.W.codeRec_of hK hcd) (bind _ _ _ _ ?_)
  refine wpAny_newFunctionEnv_cells S.kind kinds fun e he s1 x => ?_
  cases he
  refine ⟨(env.mod.nolimit.keeps fun b o e => (env.bs b o e).1).keeps x.toInCall.keep, codeAny_func ?_⟩
  obtain ⟨t, ht, hq⟩ := body cdv A outer s H vs Q E hot (room.deeper _) want
  refine wpAny_mono (ht.run [] s1 (L2.start N vs) H _ (inv_startH S pin env nv vals x) hq) (fun fl s' hs => ?_) fun _ _ z => z
  cases fl with
  | ret u =>
    obtain ⟨v, σ', H', J, rv, q⟩ := hs
    exact ⟨v, H', J.os, J.bare, J.base, J.hok, rv, q⟩
  | next =>
    obtain ⟨σ', H', J, q⟩ := hs
    exact ⟨V.non, H', J.os, J.bare, J.base, J.hok, rfl, q⟩
  | brk => exact hs.elim fun _ z => z.elim fun _ z => z.2.elim
  | cont => exact hs.elim fun _ z => z.elim fun _ z => z.2.elim
/-- .. as one fact, over every exception of class cls -/
structure CalE (P : Program) (w : World) (K : PySem.W.Frag) (mg : Str → Option Value) (base : Heap) (k : Nat) (x : Str) (ps : List Str) (sp : Addr → Value → Option Addr → Sp) : Prop where
  ex : ∃ (f : Addr) (fd : FuncData), (∀ (p : Addr × Obj) (cls : Value) (d : Option Addr), L2N.Zn cls d p.2 → (∃ vs, p.2.data = .fields vs) → FnE P w K mg base k f fd ps p (sp p.1 cls d)) ∧ mg x = some (.ref f) ∧ PySem.W.keepIn K (.ref f) = true ∧ Binds K fd ps []
section
variable {X : Cx}
theorem pe_callE {k : Nat} {x : Str} {ps : List Str} {sp : Addr → Value → Option Addr → Sp} {a : Addr} {oe : Obj} {cls : Value} {d : Option Addr} {pn : List (Addr × Obj)} {q pos : Pos} {e : Expr} {es : List Expr} {t : TA}
    (C : CalE X.prog X.w X.K X.mg X.base k x ps sp) (hr : Room k X.A) (hz : L2N.Zn cls d oe) (hf : ∃ vs, oe.data = .fields vs) (ha : PA (X.suite a ((a, oe) :: pn)) (e :: es) t) (hg : Gl X x := by rfl)
    (hdb : (x == ("__debug__" : Str)) = false := by decide) (he : starEach (e :: es) X.env = (false, eval e X.env) :: starEach es X.env := by rfl) (hpl : (backTo pos (starEach es X.env)).any (·.1) = false := by rfl) :
    PE (X.suite a ((a, oe) :: pn)) (.Call (.Name x q) (e :: es) [] pos) (tCall (sp a cls d) [] E0 t) := by
  obtain ⟨f, fd, F, m, kp, b⟩ := C.ex
  refine ⟨fun pins s σ H Q I h => ?_⟩
  refine wpAny_Call_Name_kw (ld_glob I hg m ?_ hdb)
  refine PySem.W.callWith_K (h₀ := X.base) I.ok.mod.kin kp (thn (ha.run pos pins s σ H _ I h) fun us s1 hh => ?_) he hpl
  obtain ⟨vs, H1, I1, r, want⟩ := hh
  rw [List.append_nil] at want
  refine ⟨I1.kIn, ?_⟩
  have G := F (a, oe) cls d hz hf
  have hl : us.length = ps.length := by rw [← r.length]; exact G.len _ _ _ _ want
  have bb := b s1 us I1.kIn (by rw [List.append_nil]; exact hl)
  rw [List.append_nil] at bb
  have pk := I1.pin (a, oe) (List.mem_append_left _ List.mem_cons_self)
  obtain ⟨vs0, hv0⟩ := hf
  have hot : Hot1 (X.suite a ((a, oe) :: pn)).A (a, oe) := ⟨rfl, vs0, hv0, hz.2.2 vs0 hv0⟩
  refine wpAny_call (codeAny_mono (G.run _ X.stack s1 H1 ⟨us, []⟩ us vs Q E0 ⟨hr.dp, hr.un⟩ hot ⟨pk.1, pk.2.1, fun hm => (List.mem_cons.mp (I1.stkSub a hm)).elim pk.2.2.1 pk.2.2.2.1, pk.2.2.2.2⟩ I1.env0 bb r want) fun r s' hq => ?_)
  cases r with
  | error e => exact hq.elim
  | ok fl =>
    cases fl with
    | ret u => exact I1.after hq
    | next => exact False.elim hq
    | brk => exact False.elim hq
    | cont => exact False.elim hq
/-- isinstance(e, C), e the handled exception -/
theorem call_isH {p : Addr × Obj} {D : Addr} (hp : p ∈ X.pn) (C : ExcC X.K D) (hz : L2N.Zn (.ref D) none p.2) (hf : ∃ vs, p.2.data = .fields vs) : CallR X (.builtin "isinstance") (rIsE X.K D p.1) := by
  intro pins s σ H xs us Q I r h
  obtain ⟨c, cv, b, rfl, hcv, e, q⟩ := h
  cases r with
  | cons rx rr =>
    cases rr with
    | cons rt rr =>
      cases rr
      cases rx
      cases hcv _ rt
      obtain ⟨vs, hv⟩ := hf
      have J : PySem.W.InstAt s.heap p.1 p.2 D none := by
        refine ⟨(I.pin p (List.mem_append_left _ hp)).1, hz.1, ?_, ?_⟩
        · unfold PySem.W.notCls
          rw [hv] <;> rfl
        · rw [hz.2.1]
          trivial
      exact PySem.W.kia_one (PySem.W.handS_kitx_exc C.hg C.hk C.hs C.hd C.ha C.hn C.ht C.hm) I.kIn J e (fun z => nomatch z) fun tk => ⟨.bl b, H, I.kept (t' := tk) fun _ _ z => z, rfl, q⟩
end
/-- what isinstance says of an error of the class at D: of ValueError, of each class of the row -/
structure OneErr (K : PySem.W.Frag) (D : Addr) (Cs : List Addr) (bs : List Bool) : Prop where
  exc : ExcC K D
  ve : PySem.W.kitOne K (.ref D) (.type "ValueError") = some true
  is : ∀ (i : Nat) (c : Addr) (b : Bool), Cs[i]? = some c → bs[i]? = some b → PySem.W.kitOne K (.ref D) (.ref c) = some b
theorem kit_own {K : PySem.W.Frag} {D C : Addr} {b : Bool} (h1 : PySem.W.isClsIn K C = true) (h2 : PySem.W.typeIn K (.ref C) = some (.type "type")) (h3 : PySem.W.subIn K (.ref D) (.ref C) = some b) : PySem.W.kitOne K (.ref D) (.ref C) = if D = C then some true else some b := by
  unfold PySem.W.kitOne
  by_cases h : D = C
  · rw [if_pos h, h]
    exact if_pos (by simp)
  · rw [if_neg h, if_neg (by simpa using h)]
    show (if ((PySem.W.clsIn K C).isSome && PySem.W.typeIn K (.ref C) == some (.type "type")) = true then PySem.W.subIn K (.ref D) (.ref C) else none) = some b
    have e : (PySem.W.clsIn K C).isSome = true := h1
    rw [e, h2, h3]
    rfl
theorem kit_VE {K : PySem.W.Frag} {D : Addr} (h : PySem.W.subIn K (.ref D) (.type "ValueError") = some true) : PySem.W.kitOne K (.ref D) (.type "ValueError") = some true := by
  unfold PySem.W.kitOne
  rw [if_neg (by simp)]
  show (if PySem.W.kitMeta "ValueError" = true then PySem.W.subIn K (.ref D) (.type "ValueError") else none) = _
  have e : PySem.W.kitMeta "ValueError" = true := by decide +kernel
  rw [e, h]
  rfl
section
variable {K : PySem.W.Frag} {D a C : Addr} {n : String} {H : Hp} {Q : VK}
theorem b_isE : rIsE K D a [.ref a, .ref C] H Q = ∃ b, PySem.W.kitOne K (.ref D) (.ref C) = some b ∧ Q (.bl b) H := propext ⟨fun ⟨c, cv, b, e, hc, hk, q⟩ => by
  cases e
  rw [← hc (.ref C) rfl] at hk
  exact ⟨b, hk, q⟩, fun ⟨b, hk, q⟩ => ⟨_, .ref C, b, rfl, fun _ r => r, hk, q⟩⟩
theorem b_isET : rIsE K D a [.ref a, .ty n] H Q = ∃ b, PySem.W.kitOne K (.ref D) (.type n) = some b ∧ Q (.bl b) H := propext ⟨fun ⟨c, cv, b, e, hc, hk, q⟩ => by
  cases e
  rw [← hc (.type n) rfl] at hk
  exact ⟨b, hk, q⟩, fun ⟨b, hk, q⟩ => ⟨_, .type n, b, rfl, fun _ r => r, hk, q⟩⟩
theorem cxH_K {CX : CXT} {P : Program} {w : World} {mg : Str → Option Value} {base : Heap} {N : List Str} {qual : Str} {scope : Scope} {f : Addr} {cd : Value} {A : Around} {outer : List Env} {s : Shared} {E : XK} {p : Addr × Obj} :
    (cxH CX P w K mg base N qual scope f cd A outer s H E p).K = K := rfl
end
theorem _root_.L2H.RoomH.units {k : Nat} {A : Around} (r : RoomH k A) : A.units + 64 < cLine := by have := r.un; omega
end Y

set_option Elab.async false
set_option linter.all false
set_option maxRecDepth 100000
/-! The layer for own classes, dicts, sorted data. -/
namespace Y
open PySem PySem.Spec PyProof.Rows L2
/-! ### methods, classes -/
structure CalM (P : Program) (w : World) (K : PySem.W.Frag) (mg : Str → Option Value) (base : Heap) (CX : CXT) (k : Nat) (C : Addr) (m : Str) (ps : List Str) (sp : Sp) : Prop where
  ex : ∃ (f : Addr) (fd : FuncData), FnOk P w K mg base CX k f fd ps sp ∧ Meth K C m f ∧ Binds K fd ps []
structure CalI (P : Program) (w : World) (K : PySem.W.Frag) (mg : Str → Option Value) (base : Heap) (CX : CXT) (k : Nat) (x : Str) (C : Addr) (ps : List Str) (sp : Sp) : Prop where
  ex : ∃ (f : Addr) (fd : FuncData), FnOk P w K mg base CX k f fd ps sp ∧ Mk K C f ∧ mg x = some (.ref C) ∧ Binds K fd ps []
section
variable {X : Cx} {k : Nat} {C : Addr} {x m : Str} {ps : List Str} {sp : Sp} {p pos apos : Pos} {o e : Expr} {es : List Expr} {ta : TE} {t : TA} {E : XK}
theorem pe_mC {pl : Sem Bool} (M : CalM X.prog X.w X.K X.mg X.base CX0 k C m ps sp) (c : Cls X.K C) (hr : Room k X.A) (ho : PE X o ta) (ha : PA X (e :: es) t)
    (hst : starEach (e :: es) X.env = (false, eval e X.env) :: starEach es X.env := by rfl) (hpl : (backTo pos (starEach es X.env)).any (·.1) = false := by rfl)
    (ht : eval (.Call (.Attribute o m apos) (e :: es) [] pos) X.env = (do
      let ov ← eval o X.env
      standAt apos.atName
      let (f, first) ← holding [ov] (getMethod ov m pl)
      callWith pos f first (backTo pos (starEach (e :: es) X.env)) (backToKw pos (keywordEach [] X.env))) := by rfl) : PE X (.Call (.Attribute o m apos) (e :: es) [] pos) (tMeth C m sp [] E0 ta t) := by
  obtain ⟨f, fd, F, hm, b⟩ := M.ex
  exact pe_meth (pl := pl) ho c hm F hr b .nil pass0 ha hst hpl ht
theorem pe_m0C {pl : Sem Bool} (M : CalM X.prog X.w X.K X.mg X.base CX0 k C m ps sp) (c : Cls X.K C) (hr : Room k X.A) (ho : PE X o ta)
    (ht : eval (.Call (.Attribute o m apos) [] [] pos) X.env = (do
      let ov ← eval o X.env
      standAt apos.atName
      let (f, first) ← holding [ov] (getMethod ov m pl)
      callWith pos f first (backTo pos (starEach [] X.env)) (backToKw pos (keywordEach [] X.env))) := by rfl) : PE X (.Call (.Attribute o m apos) [] [] pos) (tMeth C m sp [] E0 ta tNil) := by
  obtain ⟨f, fd, F, hm, b⟩ := M.ex
  exact pe_meth0 (pl := pl) ho c hm F hr b .nil pass0 ht
theorem pe_mN {pl : Sem Bool} (M : CalM X.prog X.w X.K X.mg X.base (L2N.CX X.prog X.w) k C m ps sp) (c : Cls X.K C) (hr : Room k X.A) (hx : Passes (L2N.CX X.prog X.w) X E) (ho : PE X o ta) (ha : PA X (e :: es) t)
    (hst : starEach (e :: es) X.env = (false, eval e X.env) :: starEach es X.env := by rfl) (hpl : (backTo pos (starEach es X.env)).any (·.1) = false := by rfl)
    (ht : eval (.Call (.Attribute o m apos) (e :: es) [] pos) X.env = (do
      let ov ← eval o X.env
      standAt apos.atName
      let (f, first) ← holding [ov] (getMethod ov m pl)
      callWith pos f first (backTo pos (starEach (e :: es) X.env)) (backToKw pos (keywordEach [] X.env))) := by rfl) : PE X (.Call (.Attribute o m apos) (e :: es) [] pos) (tMeth C m sp [] E ta t) := by
  obtain ⟨f, fd, F, hm, b⟩ := M.ex
  exact pe_meth (pl := pl) ho c hm F hr b .nil hx ha hst hpl ht
theorem pe_m0N {pl : Sem Bool} (M : CalM X.prog X.w X.K X.mg X.base (L2N.CX X.prog X.w) k C m ps sp) (c : Cls X.K C) (hr : Room k X.A) (hx : Passes (L2N.CX X.prog X.w) X E) (ho : PE X o ta)
    (ht : eval (.Call (.Attribute o m apos) [] [] pos) X.env = (do
      let ov ← eval o X.env
      standAt apos.atName
      let (f, first) ← holding [ov] (getMethod ov m pl)
      callWith pos f first (backTo pos (starEach [] X.env)) (backToKw pos (keywordEach [] X.env))) := by rfl) : PE X (.Call (.Attribute o m apos) [] [] pos) (tMeth C m sp [] E ta tNil) := by
  obtain ⟨f, fd, F, hm, b⟩ := M.ex
  exact pe_meth0 (pl := pl) ho c hm F hr b .nil hx ht
/-- in a try's body -/
def tMethT (C : Addr) (m : Str) (sp : Sp) (W : WX) (ta : TE) (t : TA) : TE := fun σ H Q => ta σ H fun x H1 => ∃ a dx fs, x = .ref a ∧ H1 a = some (.ins C dx fs) ∧ fs.lookup m = none ∧ t σ H1 fun vs H2 => sp (x :: vs) H2 Q (WE W σ)
theorem pe_mT {pl : Sem Bool} {W : WX} (M : CalM X.prog X.w X.K X.mg X.base (L2N.CX X.prog X.w) k C m ps sp) (c : Cls X.K C) (hr : Room k X.A) (tk : L2N.Takes X W) (ho : PE X o ta) (ha : PA X (e :: es) t)
    (hst : starEach (e :: es) X.env = (false, eval e X.env) :: starEach es X.env := by rfl) (hpl : (backTo pos (starEach es X.env)).any (·.1) = false := by rfl)
    (ht : eval (.Call (.Attribute o m apos) (e :: es) [] pos) X.env = (do
      let ov ← eval o X.env
      standAt apos.atName
      let (f, first) ← holding [ov] (getMethod ov m pl)
      callWith pos f first (backTo pos (starEach (e :: es) X.env)) (backToKw pos (keywordEach [] X.env))) := by rfl) : PE X (.Call (.Attribute o m apos) (e :: es) [] pos) (tMethT C m sp W ta t) := by
  obtain ⟨f, fd, F, hm, b⟩ := M.ex
  refine ⟨fun pins s σ H Q I h => ?_⟩
  refine PySem.W.methodCall_KW (pl := pl) (thn (ho.run pins s σ H _ I h) fun u s1 hu => ?_) ht
  obtain ⟨x, H1, I1, rx, a, dx, fs, rfl, ea, l, q⟩ := hu
  cases (show u = Value.ref a from rx)
  refine getmeth_ok I1 ea c hm l ?_
  refine PySem.W.callWith_K (first := [.ref a]) (h₀ := X.base) I.ok.mod.kin hm.kp (thn (ha.run pos pins s1 σ H1 _ I1 q) fun us s2 hv => ?_) hst hpl
  obtain ⟨vs, H2, I2, r, q2⟩ := hv
  exact ⟨I2.kIn, run_fnS (us := .ref a :: us) (vs := .ref a :: vs) F hr b (L2N.passAt tk σ) I2 (.cons rfl r) q2⟩
theorem pe_mkC (M : CalI X.prog X.w X.K X.mg X.base CX0 k x C ps sp) (hr : Room (k + 1) X.A) (ha : PA X (e :: es) t) (hg : Gl X x := by rfl)
    (hdb : (x == ("__debug__" : Str)) = false := by decide) (he : starEach (e :: es) X.env = (false, eval e X.env) :: starEach es X.env := by rfl) (hpl : (backTo pos (starEach es X.env)).any (·.1) = false := by rfl) :
    PE X (.Call (.Name x p) (e :: es) [] pos) (tMake C sp [] E0 t) := by
  obtain ⟨f, fd, F, M, hm, b⟩ := M.ex
  exact pe_make M F hr hg hm b .nil pass0 ha hdb he hpl
theorem pe_mkN (M : CalI X.prog X.w X.K X.mg X.base (L2N.CX X.prog X.w) k x C ps sp) (hr : Room (k + 1) X.A) (hx : Passes (L2N.CX X.prog X.w) X E) (ha : PA X (e :: es) t) (hg : Gl X x := by rfl)
    (hdb : (x == ("__debug__" : Str)) = false := by decide) (he : starEach (e :: es) X.env = (false, eval e X.env) :: starEach es X.env := by rfl) (hpl : (backTo pos (starEach es X.env)).any (·.1) = false := by rfl) :
    PE X (.Call (.Name x p) (e :: es) [] pos) (tMake C sp [] E t) := by
  obtain ⟨f, fd, F, M, hm, b⟩ := M.ex
  exact pe_make M F hr hg hm b .nil hx ha hdb he hpl
end
/-! ### readings -/
def rMeth (C : Addr) (m : Str) (x : V) (H : Hp) (P : Prop) : Prop := ∃ a dx fs, x = .ref a ∧ H a = some (.ins C dx fs) ∧ fs.lookup m = none ∧ P
def rFld (K : PySem.W.Frag) (f : Str) (x : V) (H : Hp) (Q : VK) : Prop := ∃ a C dx fs v, x = .ref a ∧ H a = some (.ins C dx fs) ∧ Cls K C ∧ NoAttr K C f ∧ fs.lookup f = some v ∧ Q v H
def rSFld (K : PySem.W.Frag) (f : Str) (y x : V) (H : Hp) (R : Hp → Prop) : Prop := ∃ a C dx fs, x = .ref a ∧ H a = some (.ins C dx fs) ∧ Cls K C ∧ NoAttr K C f ∧ fs.length < 1000 ∧ R (upd H a (.ins C dx (putF f y fs)))
def rAFld (K : PySem.W.Frag) (f : Str) (x : V) (H1 : Hp) (tv : VK → Prop) (rd : V → V → Hp → VK → Prop) (R : Hp → Prop) : Prop := ∃ a C dx fs v, x = .ref a ∧ H1 a = some (.ins C dx fs) ∧ Cls K C ∧ NoAttr K C f ∧ fs.lookup f = some v ∧
  tv fun y H2 => rd v y H2 fun z H3 => ∃ dx' fs', H3 a = some (.ins C dx' fs') ∧ fs'.length < 1000 ∧ R (upd H3 a (.ins C dx' (putF f z fs')))
def NewI (C : Addr) (H : Hp) (R : Addr → Hp → Prop) : Prop := ∀ x dx, H x = none → H dx = none → dx ≠ x → R x (upd (upd H dx (.own x)) x (.ins C dx []))
theorem new_i {C : Addr} {H : Hp} {R : Addr → Hp → Prop} (h : ∀ x dx H1, H x = none → Same H H1 → H1 x = some (.ins C dx []) → R x H1) : NewI C H R := fun x dx hx hd hn =>
  h x dx _ hx ((Same.new hd).trans (Same.new (by rw [upd_ne (Ne.symm hn)]; exact hx))) upd_same
section
variable {σ : L2.St} {H : Hp} {Q : VK} {D : Ends} {K : PySem.W.Frag} {ta tv td ty : TE} {t : TA} {f m : Str} {a b C : Addr} {x y v : V} {sp : Sp} {E : XK} {dvs : List V} {P : Prop} {R : Hp → Prop} {rd : V → V → Hp → VK → Prop} {W : WX} {i j : Int}
theorem a_meth : tMeth C m sp dvs E ta t σ H Q = ta σ H fun x H1 => rMeth C m x H1 (t σ H1 fun vs H2 => sp (x :: (vs ++ dvs)) H2 Q E) := rfl
theorem a_methT : tMethT C m sp W ta t σ H Q = ta σ H fun x H1 => rMeth C m x H1 (t σ H1 fun vs H2 => sp (x :: vs) H2 Q (WE W σ)) := rfl
theorem b_meth : rMeth C m (.ref a) H P = ∃ dx fs, H a = some (.ins C dx fs) ∧ fs.lookup m = none ∧ P := propext ⟨fun ⟨_, dx, fs, e, h⟩ => by cases e; exact ⟨dx, fs, h⟩, fun ⟨dx, fs, h⟩ => ⟨_, dx, fs, rfl, h⟩⟩
theorem a_fld : tFld K ta f σ H Q = ta σ H fun x H1 => rFld K f x H1 Q := rfl
theorem b_fld : rFld K f (.ref a) H Q = ∃ C dx fs v, H a = some (.ins C dx fs) ∧ Cls K C ∧ NoAttr K C f ∧ fs.lookup f = some v ∧ Q v H := propext ⟨fun ⟨_, C, dx, fs, v, e, h⟩ => by cases e; exact ⟨C, dx, fs, v, h⟩, fun ⟨C, dx, fs, v, h⟩ => ⟨_, C, dx, fs, v, rfl, h⟩⟩
theorem a_sfld : sFld K ta tv f D σ H = tv σ H fun y H1 => ta σ H1 fun x H2 => rSFld K f y x H2 (D.nx σ) := rfl
theorem b_sfld : rSFld K f y (.ref a) H R = ∃ C dx fs, H a = some (.ins C dx fs) ∧ Cls K C ∧ NoAttr K C f ∧ fs.length < 1000 ∧ WrO H a (.ins C dx (putF f y fs)) R := propext ⟨fun ⟨_, C, dx, fs, e, h⟩ => by cases e; exact ⟨C, dx, fs, h⟩, fun ⟨C, dx, fs, h⟩ => ⟨_, C, dx, fs, rfl, h⟩⟩
theorem a_afld : sFldAug K ta tv rd f D σ H = ta σ H fun x H1 => rAFld K f x H1 (tv σ H1) rd (D.nx σ) := rfl
theorem b_afld {tq : VK → Prop} : rAFld K f (.ref a) H tq rd R = ∃ C dx fs v, H a = some (.ins C dx fs) ∧ Cls K C ∧ NoAttr K C f ∧ fs.lookup f = some v ∧
    tq fun y H2 => rd v y H2 fun z H3 => ∃ dx' fs', H3 a = some (.ins C dx' fs') ∧ fs'.length < 1000 ∧ WrO H3 a (.ins C dx' (putF f z fs')) R := propext ⟨fun ⟨_, C, dx, fs, v, e, h⟩ => by cases e; exact ⟨C, dx, fs, v, h⟩, fun ⟨C, dx, fs, v, h⟩ => ⟨_, C, dx, fs, v, rfl, h⟩⟩
theorem a_make : tMake C sp dvs E t σ H Q = t σ H fun vs H1 => NewI C H1 fun x H2 => sp (.ref x :: (vs ++ dvs)) H2 (fun v H3 => v = .non ∧ Q (.ref x) H3) E := rfl
theorem b_addI : rAdd (.int i) (.int j) H Q = Q (.int (i + j)) H := propext ⟨fun ⟨_, _, e1, e2, h⟩ => by cases e1; cases e2; exact h, fun h => ⟨_, _, rfl, rfl, h⟩⟩
end
/-! ### dicts with int and text keys -/
/-- a value as a key -/
inductive KeyV : V → Key → Prop where
  | int (i : Int) : KeyV (.int i) (.inl i)
  | str (x : Str) : KeyV (.str x) (.inr x)
theorem KeyV.eq {y : V} {k : Key} (h : KeyV y k) : y = kV k := by cases h <;> rfl
def rDIn (y x : V) (H : Hp) (Q : VK) : Prop := ∃ a kvs k, x = .ref a ∧ H a = some (.dK kvs) ∧ KeyV y k ∧ Q (.bl (valV kvs k).isSome) H
def rDNotIn (y x : V) (H : Hp) (Q : VK) : Prop := ∃ a kvs k, x = .ref a ∧ H a = some (.dK kvs) ∧ KeyV y k ∧ Q (.bl (!(valV kvs k).isSome)) H
def rDGet (x y : V) (H : Hp) (Q : VK) : Prop := ∃ a kvs k v, x = .ref a ∧ H a = some (.dK kvs) ∧ KeyV y k ∧ valV kvs k = some v ∧ Q v H
def rDPut (v x y : V) (H : Hp) (R : Hp → Prop) : Prop := ∃ a kvs k, x = .ref a ∧ H a = some (.dK kvs) ∧ KeyV y k ∧ kvs.length < sizeLine ∧ R (upd H a (.dK (putK kvs k v)))
def rDDel (x y : V) (H : Hp) (R : Hp → Prop) : Prop := ∃ a kvs k, x = .ref a ∧ H a = some (.dK kvs) ∧ KeyV y k ∧ (valV kvs k).isSome = true ∧ R (upd H a (.dK (dropK kvs k)))
def tDInY (ty td : TE) : TE := fun σ H Q => ty σ H fun y H1 => td σ H1 fun x H2 => rDIn y x H2 Q
def tDNotInY (ty td : TE) : TE := fun σ H Q => ty σ H fun y H1 => td σ H1 fun x H2 => rDNotIn y x H2 Q
def tDGetY (td ty : TE) : TE := fun σ H Q => td σ H fun x H1 => ty σ H1 fun y H2 => rDGet x y H2 Q
def sDPutY (td ty tv : TE) : TS := fun D σ H => tv σ H fun v H1 => td σ H1 fun x H2 => ty σ H2 fun y H3 => rDPut v x y H3 (D.nx σ)
def sDDelY (td ty : TE) : TS := fun D σ H => td σ H fun x H1 => ty σ H1 fun y H2 => rDDel x y H2 (D.nx σ)
section
variable {X : Cx} {o i value : Expr} {pos pos' tpos : Pos} {td ty tv : TE}
theorem pc_dinY (hu : X.A.units + 1 < cLine) (hi : PE X i ty) (ho : PE X o td) : PC X .In i o (tDInY ty td) := by
  refine ⟨fun pins s σ H Q I h => ?_⟩
  refine thn (hi.run pins s σ H _ I h) fun v s1 hv => ?_
  obtain ⟨y, H1, I1, ry, h1⟩ := hv
  refine thn (ho.run pins s1 σ H1 _ I1 h1) fun u s2 hu' => ?_
  obtain ⟨x, H2, I2, rx, a, kvs, k, rfl, ha, hk, q⟩ := hu'
  cases (show u = Value.ref a from rx)
  have D : DGet H2 a y (valV kvs k) := by rw [hk.eq]; exact DGet.k ha
  exact d_in hu I2 D ry fun s3 I3 => ⟨.bl _, H2, I3, rfl, q⟩
theorem pc_dnotinY (hu : X.A.units + 1 < cLine) (hi : PE X i ty) (ho : PE X o td) : PC X .NotIn i o (tDNotInY ty td) := by
  refine ⟨fun pins s σ H Q I h => ?_⟩
  refine thn (hi.run pins s σ H _ I h) fun v s1 hv => ?_
  obtain ⟨y, H1, I1, ry, h1⟩ := hv
  refine thn (ho.run pins s1 σ H1 _ I1 h1) fun u s2 hu' => ?_
  obtain ⟨x, H2, I2, rx, a, kvs, k, rfl, ha, hk, q⟩ := hu'
  cases (show u = Value.ref a from rx)
  have D : DGet H2 a y (valV kvs k) := by rw [hk.eq]; exact DGet.k ha
  exact d_notIn hu I2 D ry fun s3 I3 => ⟨.bl _, H2, I3, rfl, q⟩
theorem pe_dgetY (hu : X.A.units + 1 < cLine) (ho : PE X o td) (hi : PE X i ty) (hs : NoSl i) : PE X (.Subscript o i pos) (tDGetY td ty) := by
  refine ⟨fun pins s σ H Q I h => ?_⟩
  refine subD_of PySem.F.slot_dict_getitem.lookup hs (thn (ho.run pins s σ H _ I h) fun u s1 hu1 => ?_)
  obtain ⟨x, H1, I1, rx, q1⟩ := hu1
  refine thn (hi.run pins s1 σ H1 _ I1 q1) fun iv s2 hv => ?_
  obtain ⟨y, H2, I2, ry, a, kvs, k, v, rfl, ha, hk, hv, q⟩ := hv
  cases (show u = Value.ref a from rx)
  have D : DGet H2 a y (some v) := by rw [hk.eq, ← hv]; exact DGet.k ha
  exact ⟨dict_typeIs I2 D, d_getItem hu I2 D ry fun w' s3 I3 rw' => ⟨v, H2, I3, rw', q⟩⟩
theorem ps_dputY (hu : X.A.units + 1 < cLine) (ho : PE X o td) (hi : PE X i ty) (hv : PE X value tv) (hs : swapsWith value (some (.Subscript o i pos')) pos.line X.env = pure false) :
    PS X (.Assign [.Subscript o i pos'] value pos) (sDPutY td ty tv) := by
  refine ⟨fun pins s σ H D I h => ?_⟩
  refine wpAny_Assign_Subscript (thn (hv.run pins s σ H _ I h) fun r s1 h1 => ?_) hs
  obtain ⟨v, H1, I1, rv, q1⟩ := h1
  refine thn (ho.run pins s1 σ H1 _ I1 q1) fun u s2 h2 => ?_
  obtain ⟨x, H2, I2, rx, q2⟩ := h2
  refine thn (hi.run pins s2 σ H2 _ I2 q2) fun iv s3 h3 => ?_
  obtain ⟨y, H3, I3, ry, a, kvs, k, rfl, ha, hk, hl, q⟩ := h3
  cases (show u = Value.ref a from rx)
  have P : DPut H3 a y v (upd H3 a (.dK (putK kvs k v))) := by rw [hk.eq]; exact DPut.k ha hl
  exact d_setItem hu I3 P ry rv fun s4 I4 => ⟨σ, _, I4, q⟩
theorem ps_ddelY (ho : PE X o td) (hi : PE X i ty) : PS X (.Delete [.Subscript o i tpos] pos) (sDDelY td ty) := by
  refine ⟨fun pins s σ H D I h => ?_⟩
  refine wpAny_Delete (wpAny_deleteEach_cons (wpAny_delete_Subscript (thn (ho.run pins s σ H _ I h) fun u s1 h1 => ?_)))
  obtain ⟨x, H1, I1, rx, q1⟩ := h1
  refine thn (hi.run pins s1 σ H1 _ I1 q1) fun iv s2 h2 => ?_
  obtain ⟨y, H2, I2, ry, a, kvs, k, rfl, ha, hk, hl, q⟩ := h2
  cases (show u = Value.ref a from rx)
  rw [hk.eq] at ry
  exact d_delItem I2 ha ry hl fun s3 I3 => wpAny_deleteEach_nil ⟨σ, _, I3, q⟩
end
section
variable {σ : L2.St} {H : Hp} {Q : VK} {D : Ends} {td ty tv : TE} {a : Addr} {v : V} {i : Int} {z : Str} {R : Hp → Prop}
theorem a_dinY : tDInY ty td σ H Q = ty σ H fun y H1 => td σ H1 fun x H2 => rDIn y x H2 Q := rfl
theorem a_dnotinY : tDNotInY ty td σ H Q = ty σ H fun y H1 => td σ H1 fun x H2 => rDNotIn y x H2 Q := rfl
theorem a_dgetY : tDGetY td ty σ H Q = td σ H fun x H1 => ty σ H1 fun y H2 => rDGet x y H2 Q := rfl
theorem a_dputY : sDPutY td ty tv D σ H = tv σ H fun v H1 => td σ H1 fun x H2 => ty σ H2 fun y H3 => rDPut v x y H3 (D.nx σ) := rfl
theorem a_ddelY : sDDelY td ty D σ H = td σ H fun x H1 => ty σ H1 fun y H2 => rDDel x y H2 (D.nx σ) := rfl
theorem b_dinI : rDIn (.int i) (.ref a) H Q = ∃ kvs, H a = some (.dK kvs) ∧ Q (.bl (valV kvs (.inl i)).isSome) H := propext ⟨fun ⟨_, kvs, k, e, h, hk, q⟩ => by cases e; cases hk; exact ⟨kvs, h, q⟩, fun ⟨kvs, h, q⟩ => ⟨_, kvs, _, rfl, h, .int i, q⟩⟩
theorem b_dnotinI : rDNotIn (.int i) (.ref a) H Q = ∃ kvs, H a = some (.dK kvs) ∧ Q (.bl (!(valV kvs (.inl i)).isSome)) H := propext ⟨fun ⟨_, kvs, k, e, h, hk, q⟩ => by cases e; cases hk; exact ⟨kvs, h, q⟩, fun ⟨kvs, h, q⟩ => ⟨_, kvs, _, rfl, h, .int i, q⟩⟩
theorem b_dgetI : rDGet (.ref a) (.int i) H Q = ∃ kvs v, H a = some (.dK kvs) ∧ valV kvs (.inl i) = some v ∧ Q v H := propext ⟨fun ⟨_, kvs, k, v, e, h, hk, q⟩ => by cases e; cases hk; exact ⟨kvs, v, h, q⟩, fun ⟨kvs, v, h, q⟩ => ⟨_, kvs, _, v, rfl, h, .int i, q⟩⟩
theorem b_dgetS : rDGet (.ref a) (.str z) H Q = ∃ kvs v, H a = some (.dK kvs) ∧ valV kvs (.inr z) = some v ∧ Q v H := propext ⟨fun ⟨_, kvs, k, v, e, h, hk, q⟩ => by cases e; cases hk; exact ⟨kvs, v, h, q⟩, fun ⟨kvs, v, h, q⟩ => ⟨_, kvs, _, v, rfl, h, .str z, q⟩⟩
theorem b_dputI : rDPut v (.ref a) (.int i) H R = ∃ kvs, H a = some (.dK kvs) ∧ kvs.length < sizeLine ∧ WrO H a (.dK (putK kvs (.inl i) v)) R := propext ⟨fun ⟨_, kvs, k, e, h, hk, q⟩ => by cases e; cases hk; exact ⟨kvs, h, q⟩, fun ⟨kvs, h, q⟩ => ⟨_, kvs, _, rfl, h, .int i, q⟩⟩
theorem b_dputS : rDPut v (.ref a) (.str z) H R = ∃ kvs, H a = some (.dK kvs) ∧ kvs.length < sizeLine ∧ WrO H a (.dK (putK kvs (.inr z) v)) R := propext ⟨fun ⟨_, kvs, k, e, h, hk, q⟩ => by cases e; cases hk; exact ⟨kvs, h, q⟩, fun ⟨kvs, h, q⟩ => ⟨_, kvs, _, rfl, h, .str z, q⟩⟩
theorem b_ddelI : rDDel (.ref a) (.int i) H R = ∃ kvs, H a = some (.dK kvs) ∧ (valV kvs (.inl i)).isSome = true ∧ WrO H a (.dK (dropK kvs (.inl i))) R := propext ⟨fun ⟨_, kvs, k, e, h, hk, q⟩ => by cases e; cases hk; exact ⟨kvs, h, q⟩, fun ⟨kvs, h, q⟩ => ⟨_, kvs, _, rfl, h, .int i, q⟩⟩
theorem a_dnew : tDNewK σ H Q = NewO H (.dK []) Q := rfl
end
/-! ### len of a dict; extend, clear, is of truths -/
def rLenD : List V → Hp → VK → Prop := fun xs H Q => ∃ a kvs, xs = [V.ref a] ∧ H a = some (.dK kvs) ∧ Q (.int kvs.length) H
section
variable {X : Cx} {H : Hp} {Q : VK} {K : PySem.W.Frag} {a b : Addr} {c d : Bool} {xs : List V}
theorem call_lenDY : CallR X (.builtin "len") rLenD := call_lenD
theorem b_lenD : rLenD [.ref a] H Q = ∃ kvs, H a = some (.dK kvs) ∧ Q (.int kvs.length) H := propext ⟨fun ⟨_, kvs, e, h⟩ => by cases e; exact ⟨kvs, h⟩, fun ⟨kvs, h⟩ => ⟨_, kvs, rfl, h⟩⟩
theorem b_extend : rExtend (.ref a) [.ref b] H Q = ∃ xs zs, H a = some (.lst xs) ∧ H b = some (.lst zs) ∧ xs.length + zs.length ≤ sizeLine ∧ WrO H a (.lst (xs ++ zs)) (Q .non) := propext ⟨fun ⟨_, _, xs, zs, e1, e2, h⟩ => by cases e1; cases e2; exact ⟨xs, zs, h⟩, fun ⟨xs, zs, h⟩ => ⟨_, _, xs, zs, rfl, rfl, h⟩⟩
theorem b_clear : rClear (.ref a) [] H Q = ∃ xs, H a = some (.lst xs) ∧ WrO H a (.lst []) (Q .non) := propext ⟨fun ⟨_, xs, e1, _, h⟩ => by cases e1; exact ⟨xs, h⟩, fun ⟨xs, h⟩ => ⟨_, xs, rfl, rfl, h⟩⟩
theorem b_isB : rIsB (.bl c) (.bl d) H Q = Q (.bl (decide (c = d))) H := propext ⟨fun ⟨_, _, e1, e2, h⟩ => by cases e1; cases e2; exact h, fun h => ⟨_, _, rfl, rfl, h⟩⟩
theorem b_notB : rNotB (.bl c) (.bl d) H Q = Q (.bl (!decide (c = d))) H := propext ⟨fun ⟨_, _, e1, e2, h⟩ => by cases e1; cases e2; exact h, fun h => ⟨_, _, rfl, rfl, h⟩⟩
end
/-! ### sorted of data -/
section
open PySem.W (Datum DatumOrd EachIs AllAlike Sortable)
variable {X : Cx} {α : Type} [DecidableEq α] [DatumOrd α]
def leA (α : Type) [DecidableEq α] [DatumOrd α] : α → α → Bool := fun a b => !DatumOrd.lt b a
def rSortA (α : Type) [DecidableEq α] [DatumOrd α] (K : PySem.W.Frag) : List V → Hp → VK → Prop := fun vs H Q => ∃ (l : Addr) (ys : List V) (as : List α), vs = [.ref l] ∧ SqL K H l ys ∧ DvL K H ys as ∧ as.length ≤ sizeLine ∧
  ∀ p zs, H p = none → DvL K H zs (as.mergeSort (leA α)) → Q (.ref p) (upd H p (.lst zs))
theorem each_of {K : PySem.W.Frag} {H : Hp} : ∀ {ys : List V} {us : List Value} {as : List α}, Vals ys us → DvL K H ys as → EachIs (fun u a => ∃ v, RelV v u ∧ Dv K H v a) us as
  | [], _, [], .nil, _ => .nil
  | [], _, _ :: _, _, h => by have := h.length; cases this
  | _ :: _, _, [], _, h => by have := h.length; cases this
  | v :: ys, _, a :: as, .cons r rs, h => .cons ⟨v, r, h.head.1⟩ (each_of rs h.head.2)
theorem of_each {K : PySem.W.Frag} {H : Hp} : ∀ {us : List Value} {as : List α}, EachIs (fun u a => ∃ v, RelV v u ∧ Dv K H v a) us as → ∃ ys, Vals ys us ∧ DvL K H ys as
  | _, _, .nil => ⟨[], .nil, .nil⟩
  | _, _, .cons ⟨v, r, d⟩ h => by
    obtain ⟨ys, r2, d2⟩ := of_each h
    exact ⟨v :: ys, .cons r r2, .cons d d2⟩
theorem cr_sortA (hk : ∀ b : α, ∃ x r, Datum.toD b = .tuple (x :: r)) (hd : Datum.depth α ≤ 60) (hu : X.A.units + 64 < cLine) : CallR X (.builtin "sorted") (rSortA α X.K) := by
  intro pins s σ H vs us Q I r h
  obtain ⟨l, ys, as, rfl, hs, hv, hz, q⟩ := h
  obtain ⟨its, rv, hl, _⟩ := I.list hs
  rw [Vals.ref1 r]
  refine PySem.W.sorted_data (enc := Datum.toD) hl.isList (each_of rv hv) ((each_of rv hv).mono fun u a ⟨v, rr, d⟩ => d.holds I rr) (AllAlike.of fun b b' => DatumOrd.alike b b') (Sortable.tuples hk) hz (fun b _ => ?_) fun out ho eo => ?_
  · have := Datum.depth_le b
    omega
  · have el : PySem.W.dataLe false (Datum.toD : α → PyData) = leA α := by
      funext a b
      rw [PySem.W.dataLe_eq]
      simp only [cond_false]
      unfold leA
      rw [DatumOrd.lt_eq]
    rw [el] at eo
    obtain ⟨zs, rz, dz⟩ := of_each eo
    obtain ⟨c, hc⟩ := PyProof.Rows.sortedAll_at s.heap its out.toArray
    have nw : H (s.heap.objs.size + 1) = none := I.hok.fresh (Nat.le_succ _)
    refine ⟨.ref (s.heap.objs.size + 1), upd H (s.heap.objs.size + 1) (.lst zs), I.laid (t' := s.toks) (fun b o e => PyProof.Rows.sortedAll_old e) (Nat.le_succ _) ⟨?_, out, c, rz, hc⟩, rfl, q _ zs nw dz⟩
    rw [rz.length, ho]
    exact hz
theorem b_sortA {K : PySem.W.Frag} {l : Addr} {H : Hp} {Q : VK} : rSortA α K [.ref l] H Q = ∃ (ys : List V) (as : List α), SqL K H l ys ∧ DvL K H ys as ∧ as.length ≤ sizeLine ∧ ∀ p zs, H p = none → DvL K H zs (as.mergeSort (leA α)) → Q (.ref p) (upd H p (.lst zs)) :=
  propext ⟨fun ⟨_, ys, as, e, h⟩ => by cases e; exact ⟨ys, as, h⟩, fun ⟨ys, as, h⟩ => ⟨l, ys, as, rfl, h⟩⟩
end
/-! ### data stands where a dict is locked and let go -/
section
variable {K : PySem.W.Frag} {H H' : Hp} {d : Addr} {od : Obj} {kvs : List (Key × V)}
theorem SqT.but (e : ∀ b, b ≠ d → H' b = H b) (hd : H d = some (.frz od (.dK kvs))) {p : Addr} {xs : List V} (h : SqT K H p xs) : SqT K H' p xs := by
  rcases h with (h | ⟨o, h⟩) | h
  · have n : p ≠ d := fun z => by rw [z, hd] at h; cases h
    exact .inl (.inl (by rw [e p n]; exact h))
  · have n : p ≠ d := fun z => by rw [z, hd] at h; cases h
    exact .inl (.inr ⟨o, by rw [e p n]; exact h⟩)
  · exact .inr h
mutual
theorem Dp.but (e : ∀ b, b ≠ d → H' b = H b) (hd : H d = some (.frz od (.dK kvs))) : ∀ (x : PyData) (v : V), noL x = true → Dp K H v x → Dp K H' v x
  | .none, _, _, h => by cases h; exact .non
  | .bool b, _, _, h => by cases h; exact .bl b
  | .int i, _, _, h => by cases h; exact .int i
  | .str x, _, _, h => by cases h; exact .str x
  | .list ds, _, n, h => by simp [noL] at n
  | .tuple ds, _, n, h => by
    rw [noL] at n
    cases h with
    | tup hs ha => exact .tup (SqT.but e hd hs) (DpAll.but e hd ds _ n ha)
  | .dict _, _, _, h => by cases h
theorem DpAll.but (e : ∀ b, b ≠ d → H' b = H b) (hd : H d = some (.frz od (.dK kvs))) : ∀ (ds : List PyData) (vs : List V), noLs ds = true → DpAll K H vs ds → DpAll K H' vs ds
  | [], _, _, h => by cases h; exact .nil
  | x :: ds, _, n, h => by
    rw [noLs, Bool.and_eq_true] at n
    cases h with
    | cons h1 h2 => exact .cons (Dp.but e hd x _ n.1 h1) (DpAll.but e hd ds _ n.2 h2)
end
theorem DvL.but {α : Type} [DecidableEq α] [PySem.W.Datum α] [Flat α] (e : ∀ b, b ≠ d → H' b = H b) (hd : H d = some (.frz od (.dK kvs))) : ∀ {vs : List V} {xs : List α}, DvL K H vs xs → DvL K H' vs xs
  | [], [], _ => .nil
  | [], x :: xs, h => by have := h.length; cases this
  | v :: vs, [], h => by have := h.length; cases this
  | v :: vs, x :: xs, h => .cons (Dp.but e hd _ _ (Flat.flat x) h.head.1) (DvL.but e hd h.head.2)
end
/-! ### a comprehension over a dict's values -/
section
variable {σ : L2.St} {H : Hp} {Q : VK} {K : PySem.W.Frag} {g : TG} {te td : TE} {vs : List Nat} {d : Addr} {kvs : List (Key × V)} {α β : Type} [DecidableEq α] [PySem.W.Datum α] [Flat α] [DecidableEq β] [PySem.W.Datum β] [Flat β]
theorem comp_vals (as : List α) (F : α → β) (hd : H d = some (.dK kvs)) (hv : DvL K H (kvs.map (·.2)) as) (hz : as.length ≤ 100000)
    (htd : ∀ H', (∀ b, b ≠ d → H' b = H b) → ∀ R : VK, R (.ref d) H' → td σ H' R)
    (el : ∀ (v : V) (x : α) (H' : Hp), Dv K H' v x → ∀ R : VK, (∀ y H'', Same H' H'' → Dv K H'' y (F x) → R y H'') → g v (wipe σ vs) H' fun σ2 H2 => wipe σ2 vs = wipe σ vs ∧ te σ2 H2 R)
    (fin : ∀ D ys H', H D = none → Same H H' → H' D = some (.lst ys) → DvL K H' ys (as.map F) → Q (.ref D) H') : tLockE (tLc (iVals td) g tYes te vs) σ H Q := by
  refine ⟨d, .dK kvs, hd, trivial, fun od => ?_⟩
  obtain ⟨H0, hH0⟩ : ∃ H0, H0 = upd H d (.frz od (.dK kvs)) := ⟨_, rfl⟩
  rw [← hH0]
  have h0d : H0 d = some (.frz od (.dK kvs)) := by rw [hH0]; exact upd_same
  have h0o : ∀ b, b ≠ d → H0 b = H b := fun b hb => by rw [hH0]; exact upd_ne hb
  have f0 : Frm (fun b => b = d) H H0 := by rw [hH0]; exact Frm.upd hd (fun z => z)
  have hv0 : DvL K H0 (kvs.map (·.2)) as := hv.frm f0
  show td σ H0 fun x H1 => ∃ d' o kvs', x = .ref d' ∧ H1 d' = some (.frz o (.dK kvs')) ∧ LoopC (Itd d' o kvs') g tYes te vs σ (fun v H' => H' d = some (.frz od (.dK kvs)) ∧ Q v (upd H' d (.dK kvs))) H1
  refine htd H0 h0o _ ⟨d, od, kvs, rfl, h0d, ?_⟩
  intro D hD
  have nDd : D ≠ d := fun z => by rw [z, h0d] at hD; cases hD
  have hlen : kvs.length = as.length := by rw [← List.length_map (f := (·.2)), hv.length]
  refine ⟨fun i m H' => m + i = kvs.length ∧ Same H0 H' ∧ ∃ ys, H' D = some (.lst ys) ∧ DvL K H' ys ((as.take i).map F), ⟨kvs.length, rfl, Same.new hD, [], upd_same, .nil⟩, ?_⟩
  rintro i m H' ⟨hm, s1, ys, h1, h2⟩
  have hfz := s1 _ _ h0d
  by_cases hlt : i < kvs.length
  · refine .inr ⟨⟨hfz, hlt⟩, fun H4 => Same H0 H4 ∧ ∃ ys, H4 D = some (.lst ys) ∧ DvL K H4 ys ((as.take (i + 1)).map F), fun H4 h4 => ⟨m - 1, by omega, by omega, h4⟩, ?_⟩
    rintro x H2 ⟨rfl, k, hk⟩
    have hk' : (kvs.map (·.2))[i]? = some x := by rw [List.getElem?_map, hk]; rfl
    obtain ⟨a, ha, da⟩ := hv0.at hk'
    have et : as.take (i + 1) = as.take i ++ [a] := by rw [List.take_add_one, ha]; rfl
    have kk := el x a H2 (da.same s1) (fun y H4 => ∃ acc, H4 D = some (.lst acc) ∧ acc.length < sizeLine ∧ (Same H0 (upd H4 D (.lst (acc ++ [y]))) ∧ ∃ ys, (upd H4 D (.lst (acc ++ [y]))) D = some (.lst ys) ∧ DvL K (upd H4 D (.lst (acc ++ [y]))) ys ((as.take (i + 1)).map F))) fun y H4 s2 dy => by
      have hn := h2.length
      rw [List.length_map, List.length_take] at hn
      refine ⟨ys, s2 _ _ h1, sz_lt (by omega), (s1.trans s2).mut hD, ys ++ [y], upd_same, ?_⟩
      rw [et, List.map_append]
      have s3 : Frm (fun b => b = D) H4 (upd H4 D (.lst (ys ++ [y]))) := Frm.upd (s2 _ _ h1) (fun z => z)
      exact ((h2.same s2).frm s3).snoc (dy.frm s3)
    exact kk
  · refine .inl ⟨⟨hfz, by omega⟩, hfz, ?_⟩
    rw [List.take_of_length_le (by omega)] at h2
    refine fin D ys _ (by rw [← h0o D nDd]; exact hD) (fun b u e => ?_) (by rw [upd_ne nDd]; exact h1) (DvL.but (fun b hb => upd_ne hb) hfz h2)
    by_cases hb : b = d
    · rw [hb] at e ⊢
      rw [hd] at e
      cases e
      exact upd_same
    · rw [upd_ne hb]
      exact s1 _ _ (by rw [h0o b hb]; exact e)
end
/-! ### enumerate, displays of one entry, statements that set a comprehension under a lock -/
section
variable {σ : L2.St} {H : Hp} {Q : VK} {D : Ends} {K : PySem.W.Frag} {g : TG} {tb : TS} {a : Addr} {xs : List V} {te tk tv : TE} {i : Nat}
theorem loop_enum (Pv : Nat → L2.St → Hp → Prop) (h0 : Pv 0 σ H) (hl : ∀ i σ H, i ≤ xs.length → Pv i σ H → SqL K H a xs)
    (hs : ∀ (i : Nat) (x : V) (T : Addr) (σ : L2.St) (H H' : Hp), xs[i]? = some x → Pv i σ H → H T = none → Same H H' → H' T = some (.tup [.int i, x]) → g (.ref T) σ H' fun σ2 H2 => tb { D with nx := Pv (i + 1), ct := Pv (i + 1), bk := D.nx } σ2 H2)
    (hd : ∀ σ H, Pv xs.length σ H → D.nx σ H) : Loop (Ite K a) g tb D σ H := by
  refine ⟨fun i m σ H => m + i = xs.length ∧ Pv i σ H, ⟨xs.length, rfl, h0⟩, ?_⟩
  rintro i m σ H ⟨hm, p⟩
  have q := hl i σ H (by omega) p
  by_cases hlt : i < xs.length
  · refine .inr ⟨⟨xs, xs[i], q, List.getElem?_eq_getElem hlt⟩, Pv (i + 1), fun σ' H' p' => ⟨m - 1, by omega, by omega, p'⟩, ?_⟩
    rintro v H' ⟨T, x, rfl, hT, rfl, hx⟩
    exact hs i x T σ H _ (hx xs q) p hT (Same.new hT) upd_same
  · refine .inl ⟨⟨xs, q, by omega⟩, hd σ H ?_⟩
    have e : i = xs.length := by omega
    rw [← e]
    exact p
def NewP (H : Hp) (o : HO) (R : Addr → Hp → Prop) : Prop := ∀ p, H p = none → R p (upd H p o)
theorem new_p {H : Hp} {o : HO} {R : Addr → Hp → Prop} (h : ∀ p H1, H p = none → Same H H1 → H1 p = some o → R p H1) : NewP H o R := fun p hp => h p _ hp (Same.new hp) upd_same
theorem a_disp {trs : List (TE × TE)} : tDisp trs σ H Q = NewP H (.dK []) fun p H1 => tPairs trs σ H1 fun ps H2 => H2 p = some (.dK []) ∧ ∃ kvs : List (Key × V), ps = kvs.map (fun kv => (kV kv.1, kv.2)) ∧ kvs.length ≤ 15 ∧ WrO H2 p (.dK (mergeK [] kvs)) (Q (.ref p)) := rfl
theorem a_pairs0 {q : List (V × V) → Hp → Prop} : tPairs [] σ H q = q [] H := rfl
theorem a_pairs {q : List (V × V) → Hp → Prop} {trs : List (TE × TE)} : tPairs ((tk, tv) :: trs) σ H q = tk σ H fun x H1 => tv σ H1 fun y H2 => tPairs trs σ H2 fun ps H3 => q ((x, y) :: ps) H3 := rfl
theorem a_lockS : tLock (tAsg te (gName i)) D σ H = tLockE te σ H (fun v H' => D.nx (σ.set i (some v)) H') := rfl
end
/-! ### a desk as it lies -/
abbrev Mk2 := Int × Int
abbrev Tri := PySem.W.T3 Mk2 Int Int
abbrev Quad := PySem.W.T4 Mk2 Int Int Bool
abbrev Wt := PySem.W.T3 Mk2 Int Bool
instance {α β γ : Type} [DecidableEq α] [PySem.W.Datum α] [DecidableEq β] [PySem.W.Datum β] [DecidableEq γ] [PySem.W.Datum γ] [Flat α] [Flat β] [Flat γ] : Flat (PySem.W.T3 α β γ) := ⟨fun x => by
  show noL (.tuple [PySem.W.Datum.toD x.a, PySem.W.Datum.toD x.b, PySem.W.Datum.toD x.c]) = true
  simp only [noL, noLs, Flat.flat, Bool.and_self]⟩
instance {α β γ δ : Type} [DecidableEq α] [PySem.W.Datum α] [DecidableEq β] [PySem.W.Datum β] [DecidableEq γ] [PySem.W.Datum γ] [DecidableEq δ] [PySem.W.Datum δ] [Flat α] [Flat β] [Flat γ] [Flat δ] : Flat (PySem.W.T4 α β γ δ) := ⟨fun x => by
  show noL (.tuple [PySem.W.Datum.toD x.a, PySem.W.Datum.toD x.b, PySem.W.Datum.toD x.c, PySem.W.Datum.toD x.d]) = true
  simp only [noL, noLs, Flat.flat, Bool.and_self]⟩
section
variable {K : PySem.W.Frag} {H : Hp} {v v1 v2 v3 v4 : V} {a : Addr} {α β γ δ : Type} [DecidableEq α] [PySem.W.Datum α] [DecidableEq β] [PySem.W.Datum β] [DecidableEq γ] [PySem.W.Datum γ] [DecidableEq δ] [PySem.W.Datum δ]
theorem dv_t3 {x : α} {y : β} {z : γ} (h : SqT K H a [v1, v2, v3]) (d1 : Dv K H v1 x) (d2 : Dv K H v2 y) (d3 : Dv K H v3 z) : Dv K H (.ref a) (PySem.W.T3.mk x y z) := Dp.tup h (.cons d1 (.cons d2 (.cons d3 .nil)))
theorem dv_t4 {x : α} {y : β} {z : γ} {w : δ} (h : SqT K H a [v1, v2, v3, v4]) (d1 : Dv K H v1 x) (d2 : Dv K H v2 y) (d3 : Dv K H v3 z) (d4 : Dv K H v4 w) : Dv K H (.ref a) (PySem.W.T4.mk x y z w) := Dp.tup h (.cons d1 (.cons d2 (.cons d3 (.cons d4 .nil))))
theorem dv_t3_of {p : PySem.W.T3 α β γ} (h : Dv K H v p) : ∃ a v1 v2 v3, v = .ref a ∧ SqT K H a [v1, v2, v3] ∧ Dv K H v1 p.a ∧ Dv K H v2 p.b ∧ Dv K H v3 p.c := by
  have h : Dp K H v (.tuple [PySem.W.Datum.toD p.a, PySem.W.Datum.toD p.b, PySem.W.Datum.toD p.c]) := h
  cases h with
  | tup s b =>
    cases b with
    | cons b1 b =>
      cases b with
      | cons b2 b =>
        cases b with
        | cons b3 b =>
          cases b
          exact ⟨_, _, _, _, rfl, s, b1, b2, b3⟩
theorem dv_t4_of {p : PySem.W.T4 α β γ δ} (h : Dv K H v p) : ∃ a v1 v2 v3 v4, v = .ref a ∧ SqT K H a [v1, v2, v3, v4] ∧ Dv K H v1 p.a ∧ Dv K H v2 p.b ∧ Dv K H v3 p.c ∧ Dv K H v4 p.d := by
  have h : Dp K H v (.tuple [PySem.W.Datum.toD p.a, PySem.W.Datum.toD p.b, PySem.W.Datum.toD p.c, PySem.W.Datum.toD p.d]) := h
  cases h with
  | tup s b =>
    cases b with
    | cons b1 b =>
      cases b with
      | cons b2 b =>
        cases b with
        | cons b3 b =>
          cases b with
          | cons b4 b =>
            cases b
            exact ⟨_, _, _, _, _, rfl, s, b1, b2, b3, b4⟩
end
/-- the state of a desk -/
structure Dsk where
  hand : Int
  clock : Int
  met : List Int
  uns : List Tri
  stl : List Tri
  row : List Int
structure DFp where
  m : Addr
  u : Addr
  s : Addr
  r : Addr
def DFp.In (f : DFp) (x a : Addr) : Prop := a = x ∨ a = f.m ∨ a = f.u ∨ a = f.s ∨ a = f.r
def dskF (f : DFp) (d : Dsk) : List (Str × V) := [("_hand", .int d.hand), ("_clock", .int d.clock), ("_met", .ref f.m), ("_unsettled", .ref f.u), ("_settled", .ref f.s), ("_row", .ref f.r)]
structure DeskAt (K : PySem.W.Frag) (C : Addr) (H : Hp) (x : Addr) (f : DFp) (d : Dsk) : Prop where
  ins : ∃ dx, H x = some (.ins C dx (dskF f d))
  met : H f.m = some (.dK (d.met.map fun l => (Sum.inl l, V.bl true)))
  uns : ∃ kvs, H f.u = some (.dK kvs) ∧ kvs.map (·.1) = d.uns.map (fun t => Sum.inl t.c) ∧ DvL K H (kvs.map (·.2)) d.uns
  stl : ∃ vs, H f.s = some (.lst vs) ∧ DvL K H vs d.stl
  row : H f.r = some (.lst (d.row.map V.int))
  mu : f.m ≠ f.u
  sr : f.s ≠ f.r
/-- what always holds of it -/
structure Dsk.Ok (d : Dsk) : Prop where
  sub : ∀ t ∈ d.uns, t.c ∈ d.met
  len : d.uns.length + d.stl.length ≤ d.met.length
section
variable {K : PySem.W.Frag} {C : Addr} {H H' : Hp} {x : Addr} {f : DFp} {d : Dsk}
theorem DeskAt.frm {M : Addr → Prop} (h : DeskAt K C H x f d) (e : Frm M H H') (n : ∀ a, f.In x a → ¬ M a) : DeskAt K C H' x f d := by
  obtain ⟨dx, hi⟩ := h.ins
  obtain ⟨kvs, hu1, hu2, hu3⟩ := h.uns
  obtain ⟨vs, hs1, hs2⟩ := h.stl
  exact ⟨⟨dx, e _ _ hi fun m => absurd m (n _ (.inl rfl))⟩, e _ _ h.met fun m => absurd m (n _ (.inr (.inl rfl))), ⟨kvs, e _ _ hu1 fun m => absurd m (n _ (.inr (.inr (.inl rfl)))), hu2, hu3.frm e⟩,
    ⟨vs, e _ _ hs1 fun m => absurd m (n _ (.inr (.inr (.inr (.inl rfl))))), hs2.frm e⟩, e _ _ h.row fun m => absurd m (n _ (.inr (.inr (.inr (.inr rfl))))), h.mu, h.sr⟩
theorem DeskAt.same (h : DeskAt K C H x f d) (e : Same H H') : DeskAt K C H' x f d := h.frm (M := fun _ => False) (Frm.of_same e) fun _ _ z => z
theorem DeskAt.some (h : DeskAt K C H x f d) {a : Addr} (i : f.In x a) : ∃ o, H a = some o ∧ ¬ tupO o := by
  obtain ⟨dx, hi⟩ := h.ins
  obtain ⟨kvs, hu1, _⟩ := h.uns
  obtain ⟨vs, hs1, _⟩ := h.stl
  rcases i with rfl | rfl | rfl | rfl | rfl
  · exact ⟨_, hi, fun z => z⟩
  · exact ⟨_, h.met, fun z => z⟩
  · exact ⟨_, hu1, fun z => z⟩
  · exact ⟨_, hs1, fun z => z⟩
  · exact ⟨_, h.row, fun z => z⟩
end
def Dsk.new (h : Int) : Dsk := ⟨h, 0, [], [], [], []⟩
def Dsk.prop (d : Dsk) (l : Int) : Dsk := { d with clock := d.clock + 1, met := d.met ++ [l], uns := d.uns ++ [⟨(d.clock + 1, d.hand), d.met.length, l⟩] }
def qOf (b : Bool) (t : Tri) : Quad := ⟨t.a, t.b, t.c, b⟩
def wOf (q : Quad) : Wt := ⟨q.a, q.c, q.d⟩
def Dsk.wait (d : Dsk) : List Wt := ((d.uns.map (qOf false) ++ d.stl.map (qOf true)).mergeSort (leA Quad)).map wOf
theorem Dsk.new_ok (h : Int) : (Dsk.new h).Ok := ⟨(fun _ m => nomatch m), Nat.le_refl _⟩
theorem Dsk.prop_ok {d : Dsk} (o : d.Ok) (l : Int) : (d.prop l).Ok := by
  refine ⟨fun t m => ?_, ?_⟩
  · rcases List.mem_append.mp m with m | m
    · exact List.mem_append_left _ (o.sub t m)
    · rw [List.mem_singleton.mp m]
      exact List.mem_append_right _ (List.mem_singleton.mpr rfl)
  · have := o.len
    show (d.uns ++ [_]).length + d.stl.length ≤ (d.met ++ [l]).length
    rw [List.length_append, List.length_append, List.length_singleton, List.length_singleton]
    omega
theorem valV_met (ms : List Int) (l : Int) : (valV (ms.map fun l => ((Sum.inl l : Key), V.bl true)) (Sum.inl l)).isSome = decide (l ∈ ms) := by
  induction ms with
  | nil => rfl
  | cons m ms ih =>
    by_cases h : m = l
    · rw [List.map_cons, valV_pos (by rw [h])]
      simp [h]
    · rw [List.map_cons, valV_neg (fun z => h (Sum.inl.inj z)), ih]
      simp [Ne.symm h]
theorem putK_new {κ : Type} [DecidableEq κ] {kvs : List (κ × V)} {k : κ} {v : V} (h : k ∉ kvs.map (·.1)) : putK kvs k v = kvs ++ [(k, v)] := by
  unfold putK
  rw [if_neg]
  intro z
  obtain ⟨p, hp, e⟩ := List.any_eq_true.mp z
  exact h (List.mem_map.mpr ⟨p, hp, of_decide_eq_true e⟩)
end Y

set_option Elab.async false
set_option linter.all false
set_option maxRecDepth 100000
namespace K02
open PySem PySem.Spec PyProof.Rows L2 Y
local macro_rules | `(tactic| walk_at "wp") => `(tactic| (try simp only [cx_K, a_meth, a_methT, b_meth, a_fld, b_fld, a_sfld, b_sfld, a_afld, b_afld, a_make, b_addI, a_dinY, a_dnotinY, a_dgetY, a_dputY, a_ddelY, b_dinI, b_dnotinI, b_dgetI, b_dgetS, b_dputI, b_dputS, b_ddelI, a_dnew, b_lenD, b_extend, b_clear, b_isB, b_notB, b_sortA, a_disp, a_pairs0, a_pairs, a_lockS, b_slX, cxH_K, b_isE, b_isET, a_var, a_c, a_op, a_un, a_B, a_test, a_and, a_or, a_not, a_andV, a_orV, a_notV, a_isN, a_notN, a_if, a_next, a_seq, a_brk, a_m1, b_isS, b_split, b_part, b_T0, b_tyS, b_addS, b_lenS, b_strI, b_intS, b_ixS, a_fmt, b_fmtS, b_fmtI, a_fs, a_jsN, a_jsC, b_notInKD, b_ixKD, a_callS, a_raise, a_cont, a_drop, a_ret, a_retN, a_ifS, a_asg, a_gName, a_nil, a_cons, a_tup, a_lst, a_cb, a_call, a_isInt, a_isBl, a_isStr, a_isNon, a_isRef, isB_tt, isB_ii, isB_ib, isB_bb, isB_bi, isB_ll, isB_lt, isB_tl, isB_ss, isB_st, isB_sl, isB_nt, isB_nl, a_lenQ, a_listQ, a_sl, a_noPart, a_part, a_bm, a_bm0, a_for, a_lc, a_iList, a_iTup, a_iRng1, a_iRng2, a_iRng3, a_iZip, a_iEnum, a_iStr, b_rng1, b_rng2, b_rng3, b_zip, b_enum, b_ref, b_str, b_gTup, b_gCons, b_gNil, a_yes, a_wipe0, a_wipe1,
  b_I0, b_I, b_U, b_eqI, b_neI, b_eqS, b_neS, b_eqB, b_neB, b_ixL, b_ixT, b_slL, b_cat, b_append, b_tyL, b_bl, b_int, b_some, b_some2, b_at0, b_at1, b_at2, b_at3, b_at4, b_at5,
  List.length_cons, List.length_nil, List.set_cons_zero, List.set_cons_succ, List.getElem?_cons_zero, List.getElem?_cons_succ, List.append_nil, List.nil_append, List.cons_append, Bool.not_true, Bool.not_false, decide_true, decide_false, decide_eq_true_eq, Bool.false_eq_true, Bool.true_eq_false, ↓reduceIte, Nat.reduceAdd, true_and]))
local macro_rules | `(tactic| walk_at "wg") => `(tactic| (try simp only [b_gTup, b_gCons, b_gNil, a_gName, List.set_cons_zero, List.set_cons_succ]))

def top (i : Nat) : Stmt := PySem.Challenge.pw_onebell_k02_a_desk_proposes.main.body.getD i (.Pass ⟨0, 0, 0, 0⟩)
def inClass (st : Stmt) (j : Nat) : Stmt := match st with
  | .ClassDef (body := b) .. => b.getD j (.Pass ⟨0, 0, 0, 0⟩)
  | _ => .Pass ⟨0, 0, 0, 0⟩
abbrev Mk := Int × Int
structure Tt (K : PySem.W.Frag) (w : World) (mg : Str → Option Value) (C_BellError : Addr) (C_BadCount : Addr) (C_NoHand : Addr) (C_NoLetter : Addr) (C_NoMail : Addr) (C_Twice : Addr) (C_NotOpen : Addr) (C_BadMark : Addr) (C_NoNote : Addr) (C_Desk : Addr) : Prop where
  e_BellError : Err K mg "BellError" C_BellError
  e_BadCount : Err K mg "BadCount" C_BadCount
  e_NoHand : Err K mg "NoHand" C_NoHand
  e_NoLetter : Err K mg "NoLetter" C_NoLetter
  e_NoMail : Err K mg "NoMail" C_NoMail
  e_Twice : Err K mg "Twice" C_Twice
  e_NotOpen : Err K mg "NotOpen" C_NotOpen
  e_BadMark : Err K mg "BadMark" C_BadMark
  e_NoNote : Err K mg "NoNote" C_NoNote
  cl_Desk : Cls K C_Desk
  n_Desk__hand : NoAttr K C_Desk "_hand"
  n_Desk__clock : NoAttr K C_Desk "_clock"
  n_Desk__met : NoAttr K C_Desk "_met"
  n_Desk__unsettled : NoAttr K C_Desk "_unsettled"
  n_Desk__settled : NoAttr K C_Desk "_settled"
  n_Desk__row : NoAttr K C_Desk "_row"
  o_Twice : OneErr K C_Twice [C_BadCount, C_NoHand, C_NoLetter, C_NoMail, C_Twice, C_NotOpen, C_BadMark, C_NoNote] [false, false, false, false, true, false, false, false]
  x_Twice_BellError : PySem.W.exmOne K (.ref C_Twice) (.ref C_BellError) = some true
def spWhole : Sp := fun vs H Q _ => ∃ i : Int, vs = [.int i] ∧ Q (.bl true) H
def spCell (K : PySem.W.Frag) : Sp := fun vs H Q _ => ∃ (a : Addr) (ns : List Int) (k : Int), vs = [.ref a, .int k] ∧ SqL K H a (ns.map V.int) ∧ 0 ≤ k ∧ Q (.int (cellAt ns k)) H
def spMark (K : PySem.W.Frag) : Sp := fun vs H Q _ => ∃ (v : V) (m : Mk), vs = [v] ∧ Dv K H v m ∧ Q (.bl true) H
def spMail (K : PySem.W.Frag) : Sp := fun vs H Q _ => ∃ (v : V) (m : Tx.Mail), vs = [v] ∧ Dv K H v m ∧ Q (.bl true) H

def names8 : List Str := [Str.ofString "BadCount", Str.ofString "NoHand", Str.ofString "NoLetter", Str.ofString "NoMail", Str.ofString "Twice", Str.ofString "NotOpen", Str.ofString "BadMark", Str.ofString "NoNote"]
def spOnly (K : PySem.W.Frag) (Cs : List Addr) (a : Addr) (cls : Value) (d : Option Addr) : Sp := fun vs H Q _ => ∃ (w : Str) (D : Addr) (bs : List Bool), vs = [.ref a, .str w] ∧ cls = .ref D ∧ d = none ∧ OneErr K D Cs bs ∧ bs.length = 8 ∧
  ∀ H', Same H H' → Q (.bl (decide (bs = names8.map fun n => decide (n = w)))) H'
theorem eight_of {α : Type} {l : List α} (h : l.length = 8) : ∃ a b c d e f g i, l = [a, b, c, d, e, f, g, i] := by
  match l, h with
  | [a, b, c, d, e, f, g, i], _ => exact ⟨a, b, c, d, e, f, g, i, rfl⟩

def spInit (K : PySem.W.Frag) (C : Addr) : Sp := fun vs H Q _ => ∃ (x dx : Addr) (h : Int), vs = [.ref x, .int h] ∧ H x = some (.ins C dx []) ∧
  ∀ f H', Frm (fun b => b = x) H H' → (∀ a, f.In x a → a = x ∨ H a = none) → DeskAt K C H' x f (Dsk.new h) → Q .non H'
def spPropose (K : PySem.W.Frag) (C CT : Addr) : Sp := fun vs H Q E => ∃ (x : Addr) (f : DFp) (d : Dsk) (l : Int), vs = [.ref x, .int l] ∧ DeskAt K C H x f d ∧ d.Ok ∧ d.met.length ≤ 10000 ∧
  (l ∈ d.met → E (.ref CT) none H) ∧ (l ∉ d.met → ∀ v H', Frm (f.In x) H H' → DeskAt K C H' x f (d.prop l) → Dv K H' v (d.clock + 1, d.hand) → Q v H')
def spWaiting (K : PySem.W.Frag) (C : Addr) : Sp := fun vs H Q _ => ∃ (x : Addr) (f : DFp) (d : Dsk), vs = [.ref x] ∧ DeskAt K C H x f d ∧ d.Ok ∧ d.met.length ≤ 10000 ∧
  ∀ p ys H', Same H H' → H p = none → H' p = some (.lst ys) → DvL K H' ys d.wait → Q (.ref p) H'
def spHanded (K : PySem.W.Frag) (C : Addr) : Sp := fun vs H Q _ => ∃ (x : Addr) (f : DFp) (d : Dsk), vs = [.ref x] ∧ DeskAt K C H x f d ∧ ∀ p H', Same H H' → H p = none → H' p = some (.lst (d.row.map V.int)) → Q (.ref p) H'
def spClock (K : PySem.W.Frag) (C : Addr) : Sp := fun vs H Q _ => ∃ (x : Addr) (f : DFp) (d : Dsk), vs = [.ref x] ∧ DeskAt K C H x f d ∧ Q (.int d.clock) H

section
variable {P : Program} {w : World} {K : PySem.W.Frag} {mg : Str → Option Value} {base : Heap} {C_BellError C_BadCount C_NoHand C_NoLetter C_NoMail C_Twice C_NotOpen C_BadMark C_NoNote C_Desk : Addr}
abbrev s_Desk___init__ : Stmt := inClass (top 12) 0
abbrev n_Desk___init__ : List Str := ["self", "hand"]
theorem sc_Desk___init__ : FnScope n_Desk___init__ ["self", "hand"] (defScope s_Desk___init__) := ⟨rfl, rfl, rfl, by decide +kernel, rfl, by decide +kernel, by decide +kernel⟩
theorem ok_init {f : Addr} {fd : FuncData} (F : Fun K "__init__" "Desk.__init__" s_Desk___init__ f fd) (B : Bt mg) (T : Tt K w mg C_BellError C_BadCount C_NoHand C_NoLetter C_NoMail C_Twice C_NotOpen C_BadMark C_NoNote C_Desk)  : FnOk P w K mg base CX0 1 f fd ["self", "hand"] (spInit K C_Desk) := by
  refine F.ok sc_Desk___init__ (fun vs H Q E h => by obtain ⟨_, _, _, rfl, _⟩ := h; rfl) (fun cdv A outer s H vs Q E hr h => ?_)
  obtain ⟨x, dx, h, rfl, hx, q⟩ := h
  refine ⟨_, (pss_cons (ps_fld (pv 0) (pv 1) rfl)
  (pss_cons (ps_fld (pv 0) pe_int rfl)
  (pss_cons (ps_fld (pv 0) pe_dnewK rfl)
  (pss_cons (ps_fld (pv 0) pe_dnewK rfl)
  (pss_cons (ps_fld (pv 0) (pe_lst pa_nil) rfl)
  (pss_one (ps_fld (pv 0) (pe_lst pa_nil) rfl))))))), ?_⟩
  simp only [L2.start, n_Desk___init__, List.map_cons, List.map_nil, List.length_cons, List.length_nil, List.replicate_succ, List.replicate_zero, Nat.reduceAdd, Nat.reduceSub, Nat.sub_self, List.cons_append, List.nil_append]
  walk_at "wp"
  refine ⟨_, _, _, hx, T.cl_Desk, T.n_Desk__hand, by decide, wr_o hx (fun z => z) fun H1 f1 h1 => ?_⟩
  have h1 : H1 x = some (.ins C_Desk dx [("_hand", .int h)]) := h1
  walk_at "wp"
  refine ⟨_, _, _, h1, T.cl_Desk, T.n_Desk__clock, by simp, wr_o h1 (fun z => z) fun H2 f2 h2 => ?_⟩
  have h2 : H2 x = some (.ins C_Desk dx [("_hand", .int h), ("_clock", .int 0)]) := h2
  walk_at "wp"
  refine new_o fun m H3 hm s3 h3 => ?_
  walk_at "wp"
  have h2' := s3 _ _ h2
  refine ⟨_, _, _, h2', T.cl_Desk, T.n_Desk__met, by simp, wr_o h2' (fun z => z) fun H4 f4 h4 => ?_⟩
  have h4 : H4 x = some (.ins C_Desk dx [("_hand", .int h), ("_clock", .int 0), ("_met", .ref m)]) := h4
  walk_at "wp"
  have e3 := f4 _ _ h3 fun z => absurd z (ne_of_none h2 hm).symm
  refine new_o fun u H5 hu s5 h5 => ?_
  walk_at "wp"
  have h4' := s5 _ _ h4
  refine ⟨_, _, _, h4', T.cl_Desk, T.n_Desk__unsettled, by simp, wr_o h4' (fun z => z) fun H6 f6 h6 => ?_⟩
  have h6 : H6 x = some (.ins C_Desk dx [("_hand", .int h), ("_clock", .int 0), ("_met", .ref m), ("_unsettled", .ref u)]) := h6
  walk_at "wp"
  have e5 := f6 _ _ h5 fun z => absurd z (ne_of_none h4 hu).symm
  have e3' := f6 _ _ (s5 _ _ e3) fun z => absurd z (ne_of_none h2 hm).symm
  refine ⟨by decide, new_o fun sl H7 hs s7 h7 => ?_⟩
  walk_at "wp"
  have h6' := s7 _ _ h6
  refine ⟨_, _, _, h6', T.cl_Desk, T.n_Desk__settled, by simp, wr_o h6' (fun z => z) fun H8 f8 h8 => ?_⟩
  have h8 : H8 x = some (.ins C_Desk dx [("_hand", .int h), ("_clock", .int 0), ("_met", .ref m), ("_unsettled", .ref u), ("_settled", .ref sl)]) := h8
  walk_at "wp"
  have e7 := f8 _ _ h7 fun z => absurd z (ne_of_none h6 hs).symm
  have e5' := f8 _ _ (s7 _ _ e5) fun z => absurd z (ne_of_none h4 hu).symm
  have e3'' := f8 _ _ (s7 _ _ e3') fun z => absurd z (ne_of_none h2 hm).symm
  refine ⟨by decide, new_o fun r H9 hr' s9 h9 => ?_⟩
  walk_at "wp"
  have h8' := s9 _ _ h8
  refine ⟨_, _, _, h8', T.cl_Desk, T.n_Desk__row, by simp, wr_o h8' (fun z => z) fun H10 f10 h10 => ?_⟩
  walk_at "wp"
  have e9 := f10 _ _ h9 fun z => absurd z (ne_of_none h8 hr').symm
  have e7' := f10 _ _ (s9 _ _ e7) fun z => absurd z (ne_of_none h6 hs).symm
  have e5'' := f10 _ _ (s9 _ _ e5') fun z => absurd z (ne_of_none h4 hu).symm
  have e3''' := f10 _ _ (s9 _ _ e3'') fun z => absurd z (ne_of_none h2 hm).symm
  have fin : Frm (fun b => b = x) H H10 := ((((((((f1.trans f2).trans (Frm.of_same s3)).trans f4).trans (Frm.of_same s5)).trans f6).trans (Frm.of_same s7)).trans f8).trans (Frm.of_same s9)).trans f10
  have fr : ∀ (a : Addr) (Hx : Hp) (o : HO), Frm (fun b => b = x) H Hx → Hx x = some o → Hx a = none → H a = none := fun a Hx o ff ex e => by
    have n : a ≠ x := fun z => by rw [z, ex] at e; cases e
    cases e2 : H a with
    | none => rfl
    | some u =>
      rw [ff a u e2 fun w => absurd w n] at e
      cases e
  have g2 := f1.trans f2
  have g4 := (g2.trans (Frm.of_same s3)).trans f4
  have g6 := (g4.trans (Frm.of_same s5)).trans f6
  have g8 := (g6.trans (Frm.of_same s7)).trans f8
  have k1 := fr m H2 _ g2 h2 hm
  have k2 := fr u H4 _ g4 h4 hu
  have k3 := fr sl H6 _ g6 h6 hs
  have k4 := fr r H8 _ g8 h8 hr'
  refine q ⟨m, u, sl, r⟩ H10 fin (fun a ha => ?_) ⟨⟨dx, h10⟩, e3''', ⟨[], e5'', rfl, .nil⟩, ⟨[], e7', .nil⟩, e9, ?_, ?_⟩
  · rcases ha with rfl | rfl | rfl | rfl | rfl
    · exact .inl rfl
    · exact .inr k1
    · exact .inr k2
    · exact .inr k3
    · exact .inr k4
  · show m ≠ u
    exact ne_of_none e3 hu
  · show sl ≠ r
    exact ne_of_none e7 hr'
abbrev s_Desk_propose : Stmt := inClass (top 12) 1
abbrev n_Desk_propose : List Str := ["self", "letter", "mark", "met"]
theorem sc_Desk_propose : FnScope n_Desk_propose ["self", "letter"] (defScope s_Desk_propose) := ⟨rfl, rfl, rfl, by decide +kernel, rfl, by decide +kernel, by decide +kernel⟩
theorem ok_propose {f : Addr} {fd : FuncData} (F : Fun K "propose" "Desk.propose" s_Desk_propose f fd) (B : Bt mg) (T : Tt K w mg C_BellError C_BadCount C_NoHand C_NoLetter C_NoMail C_Twice C_NotOpen C_BadMark C_NoNote C_Desk)  : FnOk P w K mg base (L2N.CX P w) 1 f fd ["self", "letter"] (spPropose K C_Desk C_Twice) := by
  refine okN F sc_Desk_propose (fun vs H Q E h => by obtain ⟨_, _, _, _, rfl, _⟩ := h; rfl) (fun cdv A outer s H vs Q E hr h => ?_)
  obtain ⟨x, f, d, l, rfl, hD, ok, hlen, q1, q2⟩ := h
  refine ⟨_, (pss_cons (ps_if (pt_cmp (pc_dinY (hu_of hr) (pv 1) (pe_fld (pv 0) rfl)))
  (pss_one (ps_err T.e_Twice rfl (L2N.takes_of rfl rfl rfl rfl)))
  pss_nil)
  (pss_cons (ps_fldaug (pv 0) pe_int in_add)
  (pss_cons (ps_set (i := 2) sc_Desk_propose.nd rfl (Or.inl rfl) (pe_tup (pa_cons (pe_fld (pv 0) rfl) (pa_cons (pe_fld (pv 0) rfl) pa_nil))))
  (pss_cons (ps_set (i := 3) sc_Desk_propose.nd rfl (Or.inl rfl) (pe_callB call_lenDY (by rfl) B.len (by decide +kernel) (pa_cons (pe_fld (pv 0) rfl) pa_nil)))
  (pss_cons (ps_dputY (hu_of hr) (pe_fld (pv 0) rfl) (pv 1) pe_bl rfl)
  (pss_cons (ps_dputY (hu_of hr) (pe_fld (pv 0) rfl) (pv 1) (pe_tup (pa_cons (pv 2) (pa_cons (pv 3) (pa_cons (pv 1) pa_nil)))) rfl)
  (pss_one (ps_ret (pv 2))))))))), ?_⟩
  simp only [L2.start, n_Desk_propose, List.map_cons, List.map_nil, List.length_cons, List.length_nil, List.replicate_succ, List.replicate_zero, Nat.reduceAdd, Nat.reduceSub, Nat.sub_self, List.cons_append, List.nil_append]
  walk_at "wp"
  obtain ⟨dx, hi⟩ := hD.ins
  refine ⟨_, _, _, _, hi, T.cl_Desk, T.n_Desk__met, rfl, ?_⟩
  walk_at "wp"
  refine ⟨_, hD.met, ?_⟩
  rw [valV_met]
  walk_at "wp"
  refine ite2 (fun c => q1 c) (fun c => ?_)
  have q2 := q2 c
  refine ⟨_, _, _, _, hi, T.cl_Desk, T.n_Desk__clock, rfl, ?_⟩
  walk_at "wp"
  refine ⟨_, _, hi, (show 6 < 1000 by decide), wr_o hi (fun z => z) fun H1 f1 h1 => ?_⟩
  walk_at "wp"
  have h1 : H1 x = some (.ins C_Desk dx (dskF f { d with clock := d.clock + 1 })) := h1
  obtain ⟨kvs, hu1, hu2, hu3⟩ := hD.uns
  obtain ⟨vs, hs1, hs2⟩ := hD.stl
  have xm : f.m ≠ x := fun z => by have e := hD.met; rw [z, hi] at e; cases e
  have xu : f.u ≠ x := fun z => by have e := hu1; rw [z, hi] at e; cases e
  have xs : f.s ≠ x := fun z => by have e := hs1; rw [z, hi] at e; cases e
  have xr : f.r ≠ x := fun z => by have e := hD.row; rw [z, hi] at e; cases e
  have ms : f.s ≠ f.m := fun z => by have e := hs1; rw [z, hD.met] at e; cases e
  have mr : f.r ≠ f.m := fun z => by have e := hD.row; rw [z, hD.met] at e; cases e
  have us : f.s ≠ f.u := fun z => by have e := hs1; rw [z, hu1] at e; cases e
  have ur : f.r ≠ f.u := fun z => by have e := hD.row; rw [z, hu1] at e; cases e
  have met1 := f1 _ _ hD.met fun z => absurd z xm
  have uns1 := f1 _ _ hu1 fun z => absurd z xu
  have stl1 := f1 _ _ hs1 fun z => absurd z xs
  have row1 := f1 _ _ hD.row fun z => absurd z xr
  refine ⟨_, _, _, _, h1, T.cl_Desk, T.n_Desk__clock, rfl, _, _, _, _, h1, T.cl_Desk, T.n_Desk__hand, rfl, by decide, new_o fun t H2 ht s2 h2 => ?_⟩
  walk_at "wp"
  have h1' := s2 _ _ h1
  refine ⟨_, _, _, _, h1', T.cl_Desk, T.n_Desk__met, rfl, ?_⟩
  walk_at "wp"
  have met2 := s2 _ _ met1
  refine ⟨_, met2, _, _, _, _, h1', T.cl_Desk, T.n_Desk__met, rfl, ?_⟩
  rw [List.length_map]
  walk_at "wp"
  refine ⟨_, met2, by rw [List.length_map]; exact sz_lt (by omega), wr_o met2 (fun z => z) fun H3 f3 h3 => ?_⟩
  walk_at "wp"
  have h1'' := f3 _ _ h1' fun z => absurd z xm.symm
  have h2' := f3.tup h2
  refine ⟨by decide, new_o fun tr H4 htr s4 h4 => ?_⟩
  have h1x := s4 _ _ h1''
  have uns4 := s4 _ _ (f3 _ _ (s2 _ _ uns1) fun z => absurd z hD.mu.symm)
  refine ⟨_, _, _, _, h1x, T.cl_Desk, T.n_Desk__unsettled, rfl, ?_⟩
  walk_at "wp"
  have hul : kvs.length = d.uns.length := by rw [← List.length_map (f := (·.1)), hu2, List.length_map]
  have okl := ok.len
  refine ⟨_, uns4, sz_lt (by omega), wr_o uns4 (fun z => z) fun H5 f5 h5 => ?_⟩
  walk_at "wp"
  have g0 : Frm (f.In x) H H5 := by
    have a1 : Frm (f.In x) H H1 := f1.mono fun a z => .inl z
    have a3 : Frm (f.In x) H2 H3 := f3.mono fun a z => .inr (.inl z)
    have a5 : Frm (f.In x) H4 H5 := f5.mono fun a z => .inr (.inr (.inl z))
    exact (((a1.trans (Frm.of_same s2)).trans a3).trans (Frm.of_same s4)).trans a5
  have t5 : H5 t = some (.tup [.int (d.clock + 1), .int d.hand]) := f5.tup (s4 _ _ h2')
  have tr5 := f5.tup h4
  have kn : (Sum.inl l : Key) ∉ kvs.map (·.1) := fun z => by
    rw [hu2] at z
    obtain ⟨y, hy, e⟩ := List.mem_map.mp z
    cases e
    exact c (ok.sub y hy)
  have kn2 : (Sum.inl l : Key) ∉ (d.met.map fun l => ((Sum.inl l : Key), V.bl true)).map (·.1) := fun z => by
    rw [List.map_map] at z
    obtain ⟨y, hy, e⟩ := List.mem_map.mp z
    cases e
    exact c hy
  rw [putK_new kn] at h5
  rw [putK_new kn2] at h3
  refine q2 _ H5 g0 ⟨⟨dx, f5 _ _ h1x fun z => absurd z xu.symm⟩, ?_, ⟨_, h5, ?_, ?_⟩, ⟨vs, ?_, ?_⟩, ?_, hD.mu, hD.sr⟩ (dv_pair (sqT t5) (dv_int _) (dv_int _))
  · show H5 f.m = some (.dK ((d.met ++ [l]).map _))
    rw [List.map_append]
    exact f5 _ _ (s4 _ _ h3) fun z => absurd z hD.mu
  · show List.map (fun kv : Key × V => kv.1) (kvs ++ [(Sum.inl l, V.ref tr)]) = List.map (fun t : Tri => (Sum.inl t.c : Key)) (d.uns ++ [⟨(d.clock + 1, d.hand), d.met.length, l⟩])
    rw [List.map_append, List.map_append, hu2]
    rfl
  · rw [List.map_append]
    have dd : DvL K H5 (kvs.map (·.2)) d.uns := hu3.frm g0
    exact dd.snoc (dv_t3 (x := ((d.clock + 1, d.hand) : Mk2)) (sqT tr5) (dv_pair (sqT t5) (dv_int _) (dv_int _)) (dv_int _) (dv_int _))
  · exact f5 _ _ (s4 _ _ (f3 _ _ (s2 _ _ stl1) fun z => absurd z ms)) fun z => absurd z us
  · exact hs2.frm g0
  · exact f5 _ _ (s4 _ _ (f3 _ _ (s2 _ _ row1) fun z => absurd z mr)) fun z => absurd z ur
abbrev s_Desk_handed : Stmt := inClass (top 12) 6
abbrev n_Desk_handed : List Str := ["self"]
theorem sc_Desk_handed : FnScope n_Desk_handed ["self"] (defScope s_Desk_handed) := ⟨rfl, rfl, rfl, by decide +kernel, rfl, by decide +kernel, by decide +kernel⟩
theorem ok_handed {f : Addr} {fd : FuncData} (F : Fun K "handed" "Desk.handed" s_Desk_handed f fd) (B : Bt mg) (T : Tt K w mg C_BellError C_BadCount C_NoHand C_NoLetter C_NoMail C_Twice C_NotOpen C_BadMark C_NoNote C_Desk)  : FnOk P w K mg base CX0 1 f fd ["self"] (spHanded K C_Desk) := by
  refine F.ok sc_Desk_handed (fun vs H Q E h => by obtain ⟨_, _, _, rfl, _⟩ := h; rfl) (fun cdv A outer s H vs Q E hr h => ?_)
  obtain ⟨x, f, d, rfl, hD, q⟩ := h
  refine ⟨_, (pss_one (ps_ret (pe_callTy (r := rListQ K) call_listQ (by rfl) B.list (by decide +kernel) (pa_cons (pe_fld (pv 0) rfl) pa_nil)))), ?_⟩
  simp only [L2.start, n_Desk_handed, List.map_cons, List.map_nil, List.length_cons, List.length_nil, List.replicate_succ, List.replicate_zero, Nat.reduceAdd, Nat.reduceSub, Nat.sub_self, List.cons_append, List.nil_append]
  walk_at "wp"
  obtain ⟨dx, hi⟩ := hD.ins
  refine ⟨_, _, _, _, hi, T.cl_Desk, T.n_Desk__row, rfl, ?_⟩
  walk_at "wp"
  refine ⟨_, .inl (sqL hD.row), new_o fun p H1 hp s1 h1 => ?_⟩
  exact q p H1 s1 hp h1
abbrev s_Desk_clock : Stmt := inClass (top 12) 7
abbrev n_Desk_clock : List Str := ["self"]
theorem sc_Desk_clock : FnScope n_Desk_clock ["self"] (defScope s_Desk_clock) := ⟨rfl, rfl, rfl, by decide +kernel, rfl, by decide +kernel, by decide +kernel⟩
theorem ok_clock {f : Addr} {fd : FuncData} (F : Fun K "clock" "Desk.clock" s_Desk_clock f fd) (B : Bt mg) (T : Tt K w mg C_BellError C_BadCount C_NoHand C_NoLetter C_NoMail C_Twice C_NotOpen C_BadMark C_NoNote C_Desk)  : FnOk P w K mg base CX0 1 f fd ["self"] (spClock K C_Desk) := by
  refine F.ok sc_Desk_clock (fun vs H Q E h => by obtain ⟨_, _, _, rfl, _⟩ := h; rfl) (fun cdv A outer s H vs Q E hr h => ?_)
  obtain ⟨x, f, d, rfl, hD, q⟩ := h
  refine ⟨_, (pss_one (ps_ret (pe_fld (pv 0) rfl))), ?_⟩
  simp only [L2.start, n_Desk_clock, List.map_cons, List.map_nil, List.length_cons, List.length_nil, List.replicate_succ, List.replicate_zero, Nat.reduceAdd, Nat.reduceSub, Nat.sub_self, List.cons_append, List.nil_append]
  walk_at "wp"
  obtain ⟨dx, hi⟩ := hD.ins
  exact ⟨_, _, _, _, hi, T.cl_Desk, T.n_Desk__clock, rfl, q⟩
abbrev s_Desk_waiting : Stmt := inClass (top 12) 5
abbrev n_Desk_waiting : List Str := ["self", "rows", "mark", "met", "letter", "_", "settled"]
theorem sc_Desk_waiting : FnScope n_Desk_waiting ["self"] (defScope s_Desk_waiting) := ⟨rfl, rfl, rfl, by decide +kernel, rfl, by decide +kernel, by decide +kernel⟩
theorem ok_waiting {f : Addr} {fd : FuncData} (F : Fun K "waiting" "Desk.waiting" s_Desk_waiting f fd) (B : Bt mg) (T : Tt K w mg C_BellError C_BadCount C_NoHand C_NoLetter C_NoMail C_Twice C_NotOpen C_BadMark C_NoNote C_Desk)  : FnOk P w K mg base CX0 1 f fd ["self"] (spWaiting K C_Desk) := by
  refine F.ok sc_Desk_waiting (fun vs H Q E h => by obtain ⟨_, _, _, rfl, _⟩ := h; rfl) (fun cdv A outer s H vs Q E hr h => ?_)
  obtain ⟨x, f, d, rfl, hD, ok, hlen, q⟩ := h
  refine ⟨_, (pss_cons (ps_lock (ps_setLc (i := 1) (own := [("mark", 2), ("met", 3), ("letter", 4)]) (g := gTup K 3 (gCons (gName 2) (gCons (gName 3) (gCons (gName 4) gNil)))) (tt := tYes) rfl sc_Desk_waiting.nd rfl rfl (sw_true rfl rfl rfl (by decide +kernel)) (pi_values (pe_fld (pv 0) rfl)) (blkOk_by (N := n_Desk_waiting) (sc := defScope s_Desk_waiting) (by decide +kernel)) (fun _ _ _ _ _ => pg_tup rfl (pgs_cons (pg_name (i := 2) sc_Desk_waiting.nd rfl (Or.inl rfl)) (pgs_cons (pg_name (i := 3) sc_Desk_waiting.nd rfl (Or.inl rfl)) (pgs_cons (pg_name (i := 4) sc_Desk_waiting.nd rfl (Or.inl rfl)) pgs_nil)))) (fun _ _ _ _ _ => pts_nil) (fun _ _ _ _ _ => (pe_tup (pa_cons (pv 2) (pa_cons (pv 3) (pa_cons (pv 4) (pa_cons pe_bl pa_nil))))))))
  (pss_cons (ps_expr (pe_bm PySem.F.plainAttrs_list PySem.F.slot_list_extend PySem.F.type_list_extend mt_extend (pv 1) (pa_cons (pe_lc (own := [("mark", 2), ("met", 3), ("letter", 4)]) (g := gTup K 3 (gCons (gName 2) (gCons (gName 3) (gCons (gName 4) gNil)))) (tt := tYes) rfl sc_Desk_waiting.nd (pi_list (pe_fld (pv 0) rfl)) (blkOk_by (N := n_Desk_waiting) (sc := defScope s_Desk_waiting) (by decide +kernel)) (fun _ _ _ _ _ => pg_tup rfl (pgs_cons (pg_name (i := 2) sc_Desk_waiting.nd rfl (Or.inl rfl)) (pgs_cons (pg_name (i := 3) sc_Desk_waiting.nd rfl (Or.inl rfl)) (pgs_cons (pg_name (i := 4) sc_Desk_waiting.nd rfl (Or.inl rfl)) pgs_nil)))) (fun _ _ _ _ _ => pts_nil) (fun _ _ _ _ _ => (pe_tup (pa_cons (pv 2) (pa_cons (pv 3) (pa_cons (pv 4) (pa_cons pe_bl pa_nil))))))) pa_nil)))
  (pss_one (ps_ret (pe_lc (own := [("mark", 2), ("_", 5), ("letter", 4), ("settled", 6)]) (g := gTup K 4 (gCons (gName 2) (gCons (gName 5) (gCons (gName 4) (gCons (gName 6) gNil))))) (tt := tYes) rfl sc_Desk_waiting.nd (pi_list (pe_callB (r := rSortA (Quad) K) (cr_sortA (fun b => ⟨_, _, rfl⟩) (by decide) hr.units) (by rfl) B.sorted (by decide +kernel) (pa_cons (pv 1) pa_nil))) (blkOk_by (N := n_Desk_waiting) (sc := defScope s_Desk_waiting) (by decide +kernel)) (fun _ _ _ _ _ => pg_tup rfl (pgs_cons (pg_name (i := 2) sc_Desk_waiting.nd rfl (Or.inl rfl)) (pgs_cons (pg_name (i := 5) sc_Desk_waiting.nd rfl (Or.inl rfl)) (pgs_cons (pg_name (i := 4) sc_Desk_waiting.nd rfl (Or.inl rfl)) (pgs_cons (pg_name (i := 6) sc_Desk_waiting.nd rfl (Or.inl rfl)) pgs_nil))))) (fun _ _ _ _ _ => pts_nil) (fun _ _ _ _ _ => (pe_tup (pa_cons (pv 2) (pa_cons (pv 4) (pa_cons (pv 6) pa_nil)))))))))), ?_⟩
  simp only [L2.start, n_Desk_waiting, List.map_cons, List.map_nil, List.length_cons, List.length_nil, List.replicate_succ, List.replicate_zero, Nat.reduceAdd, Nat.reduceSub, Nat.sub_self, List.cons_append, List.nil_append]
  walk_at "wp"
  obtain ⟨dx, hi⟩ := hD.ins
  obtain ⟨kvs, hu1, hu2, hu3⟩ := hD.uns
  obtain ⟨vs, hs1, hs2⟩ := hD.stl
  have okl := ok.len
  have xu : f.u ≠ x := fun z => by have e := hu1; rw [z, hi] at e; cases e
  refine comp_vals d.uns (qOf false) hu1 hu3 (by omega) ?_ ?_ ?_
  · intro H' ho R hR
    walk_at "wp"
    exact ⟨_, _, _, _, (ho x xu.symm).trans hi, T.cl_Desk, T.n_Desk__unsettled, rfl, hR⟩
  · intro v y H1 dy R hR
    obtain ⟨a, v1, v2, v3, rfl, hs, d1, d2, d3⟩ := dv_t3_of dy
    walk_at "wp"
    refine ⟨_, hs, rfl, ?_⟩
    walk_at "wp"
    refine ⟨by decide, new_o fun t H2 ht s2 h2 => ?_⟩
    exact hR _ _ s2 (dv_t4 (sqT h2) (d1.same s2) (d2.same s2) (d3.same s2) (dv_bl _))
  intro D ys H1 hD1 s1 h1 hv1
  walk_at "wp"
  have hi1 := s1 _ _ hi
  refine ⟨⟨_, sqL h1⟩, _, _, _, _, hi1, T.cl_Desk, T.n_Desk__settled, rfl, ?_⟩
  walk_at "wp"
  have hs1' := s1 _ _ hs1
  refine ⟨⟨_, sqL hs1'⟩, comp_list (K := K) d.stl (qOf true) (fun _ => true) (sqL hs1') (hs2.same s1) (by omega) ?_ ?_⟩
  · intro v y H2 s2 dy hy R R0 hR _
    obtain ⟨a, v1, v2, v3, rfl, hs, d1, d2, d3⟩ := dv_t3_of dy
    walk_at "wp"
    refine ⟨_, hs, rfl, ?_⟩
    walk_at "wp"
    refine ⟨by decide, new_o fun t H3 ht s3 h3 => ?_⟩
    exact hR _ _ rfl s3 (dv_t4 (sqT h3) (d1.same s3) (d2.same s3) (d3.same s3) (dv_bl _))
  intro D2 zs H2 hD2 s2 h2 hv2
  have ef : d.stl.filter (fun _ => true) = d.stl := List.filter_eq_self.mpr fun _ _ => rfl
  rw [ef] at hv2
  walk_at "wp"
  have h1' := s2 _ _ h1
  have l1 := hv1.length
  have l2 := hv2.length
  rw [List.length_map] at l1 l2
  refine ⟨_, _, h1', h2, sz_of (by omega), wr_o h1' (fun z => z) fun H3 f3 h3 => ?_⟩
  walk_at "wp"
  have s03 : Same H H3 := (s1.trans s2).frm1 f3 hD1
  have hv3 : DvL K H3 (ys ++ zs) (d.uns.map (qOf false) ++ d.stl.map (qOf true)) := ((hv1.same s2).frm f3).append (hv2.frm f3)
  refine ⟨_, _, sqL h3, hv3, sz_of (by rw [List.length_append, List.length_map, List.length_map]; omega), fun p ws hp hw => ?_⟩
  have s4 : Same H3 (upd H3 p (.lst ws)) := Same.new hp
  have h4 : upd H3 p (.lst ws) p = some (.lst ws) := upd_same
  generalize upd H3 p (.lst ws) = H4 at s4 h4
  have hw4 := hw.same s4
  walk_at "wp"
  refine ⟨⟨_, sqL h4⟩, comp_list (K := K) _ wOf (fun _ => true) (sqL h4) hw4 ?_ ?_ ?_⟩
  · rw [List.length_mergeSort, List.length_append, List.length_map, List.length_map]; omega
  · intro v y H5 s5 dy hy R R0 hR _
    obtain ⟨a, v1, v2, v3, v4, rfl, hs, d1, d2, d3, d4⟩ := dv_t4_of dy
    walk_at "wp"
    refine ⟨_, hs, rfl, ?_⟩
    walk_at "wp"
    refine ⟨by decide, new_o fun t H6 ht s6 h6 => ?_⟩
    exact hR _ _ rfl s6 (dv_t3 (sqT h6) (d1.same s6) (d3.same s6) (d4.same s6))
  intro D3 us H5 hD3 s5 h5 hv5
  have ef : ∀ l : List Quad, l.filter (fun _ => true) = l := fun l => List.filter_eq_self.mpr fun _ _ => rfl
  rw [ef] at hv5
  exact q D3 us H5 ((s03.trans s4).trans s5) ((s03.trans s4).free hD3) h5 hv5

abbrev s_law_whole : Stmt := top 14
abbrev n_law_whole : List Str := ["_law_found"]
theorem sc_law_whole : FnScope n_law_whole ["_law_found"] (defScope s_law_whole) := ⟨rfl, rfl, rfl, by decide +kernel, rfl, by decide +kernel, by decide +kernel⟩
theorem ok_whole {f : Addr} {fd : FuncData} (F : Fun K "_law_whole" "_law_whole" s_law_whole f fd) (B : Bt mg) (T : Tt K w mg C_BellError C_BadCount C_NoHand C_NoLetter C_NoMail C_Twice C_NotOpen C_BadMark C_NoNote C_Desk)  : FnOk P w K mg base CX0 1 f fd ["_law_found"] (spWhole) := by
  refine F.ok sc_law_whole (fun vs H Q E h => by obtain ⟨_, rfl, _⟩ := h; rfl) (fun cdv A outer s H vs Q E hr h => ?_)
  obtain ⟨i, rfl, q⟩ := h
  refine ⟨_, (pss_one (ps_ret (pe_and (pe_callB (r := rIs "int" K) (call_is "int") (by rfl) B.isinstance (by decide +kernel) (pa_cons (pv 0) (pa_cons (pe_bltn (v := .ty "int") (by rfl) B.int (by decide +kernel) rfl) pa_nil))) (pe_one (pe_not (pe_callB (r := rIs "bool" K) (call_is "bool") (by rfl) B.isinstance (by decide +kernel) (pa_cons (pv 0) (pa_cons (pe_bltn (v := .ty "bool") (by rfl) B.bool (by decide +kernel) rfl) pa_nil)))))))), ?_⟩
  simp only [L2.start, n_law_whole, List.map_cons, List.map_nil, List.length_cons, List.length_nil, List.replicate_succ, List.replicate_zero, Nat.reduceAdd, Nat.reduceSub, Nat.sub_self, List.cons_append, List.nil_append]
  walk_at "wp"
  exact q

abbrev s_law_cell_at : Stmt := top 15
abbrev n_law_cell_at : List Str := ["_law_script", "_law_k"]
theorem sc_law_cell_at : FnScope n_law_cell_at ["_law_script", "_law_k"] (defScope s_law_cell_at) := ⟨rfl, rfl, rfl, by decide +kernel, rfl, by decide +kernel, by decide +kernel⟩
theorem ok_cell {f : Addr} {fd : FuncData} (F : Fun K "_law_cell_at" "_law_cell_at" s_law_cell_at f fd) (B : Bt mg) (T : Tt K w mg C_BellError C_BadCount C_NoHand C_NoLetter C_NoMail C_Twice C_NotOpen C_BadMark C_NoNote C_Desk)  : FnOk P w K mg base CX0 1 f fd ["_law_script", "_law_k"] (spCell K) := by
  refine F.ok sc_law_cell_at (fun vs H Q E h => by obtain ⟨_, _, _, rfl, _⟩ := h; rfl) (fun cdv A outer s H vs Q E hr h => ?_)
  obtain ⟨a, ns, k, rfl, hs, hk, q⟩ := h
  refine ⟨_, (pss_cons (ps_if (pt_cmpR op_lt (pv 1) (pe_callB (r := rLenQ K) call_lenQ (by rfl) B.len (by decide +kernel) (pa_cons (pv 0) pa_nil)) (nomark _))
  (pss_one (ps_ret (pe_ix (r := rIxL K) ix_list (pv 0) (pv 1) (fun _ _ => rfl))))
  pss_nil)
  (pss_one (ps_ret pe_int))), ?_⟩
  simp only [L2.start, n_law_cell_at, List.map_cons, List.map_nil, List.length_cons, List.length_nil, List.replicate_succ, List.replicate_zero, Nat.reduceAdd, Nat.reduceSub, Nat.sub_self, List.cons_append, List.nil_append]
  walk_at "wp"
  refine ⟨_, .inl hs, ite2 (fun c => ?_) (fun c => ?_)⟩
  · rw [List.length_map] at c
    exact ⟨_, _, hs, cell_at hk c, q⟩
  · rw [List.length_map] at c
    rw [← cell_out hk c]
    exact q

abbrev s_law_mark : Stmt := top 16
abbrev n_law_mark : List Str := ["_law_found"]
theorem sc_law_mark : FnScope n_law_mark ["_law_found"] (defScope s_law_mark) := ⟨rfl, rfl, rfl, by decide +kernel, rfl, by decide +kernel, by decide +kernel⟩
theorem ok_mark {f : Addr} {fd : FuncData} (F : Fun K "_law_mark" "_law_mark" s_law_mark f fd) (B : Bt mg) (T : Tt K w mg C_BellError C_BadCount C_NoHand C_NoLetter C_NoMail C_Twice C_NotOpen C_BadMark C_NoNote C_Desk) (c_law_whole : Cal P w K mg base CX0 1 "_law_whole" ["_law_found"] (spWhole)) : FnOk P w K mg base CX0 2 f fd ["_law_found"] (spMark K) := by
  refine F.ok sc_law_mark (fun vs H Q E h => by obtain ⟨_, _, rfl, _⟩ := h; rfl) (fun cdv A outer s H vs Q E hr h => ?_)
  obtain ⟨v, ⟨m, n⟩, rfl, hm, q⟩ := h
  obtain ⟨a, rfl, ht⟩ := dv_mark_of hm
  refine ⟨_, (pss_cons (ps_if (PW.pt (pw_or (pt_not (pt_val (pe_callB (r := rIs "tuple" K) (call_is "tuple") (by rfl) B.isinstance (by decide +kernel) (pa_cons (pv 0) (pa_cons (pe_bltn (v := .ty "tuple") (by rfl) B.tuple (by decide +kernel) rfl) pa_nil))))) (pw_or1 (pt_cmpR op_ne (pe_callB (r := rLenQ K) call_lenQ (by rfl) B.len (by decide +kernel) (pa_cons (pv 0) pa_nil)) pe_int (nomark _)))))
  (pss_one (ps_ret pe_bl))
  pss_nil)
  (pss_one (ps_ret (pe_and (pe_callC c_law_whole (hr.mono (by decide)) (pa_cons (pe_ix (r := rIxT K) ix_tup (pv 0) pe_int (fun _ _ => rfl)) pa_nil)) (pe_one (pe_callC c_law_whole (hr.mono (by decide)) (pa_cons (pe_ix (r := rIxT K) ix_tup (pv 0) pe_int (fun _ _ => rfl)) pa_nil))))))), ?_⟩
  simp only [L2.start, n_law_mark, List.map_cons, List.map_nil, List.length_cons, List.length_nil, List.replicate_succ, List.replicate_zero, Nat.reduceAdd, Nat.reduceSub, Nat.sub_self, List.cons_append, List.nil_append]
  walk_at "wp"
  refine .inl ⟨_, ht, ?_⟩
  refine ⟨_, .inr ht, ?_⟩
  walk_at "wp"
  refine iteF ⟨_, _, ht, rfl, m, rfl, ?_⟩
  walk_at "wp"
  exact ⟨_, _, ht, rfl, n, rfl, q⟩

abbrev s_law_only : Stmt := top 17
abbrev n_law_only : List Str := ["_law_error", "_law_word", "_law_kinds", "_law_names", "_law_name"]
theorem sc_law_only : FnScope n_law_only ["_law_error", "_law_word"] (defScope s_law_only) := ⟨rfl, rfl, rfl, by decide +kernel, rfl, by decide +kernel, by decide +kernel⟩
theorem ok_only {f : Addr} {fd : FuncData} (F : Fun K "_law_only" "_law_only" s_law_only f fd) (B : Bt mg) (T : Tt K w mg C_BellError C_BadCount C_NoHand C_NoLetter C_NoMail C_Twice C_NotOpen C_BadMark C_NoNote C_Desk)  : ∀ (p : Addr × Obj) (cls : Value) (d : Option Addr), L2N.Zn cls d p.2 → (∃ vs, p.2.data = .fields vs) → FnE P w K mg base 1 f fd ["_law_error", "_law_word"] p (spOnly K [C_BadCount, C_NoHand, C_NoLetter, C_NoMail, C_Twice, C_NotOpen, C_BadMark, C_NoNote] p.1 cls d) := by
  intro p cls d hz hf
  refine fn_E F sc_law_only (fun vs H Q E h => by obtain ⟨_, _, _, rfl, _⟩ := h; rfl) (fun cdv A outer s H vs Q E hot hr h => ?_)
  obtain ⟨w, D, bs, rfl, rfl, rfl, hO, hb8, q⟩ := h
  have hX := hO.exc
  obtain ⟨b0, b1, b2, b3, b4, b5, b6, b7, rfl⟩ := eight_of hb8
  refine ⟨_, (pss_cons (ps_set (i := 2) sc_law_only.nd rfl (Or.inl rfl) (pe_lst (pa_cons (pe_callB (r := rIsE K D p.1) (call_isH (List.mem_singleton.mpr rfl) hX hz hf) (by rfl) B.isinstance (by decide +kernel) (pa_cons (pv 0) (pa_cons (pe_glob (v := .ref C_BadCount) rfl T.e_BadCount.g rfl) pa_nil))) (pa_cons (pe_callB (r := rIsE K D p.1) (call_isH (List.mem_singleton.mpr rfl) hX hz hf) (by rfl) B.isinstance (by decide +kernel) (pa_cons (pv 0) (pa_cons (pe_glob (v := .ref C_NoHand) rfl T.e_NoHand.g rfl) pa_nil))) (pa_cons (pe_callB (r := rIsE K D p.1) (call_isH (List.mem_singleton.mpr rfl) hX hz hf) (by rfl) B.isinstance (by decide +kernel) (pa_cons (pv 0) (pa_cons (pe_glob (v := .ref C_NoLetter) rfl T.e_NoLetter.g rfl) pa_nil))) pa_nil)))))
  (pss_cons (ps_expr (pe_bm PySem.F.plainAttrs_list PySem.F.slot_list_append PySem.F.type_list_append mt_append (pv 2) (pa_cons (pe_callB (r := rIsE K D p.1) (call_isH (List.mem_singleton.mpr rfl) hX hz hf) (by rfl) B.isinstance (by decide +kernel) (pa_cons (pv 0) (pa_cons (pe_glob (v := .ref C_NoMail) rfl T.e_NoMail.g rfl) pa_nil))) pa_nil)))
  (pss_cons (ps_set (i := 2) sc_law_only.nd rfl (Or.inl rfl) (pe_op op_cat (pv 2) (pe_lst (pa_cons (pe_callB (r := rIsE K D p.1) (call_isH (List.mem_singleton.mpr rfl) hX hz hf) (by rfl) B.isinstance (by decide +kernel) (pa_cons (pv 0) (pa_cons (pe_glob (v := .ref C_Twice) rfl T.e_Twice.g rfl) pa_nil))) (pa_cons (pe_callB (r := rIsE K D p.1) (call_isH (List.mem_singleton.mpr rfl) hX hz hf) (by rfl) B.isinstance (by decide +kernel) (pa_cons (pv 0) (pa_cons (pe_glob (v := .ref C_NotOpen) rfl T.e_NotOpen.g rfl) pa_nil))) (pa_cons (pe_callB (r := rIsE K D p.1) (call_isH (List.mem_singleton.mpr rfl) hX hz hf) (by rfl) B.isinstance (by decide +kernel) (pa_cons (pv 0) (pa_cons (pe_glob (v := .ref C_BadMark) rfl T.e_BadMark.g rfl) pa_nil))) pa_nil))))))
  (pss_cons (ps_set (i := 3) sc_law_only.nd rfl (Or.inl rfl) (pe_lst (pa_cons pe_str (pa_cons pe_str (pa_cons pe_str (pa_cons pe_str (pa_cons pe_str (pa_cons pe_str (pa_cons pe_str (pa_cons pe_str pa_nil))))))))))
  (pss_cons (ps_expr (pe_bm PySem.F.plainAttrs_list PySem.F.slot_list_append PySem.F.type_list_append mt_append (pv 2) (pa_cons (pe_callB (r := rIsE K D p.1) (call_isH (List.mem_singleton.mpr rfl) hX hz hf) (by rfl) B.isinstance (by decide +kernel) (pa_cons (pv 0) (pa_cons (pe_glob (v := .ref C_NoNote) rfl T.e_NoNote.g rfl) pa_nil))) pa_nil)))
  (pss_one (ps_ret (pe_and (pe_callB (r := rIsE K D p.1) (call_isH (List.mem_singleton.mpr rfl) hX hz hf) (by rfl) B.isinstance (by decide +kernel) (pa_cons (pv 0) (pa_cons (pe_bltn (v := .ty "ValueError") (by rfl) B.ValueError (by decide +kernel) rfl) pa_nil))) (pe_one (pe_cmpR (r := rEqA (List Bool) K) (op_eqA (by decide) hr.units) (pv 2) (pe_lcH (own := [("_law_name", 4)]) (g := gName 4) ⟨p, hot, List.mem_singleton.mpr rfl⟩ sc_law_only.nd (pv 3) (blkOk_by (N := n_law_only) (sc := defScope s_law_only) (by decide +kernel)) (fun _ _ _ _ _ => pg_name (i := 4) sc_law_only.nd rfl (Or.inl rfl)) (fun _ _ _ _ _ => (pe_cmpR op_eq (pv 4) (pv 1) (nomark _)))) (nomark _))))))))))), ?_⟩
  simp only [L2.start, n_law_only, List.map_cons, List.map_nil, List.length_cons, List.length_nil, List.replicate_succ, List.replicate_zero, Nat.reduceAdd, Nat.reduceSub, Nat.sub_self, List.cons_append, List.nil_append]
  walk_at "wp"
  refine ⟨_, hO.is 0 _ _ rfl rfl, _, hO.is 1 _ _ rfl rfl, _, hO.is 2 _ _ rfl rfl, by decide, new_o fun l H1 hl s1 h1 => ?_⟩
  walk_at "wp"
  refine ⟨⟨_, sqL h1⟩, _, hO.is 3 _ _ rfl rfl, ?_⟩
  walk_at "wp"
  refine ⟨_, h1, sz_lt (by simp), wr_o h1 (fun z => z) fun H2 f2 h2 => ?_⟩
  have s2 := s1.frm1 f2 hl
  walk_at "wp"
  refine ⟨_, hO.is 4 _ _ rfl rfl, _, hO.is 5 _ _ rfl rfl, _, hO.is 6 _ _ rfl rfl, by decide, new_o fun l2 H3 hl2 s3 h3 => ?_⟩
  walk_at "wp"
  refine ⟨_, _, s3 _ _ h2, h3, sz_of (by simp), new_o fun l3 H4 hl3 s4 h4 => ?_⟩
  walk_at "wp"
  refine ⟨by decide, new_o fun l4 H5 hl4 s5 h5 => ?_⟩
  walk_at "wp"
  have h4' := s5 _ _ h4
  refine ⟨⟨_, sqL h4'⟩, _, hO.is 7 _ _ rfl rfl, ?_⟩
  walk_at "wp"
  refine ⟨_, h4', sz_lt (by simp), wr_o h4' (fun z => z) fun H6 f6 h6 => ?_⟩
  have hl3' : H l3 = none := ((s2.trans s3).free hl3)
  have s6 : Same H H6 := (((s2.trans s3).trans s4).trans s5).frm1 f6 hl3'
  have n34 : l4 ≠ l3 := fun z => by rw [z, h4] at hl4; cases hl4
  have h5' : H6 l4 = some (.lst (names8.map V.str)) := f6 _ _ h5 fun z => absurd z n34
  walk_at "wp"
  refine ⟨_, hO.ve, ?_⟩
  walk_at "wp"
  refine ⟨⟨_, sqL h5'⟩, comp_list names8 (fun n : Str => decide (n = w)) (fun _ => true) (sqL h5') (dvL_strs names8) (by decide) ?_ ?_⟩
  · intro v n H7 s7 dn hn R R0 hR _
    rw [dv_str_of dn]
    walk_at "wp"
    exact hR _ _ rfl (Same.refl _) (dv_bl _)
  · intro L ys H7 hL s7 h7 hv
    have ef : names8.filter (fun _ => true) = names8 := List.filter_eq_self.mpr fun _ _ => rfl
    rw [ef] at hv
    refine ⟨[b0, b1, b2, b3, b4, b5, b6, b7], _, dv_lst (sqL (s7 _ _ h6)) (dvL_bls [b0, b1, b2, b3, b4, b5, b6, b7]), dv_lst (sqL h7) hv, ?_⟩
    exact q _ (s6.trans s7)

def spTold (K : PySem.W.Frag) (C : Addr) : Sp := fun vs H Q _ => ∃ (x : Addr) (f : DFp) (d : Dsk) (l : Int), vs = [.ref x, .int l] ∧ DeskAt K C H x f d ∧ d.Ok ∧ d.met.length ≤ 10000 ∧
  (l ∈ d.met → ∀ p H', Same H H' → H' p = some (.lst [.bl true, .bl true]) → Q (.ref p) H') ∧ (l ∉ d.met → ∀ v H', Frm (f.In x) H H' → DeskAt K C H' x f (d.prop l) → Dv K H' v (d.clock + 1, d.hand) → Q v H')
abbrev s_law_told : Stmt := top 18
abbrev n_law_told : List Str := ["_law_desk", "_law_letter", "_law_error"]
theorem sc_law_told : FnScope n_law_told ["_law_desk", "_law_letter"] (defScope s_law_told) := ⟨rfl, rfl, rfl, by decide +kernel, rfl, by decide +kernel, by decide +kernel⟩
theorem ok_told {f : Addr} {fd : FuncData} (F : Fun K "_law_told" "_law_told" s_law_told f fd) (B : Bt mg) (T : Tt K w mg C_BellError C_BadCount C_NoHand C_NoLetter C_NoMail C_Twice C_NotOpen C_BadMark C_NoNote C_Desk) (c_Desk_propose : CalM P w K mg base (L2N.CX P w) 1 C_Desk "propose" ["self", "letter"] (spPropose K C_Desk C_Twice)) (c_law_only : CalE P w K mg base 1 "_law_only" ["_law_error", "_law_word"] (spOnly K [C_BadCount, C_NoHand, C_NoLetter, C_NoMail, C_Twice, C_NotOpen, C_BadMark, C_NoNote])) : FnOk P w K mg base CX0 2 f fd ["_law_desk", "_law_letter"] (spTold K C_Desk) := by
  refine F.ok sc_law_told (fun vs H Q E h => by obtain ⟨_, _, _, _, rfl, _⟩ := h; rfl) (fun cdv A outer s H vs Q E hr h => ?_)
  obtain ⟨x, f, d, l, rfl, hD, ok, hlen, q1, q2⟩ := h
  refine ⟨_, (pss_one (L2N.ps_try_as (i := 2) rfl rfl sc_law_told.nd rfl rfl ⟨rfl, by decide, .inl T.e_BellError.g⟩ takesN0 (fun W pn xe tk _ => (pss_one (ps_ret (pe_mT c_Desk_propose T.cl_Desk (hr.mono (by decide)) tk (pv 0) (pa_cons (pv 1) pa_nil)))))
  (fun a oe cls d pn hz hf => (pss_one (ps_ret (pe_lst (pa_cons (pe_callE c_law_only (hr.mono (by decide)) hz hf (pa_cons (pv 2) (pa_cons pe_str pa_nil))) (pa_cons pe_bl pa_nil)))))))), ?_⟩
  simp only [L2.start, n_law_told, List.map_cons, List.map_nil, List.length_cons, List.length_nil, List.replicate_succ, List.replicate_zero, Nat.reduceAdd, Nat.reduceSub, Nat.sub_self, List.cons_append, List.nil_append]
  walk_at "wp"
  obtain ⟨dx, hi⟩ := hD.ins
  refine ⟨_, _, hi, rfl, x, f, d, l, rfl, hD, ok, hlen, fun hm => ?_, fun hm v H1 f1 d1 dv => q2 hm v H1 f1 d1 dv⟩
  refine ⟨true, T.x_Twice_BellError, fun _ a ha => ?_, fun z => nomatch z⟩
  walk_at "wp"
  refine ⟨Str.ofString "Twice", C_Twice, _, rfl, rfl, rfl, T.o_Twice, rfl, fun H2 s2 => ?_⟩
  have e : decide ([false, false, false, false, true, false, false, false] = names8.map fun n => decide (n = Str.ofString "Twice")) = true := by decide +kernel
  rw [e]
  walk_at "wp"
  exact ⟨by decide, new_o fun p H3 hp s3 h3 => q1 hm p H3 (s2.trans s3) h3⟩
def sideD (h : Int) (M : List Int) : Dsk := ⟨h, M.length, M, M.mapIdx fun i l => ⟨((i : Int) + 1, h), i, l⟩, [], []⟩
theorem sideD_prop (h : Int) (M : List Int) (l : Int) : (sideD h M).prop l = sideD h (M ++ [l]) := by
  unfold Dsk.prop sideD
  simp [List.mapIdx_append, List.mapIdx_cons]
theorem sideD_nil (h : Int) : sideD h [] = Dsk.new h := rfl
theorem sideD_ok (h : Int) (M : List Int) : (sideD h M).Ok := by
  refine ⟨fun t m => ?_, ?_⟩
  · have m : t ∈ M.mapIdx fun i l => (⟨((i : Int) + 1, h), i, l⟩ : Tri) := m
    rw [List.mem_mapIdx] at m
    obtain ⟨i, hi, rfl⟩ := m
    exact List.getElem_mem hi
  · show (M.mapIdx _).length + 0 ≤ M.length
    rw [List.length_mapIdx]
    exact Nat.le_refl _
theorem sideD_wait (h : Int) (M : List Int) : (sideD h M).wait = M.mapIdx fun i l => ⟨((i : Int) + 1, h), l, false⟩ := by
  unfold Dsk.wait sideD
  simp only [List.map_nil, List.append_nil]
  rw [List.mergeSort_of_pairwise]
  · rw [List.map_map]
    apply List.ext_getElem?
    intro i
    simp only [List.getElem?_map, List.getElem?_mapIdx, Option.map_map]
    cases M[i]? <;> rfl
  · rw [List.pairwise_iff_getElem]
    intro i j hi hj hij
    simp only [List.getElem_map, List.getElem_mapIdx, qOf]
    have ne : ¬ (((j : Int) + 1, h) : Mk2) = ((i : Int) + 1, h) := fun z => by
      have := congrArg Prod.fst z
      simp only at this
      omega
    have ne1 : ¬ ((j : Int) + 1) = (i : Int) + 1 := by omega
    have e : ∀ a b : Int, PySem.W.DatumOrd.lt (⟨((j : Int) + 1, h), j, b, false⟩ : Quad) ⟨((i : Int) + 1, h), i, a, false⟩ = false := fun a b => by
      show (if (((j : Int) + 1, h) : Mk2) = ((i : Int) + 1, h) then _ else PySem.W.DatumOrd.lt (((j : Int) + 1, h) : Mk2) ((i : Int) + 1, h)) = false
      rw [if_neg ne]
      show (if ((j : Int) + 1) = (i : Int) + 1 then _ else decide (((j : Int) + 1) < (i : Int) + 1)) = false
      rw [if_neg ne1]
      exact decide_eq_false (by omega)
    unfold leA
    rw [e]
    rfl
def spMet (K : PySem.W.Frag) (C : Addr) : Sp := fun vs H Q _ => ∃ (x : Addr) (f : DFp) (h : Int) (M : List Int) (ml : Addr) (l : Int), vs = [.ref x, .int h, .ref ml, .int l] ∧ DeskAt K C H x f (sideD h M) ∧ H ml = some (.lst (M.map V.int)) ∧ ¬ f.In x ml ∧ M.length ≤ 9000 ∧
  (l ∈ M → ∀ H', Same H H' → Q (.bl true) H') ∧ (l ∉ M → ∀ H', Frm (fun a => f.In x a ∨ a = ml) H H' → DeskAt K C H' x f (sideD h (M ++ [l])) → H' ml = some (.lst ((M ++ [l]).map V.int)) → Q (.bl true) H')
theorem inV_ints (l : Int) (M : List Int) : inV (.int l) (M.map V.int) = decide (l ∈ M) := by
  induction M with
  | nil => rfl
  | cons m M ih =>
    show ((m == l) || inV (.int l) (M.map V.int)) = _
    rw [ih, Bool.eq_iff_iff, Bool.or_eq_true, beq_iff_eq, decide_eq_true_eq, decide_eq_true_eq, List.mem_cons]
    exact ⟨fun h => h.imp Eq.symm (fun z => z), fun h => h.imp Eq.symm (fun z => z)⟩
theorem flat_ints (M : List Int) : (M.map V.int).all flatV = true := by
  rw [List.all_eq_true]
  intro v hv
  obtain ⟨i, _, rfl⟩ := List.mem_map.mp hv
  rfl
abbrev s_law_met : Stmt := top 19
abbrev n_law_met : List Str := ["_law_desk", "_law_hand", "_law_met_here", "_law_letter", "_law_found"]
theorem sc_law_met : FnScope n_law_met ["_law_desk", "_law_hand", "_law_met_here", "_law_letter"] (defScope s_law_met) := ⟨rfl, rfl, rfl, by decide +kernel, rfl, by decide +kernel, by decide +kernel⟩
theorem ok_met {f : Addr} {fd : FuncData} (F : Fun K "_law_met" "_law_met" s_law_met f fd) (B : Bt mg) (T : Tt K w mg C_BellError C_BadCount C_NoHand C_NoLetter C_NoMail C_Twice C_NotOpen C_BadMark C_NoNote C_Desk) (c_law_told : Cal P w K mg base CX0 2 "_law_told" ["_law_desk", "_law_letter"] (spTold K C_Desk)) (c_law_mark : Cal P w K mg base CX0 2 "_law_mark" ["_law_found"] (spMark K)) : FnOk P w K mg base CX0 3 f fd ["_law_desk", "_law_hand", "_law_met_here", "_law_letter"] (spMet K C_Desk) := by
  refine F.ok sc_law_met (fun vs H Q E h => by obtain ⟨_, _, _, _, _, _, rfl, _⟩ := h; rfl) (fun cdv A outer s H vs Q E hr h => ?_)
  obtain ⟨x, f, h, M, ml, l, rfl, hD, hml, hn, hlen, q1, q2⟩ := h
  refine ⟨_, (pss_cons (ps_set (i := 4) sc_law_met.nd rfl (Or.inl rfl) (pe_callC c_law_told (hr.mono (by decide)) (pa_cons (pv 0) (pa_cons (pv 3) pa_nil))))
  (pss_cons (ps_if (pt_cmpR (r := rIn K false) op_in_seq (pv 3) (pv 2) (by rfl))
  (pss_one (ps_ret (pe_cmpR (r := rEqA (List Bool) K) (op_eqA (by decide) hr.units) (pv 4) (pe_lst (pa_cons pe_bl (pa_cons pe_bl pa_nil))) (nomark _))))
  pss_nil)
  (pss_cons (ps_expr (pe_bm PySem.F.plainAttrs_list PySem.F.slot_list_append PySem.F.type_list_append mt_append (pv 2) (pa_cons (pv 3) pa_nil)))
  (pss_one (ps_ret (pe_and (pe_callC c_law_mark (hr.mono (by decide)) (pa_cons (pv 4) pa_nil)) (pe_one (pe_cmpR (r := rEqA (Mk) K) (op_eqA (by decide) hr.units) (pv 4) (pe_tup (pa_cons (pe_callB (r := rLenQ K) call_lenQ (by rfl) B.len (by decide +kernel) (pa_cons (pv 2) pa_nil)) (pa_cons (pv 1) pa_nil))) (nomark _))))))))), ?_⟩
  simp only [L2.start, n_law_met, List.map_cons, List.map_nil, List.length_cons, List.length_nil, List.replicate_succ, List.replicate_zero, Nat.reduceAdd, Nat.reduceSub, Nat.sub_self, List.cons_append, List.nil_append]
  walk_at "wp"
  refine ⟨x, f, sideD h M, l, rfl, hD, sideD_ok h M, (show M.length ≤ 10000 by omega), fun hm p H1 s1 h1 => ?_, fun hm v H1 f1 d1 dv => ?_⟩
  · have hm : l ∈ M := hm
    walk_at "wp"
    refine ⟨_, _, rfl, .inl (sqL (s1 _ _ hml)), rfl, flat_ints M, ?_⟩
    rw [inV_ints]
    walk_at "wp"
    refine iteT' hm ?_
    refine ⟨by decide, new_o fun p2 H2 hp2 s2 h2 => ?_⟩
    walk_at "wp"
    refine ⟨[true, true], [true, true], dv_lst (sqL (s2 _ _ h1)) (dvL_bls [true, true]), dv_lst (sqL h2) (dvL_bls [true, true]), ?_⟩
    exact q1 hm _ (s1.trans s2)
  · have hm : l ∉ M := hm
    rw [sideD_prop] at d1
    have hml1 := f1 _ _ hml fun z => absurd z hn
    walk_at "wp"
    refine ⟨_, _, rfl, .inl (sqL hml1), rfl, flat_ints M, ?_⟩
    rw [inV_ints]
    walk_at "wp"
    refine iteF' hm ?_
    refine ⟨⟨_, sqL hml1⟩, ?_⟩
    walk_at "wp"
    refine ⟨_, hml1, by rw [List.length_map]; exact sz_lt (by omega), wr_o hml1 (fun z => z) fun H2 f2 h2 => ?_⟩
    walk_at "wp"
    have dv2 := dv.frm f2
    refine ⟨v, _, rfl, dv2, ?_⟩
    walk_at "wp"
    refine ⟨_, .inl (sqL h2), by decide, new_o fun t H3 ht s3 h3 => ?_⟩
    have e1 : ((M.map V.int ++ [V.int l]).length : Int) = (M.length : Int) + 1 := by simp
    rw [e1] at h3
    have dv3 := dv2.same s3
    walk_at "wp"
    refine ⟨((sideD h M).clock + 1, (sideD h M).hand), ((M.length : Int) + 1, h), dv3, dv_pair (sqT h3) (dv_int _) (dv_int _), ?_⟩
    have e : decide ((((sideD h M).clock + 1, (sideD h M).hand) : Mk) = ((M.length : Int) + 1, h)) = true := decide_eq_true rfl
    rw [e]
    have f02 : Frm (fun a => f.In x a ∨ a = ml) H H2 := (f1.mono fun a z => .inl z).trans (f2.mono fun a z => .inr z)
    refine q2 hm _ (f02.trans (Frm.of_same s3)) ((d1.frm f2 fun a z w => hn (by rw [← w]; exact z)).same s3) ?_
    rw [List.map_append]
    exact s3 _ _ h2
def spWaits (K : PySem.W.Frag) (C : Addr) : Sp := fun vs H Q _ => ∃ (x : Addr) (f : DFp) (h : Int) (M : List Int) (ml kd tl : Addr), vs = [.ref x, .int h, .ref ml, .ref kd] ∧ DeskAt K C H x f (sideD h M) ∧ H ml = some (.lst (M.map V.int)) ∧ M.length ≤ 9000 ∧
  H kd = some (.dK [(Sum.inr (Str.ofString "told"), .ref tl)]) ∧ H tl = some (.lst []) ∧
  ∀ H' t', Frm (fun a => a = kd) H H' → H t' = none → H' kd = some (.dK [(Sum.inr (Str.ofString "told"), .ref t')]) → H' t' = some (.lst []) → Q (.bl true) H'
abbrev s_law_waits : Stmt := top 20
abbrev n_law_waits : List Str := ["_law_desk", "_law_hand", "_law_met_here", "_law_kept", "_law_found", "_law_k", "_law_one", "_law_time"]
theorem sc_law_waits : FnScope n_law_waits ["_law_desk", "_law_hand", "_law_met_here", "_law_kept"] (defScope s_law_waits) := ⟨rfl, rfl, rfl, by decide +kernel, rfl, by decide +kernel, by decide +kernel⟩
theorem ok_waits {f : Addr} {fd : FuncData} (F : Fun K "_law_waits" "_law_waits" s_law_waits f fd) (B : Bt mg) (T : Tt K w mg C_BellError C_BadCount C_NoHand C_NoLetter C_NoMail C_Twice C_NotOpen C_BadMark C_NoNote C_Desk) (c_Desk_waiting : CalM P w K mg base CX0 1 C_Desk "waiting" ["self"] (spWaiting K C_Desk)) (c_Desk_clock : CalM P w K mg base CX0 1 C_Desk "clock" ["self"] (spClock K C_Desk)) (c_Desk_handed : CalM P w K mg base CX0 1 C_Desk "handed" ["self"] (spHanded K C_Desk)) (c_law_mark : Cal P w K mg base CX0 2 "_law_mark" ["_law_found"] (spMark K)) (c_law_whole : Cal P w K mg base CX0 1 "_law_whole" ["_law_found"] (spWhole)) : FnOk P w K mg base CX0 3 f fd ["_law_desk", "_law_hand", "_law_met_here", "_law_kept"] (spWaits K C_Desk) := by
  refine F.ok sc_law_waits (fun vs H Q E h => by obtain ⟨_, _, _, _, _, _, _, rfl, _⟩ := h; rfl) (fun cdv A outer s H vs Q E hr h => ?_)
  obtain ⟨x, f, h, M, ml, kd, tl, rfl, hD, hml, hlen, hkd, htl, q⟩ := h
  refine ⟨_, (pss_cons (ps_set (i := 4) sc_law_waits.nd rfl (Or.inl rfl) (pe_m0C c_Desk_waiting T.cl_Desk (hr.mono (by decide)) (pv 0)))
  (pss_cons (ps_if (PW.pt (pw_or (pt_not (pt_val (pe_callB (r := rIs "list" K) (call_is "list") (by rfl) B.isinstance (by decide +kernel) (pa_cons (pv 4) (pa_cons (pe_bltn (v := .ty "list") (by rfl) B.list (by decide +kernel) rfl) pa_nil))))) (pw_or (pt_cmpR op_ne (pe_callB (r := rLenQ K) call_lenQ (by rfl) B.len (by decide +kernel) (pa_cons (pv 4) pa_nil)) (pe_callB (r := rLenQ K) call_lenQ (by rfl) B.len (by decide +kernel) (pa_cons (pv 2) pa_nil)) (nomark _)) (pw_or1 (pt_cmpR (r := rNeA (List Int) K) (op_neA (by decide) hr.units) (pe_dgetY (hu_of hr) (pv 3) pe_str (fun _ _ => rfl)) (pe_lst pa_nil) (nomark _))))))
  (pss_one (ps_ret pe_bl))
  pss_nil)
  (pss_cons (ps_dputY (hu_of hr) (pv 3) pe_str (pv 4) rfl)
  (pss_cons (ps_for PassesOwn.never rfl (pi_enum (by rfl) B.enumerate (pa_cons (pv 4) pa_nil)) (pg_tup rfl (pgs_cons (pg_name (i := 5) sc_law_waits.nd rfl (Or.inl rfl)) (pgs_cons (pg_name (i := 6) sc_law_waits.nd rfl (Or.inl rfl)) pgs_nil)))
  (pss_cons (ps_if (PW.pt (pw_or (pt_not (pt_val (pe_callB (r := rIs "tuple" K) (call_is "tuple") (by rfl) B.isinstance (by decide +kernel) (pa_cons (pv 6) (pa_cons (pe_bltn (v := .ty "tuple") (by rfl) B.tuple (by decide +kernel) rfl) pa_nil))))) (pw_or (pt_cmpR op_ne (pe_callB (r := rLenQ K) call_lenQ (by rfl) B.len (by decide +kernel) (pa_cons (pv 6) pa_nil)) pe_int (nomark _)) (pw_or (pt_not (pt_val (pe_callC c_law_mark (hr.mono (by decide)) (pa_cons (pe_ix (r := rIxT K) ix_tup (pv 6) pe_int (fun _ _ => rfl)) pa_nil)))) (pw_or1 (pt_cmpR (r := rNeA (Mk) K) (op_neA (by decide) hr.units) (pe_ix (r := rIxT K) ix_tup (pv 6) pe_int (fun _ _ => rfl)) (pe_tup (pa_cons (pe_op op_add (pv 5) pe_int) (pa_cons (pv 1) pa_nil))) (nomark _)))))))
  (pss_one (ps_ret pe_bl))
  pss_nil)
  (pss_one (ps_if (PW.pt (pw_or (pt_not (pt_val (pe_callC c_law_whole (hr.mono (by decide)) (pa_cons (pe_ix (r := rIxT K) ix_tup (pv 6) pe_int (fun _ _ => rfl)) pa_nil)))) (pw_or (pt_cmpR op_ne (pe_ix (r := rIxT K) ix_tup (pv 6) pe_int (fun _ _ => rfl)) (pe_ix (r := rIxL K) ix_list (pv 2) (pv 5) (fun _ _ => rfl)) (nomark _)) (pw_or1 (pt_cmpR op_notBl (pe_ix (r := rIxT K) ix_tup (pv 6) pe_int (fun _ _ => rfl)) pe_bl (nomark _))))))
  (pss_one (ps_ret pe_bl))
  pss_nil))))
  (pss_cons (ps_expr (pe_bm0 PySem.F.plainAttrs_list PySem.F.slot_list_clear PySem.F.type_list_clear mt_clear (pv 4)))
  (pss_cons (ps_set (i := 7) sc_law_waits.nd rfl (Or.inl rfl) (pe_m0C c_Desk_clock T.cl_Desk (hr.mono (by decide)) (pv 0)))
  (pss_one (ps_ret (pe_and (pe_cmpR (r := rEqA (List Int) K) (op_eqA (by decide) hr.units) (pe_m0C c_Desk_handed T.cl_Desk (hr.mono (by decide)) (pv 0)) (pe_lst pa_nil) (nomark _)) (pe_and (pe_callC c_law_whole (hr.mono (by decide)) (pa_cons (pv 7) pa_nil)) (pe_one (pe_cmpR op_eq (pv 7) (pe_callB (r := rLenQ K) call_lenQ (by rfl) B.len (by decide +kernel) (pa_cons (pv 2) pa_nil)) (nomark _))))))))))))), ?_⟩
  simp only [L2.start, n_law_waits, List.map_cons, List.map_nil, List.length_cons, List.length_nil, List.replicate_succ, List.replicate_zero, Nat.reduceAdd, Nat.reduceSub, Nat.sub_self, List.cons_append, List.nil_append]
  walk_at "wp"
  obtain ⟨dx, hi⟩ := hD.ins
  refine ⟨_, _, hi, rfl, x, f, sideD h M, rfl, hD, sideD_ok h M, (show M.length ≤ 10000 by omega), fun p ys H1 s1 hp h1 hv => ?_⟩
  rw [sideD_wait] at hv
  have hyl := hv.length
  rw [List.length_mapIdx] at hyl
  walk_at "wp"
  refine .inr ⟨_, sqL h1, ?_⟩
  walk_at "wp"
  refine ⟨_, .inl (sqL h1), _, .inl (sqL (s1 _ _ hml)), ?_⟩
  rw [List.length_map]
  refine ite2 (fun z => absurd hyl (by simp only [Bool.not_eq_true', decide_eq_false_iff_not] at z; omega)) (fun _ => ?_)
  refine ⟨_, _, s1 _ _ hkd, rfl, by decide, new_o fun e0 H2 he0 s2 h2 => ?_⟩
  have s02 := s1.trans s2
  refine ⟨[], [], dv_lst (sqL (s02 _ _ htl)) (.nil : DvL K H2 [] ([] : List Int)), dv_lst (sqL h2) .nil, ?_⟩
  walk_at "wp"
  have hkd2 := s02 _ _ hkd
  refine ⟨_, hkd2, sz_lt (by simp), wr_o hkd2 (fun z => z) fun H3 f3 h3 => ?_⟩
  walk_at "wp"
  have h3 : H3 kd = some (.dK [(Sum.inr (Str.ofString "told"), .ref p)]) := h3
  have pk : p ≠ kd := fun z => by rw [← z, hp] at hkd; cases hkd
  have mk : ml ≠ kd := fun z => by rw [z, hkd] at hml; cases hml
  have nk : ∀ a, f.In x a → ¬ a = kd := by
    rintro a (rfl | rfl | rfl | rfl | rfl) z
    · rw [z, hkd] at hi; cases hi
    · have e := hD.met
      rw [z, hkd] at e
      cases M with
      | nil => cases e
      | cons m M => injection e with e; injection e with e; injection e with e1 e2; injection e1 with e3 e4; cases e3
    · obtain ⟨kvs, e, e2, _⟩ := hD.uns
      rw [z, hkd] at e
      cases e
      have hm : (Sum.inr (Str.ofString "told") : Key) ∈ (sideD h M).uns.map (fun t => (Sum.inl t.c : Key)) := by rw [← e2]; exact List.mem_singleton.mpr rfl
      obtain ⟨t, _, ht⟩ := List.mem_map.mp hm
      cases ht
    · obtain ⟨vs, e, _⟩ := hD.stl
      rw [z, hkd] at e; cases e
    · have e := hD.row
      rw [z, hkd] at e; cases e
  have np : ∀ a, f.In x a → ¬ a = p := fun a i z => by
    obtain ⟨o, e, _⟩ := hD.some i
    rw [z, hp] at e; cases e
  have h1' : H3 p = some (.lst ys) := f3 _ _ (s2 _ _ h1) fun z => absurd z pk
  have hml3 := f3 _ _ (s02 _ _ hml) fun z => absurd z mk
  have hv3 := (hv.same s2).frm f3
  refine ⟨_, sqL h1', loop_enum (fun i σ H4 => Same H3 H4 ∧ ∃ v5 v6 v7 : Option V, σ = [some (.ref x), some (.int h), some (.ref ml), some (.ref kd), some (.ref p), v5, v6, v7]) ⟨Same.refl _, _, _, _, rfl⟩ (fun i σ H4 _ hh => sqL (hh.1 _ _ h1')) ?_ ?_⟩
  · rintro i y T' σ H4 H5 hy ⟨s4, v5, v6, v7, rfl⟩ hT s5 h5
    obtain ⟨q3, hq3, dq⟩ := hv3.at hy
    rw [List.getElem?_mapIdx] at hq3
    obtain ⟨l, hl, rfl⟩ : ∃ l, M[i]? = some l ∧ q3 = (⟨((i : Int) + 1, h), l, false⟩ : Wt) := by
      cases e : M[i]? with
      | none => rw [e] at hq3; cases hq3
      | some l => rw [e] at hq3; exact ⟨l, rfl, (Option.some.inj hq3).symm⟩
    have s35 := s4.trans s5
    obtain ⟨a, w1, w2, w3, rfl, hs, d1, d2, d3⟩ := dv_t3_of (dq.same s35)
    have d2 : Dv K H5 w2 l := d2
    have d3 : Dv K H5 w3 false := d3
    have e2 := dv_int_of d2
    have e3 := dv_bl_of d3
    subst e2 e3
    walk_at "wg"
    refine ⟨_, sqT h5, rfl, ?_⟩
    walk_at "wg"
    walk_at "wp"
    refine .inl ⟨_, hs, ?_⟩
    refine ⟨_, .inr hs, ?_⟩
    walk_at "wp"
    refine ite2 (fun z => by simp at z) (fun _ => ?_)
    refine ⟨_, _, hs, b_at0, w1, _, rfl, d1, ?_⟩
    walk_at "wp"
    refine ⟨_, _, hs, b_at0, by decide, new_o fun t H6 ht s6 h6 => ?_⟩
    refine ⟨((i : Int) + 1, h), ((i : Int) + 1, h), d1.same s6, dv_pair (sqT h6) (dv_int _) (dv_int _), ?_⟩
    walk_at "wp"
    have hs6 := s6.seqT hs
    refine ⟨_, _, hs6, b_at1, _, rfl, ?_⟩
    walk_at "wp"
    refine ⟨_, _, hs6, b_at1, ?_⟩
    have hm6 := s6 _ _ (s35 _ _ hml3)
    refine ⟨_, .int l, sqL hm6, atI_nat (by rw [List.getElem?_map, hl]; rfl), ?_⟩
    walk_at "wp"
    refine ⟨_, _, hs6, b_at2, ?_⟩
    walk_at "wp"
    exact ⟨s35.trans s6, _, _, _, rfl⟩
  · rintro σ H4 ⟨s4, v5, v6, v7, rfl⟩
    have h4 := s4 _ _ h1'
    walk_at "wp"
    refine ⟨⟨_, sqL h4⟩, _, h4, wr_o h4 (fun z => z) fun H5 f5 h5 => ?_⟩
    walk_at "wp"
    have hD5 : DeskAt K C_Desk H5 x f (sideD h M) := (((hD.same s02).frm f3 nk).same s4).frm f5 np
    obtain ⟨dx5, hi5⟩ := hD5.ins
    refine ⟨_, _, hi5, rfl, x, f, _, rfl, hD5, ?_⟩
    walk_at "wp"
    refine ⟨_, _, hi5, rfl, x, f, _, rfl, hD5, fun r H6 s6 hr6 h6 => ?_⟩
    walk_at "wp"
    refine ⟨by decide, new_o fun r2 H7 hr7 s7 h7 => ?_⟩
    refine ⟨[], [], dv_lst (sqL (s7 _ _ h6)) (.nil : DvL K H7 [] ([] : List Int)), dv_lst (sqL h7) .nil, ?_⟩
    walk_at "wp"
    refine ⟨_, rfl, ?_⟩
    have hpm : ml ≠ p := fun z => by rw [← z, hml] at hp; cases hp
    have hm7 := s7 _ _ (s6 _ _ (f5 _ _ (s4 _ _ hml3) fun z => absurd z hpm))
    walk_at "wp"
    refine ⟨_, .inl (sqL hm7), ?_⟩
    rw [List.length_map]
    have ec : decide ((sideD h M).clock = (M.length : Int)) = true := decide_eq_true rfl
    rw [ec]
    have fA : Frm (fun a => a = kd) H H3 := (Frm.of_same s02).trans f3
    have fB : Frm (fun a => a = kd) H H5 := fun a o e n => by
      have e3 := s4 _ _ (fA a o e n)
      exact f5 a o e3 fun z => by rw [z, hp] at e; cases e
    refine q H7 p ((fB.trans (Frm.of_same s6)).trans (Frm.of_same s7)) hp ?_ (s7 _ _ (s6 _ _ h5))
    exact s7 _ _ (s6 _ _ (f5 _ _ (s4 _ _ h3) fun z => absurd z.symm pk))
theorem none_of {H H' : Hp} {a : Addr} (s : Same H H') (e : H' a = none) : H a = none := by
  cases h : H a with
  | none => rfl
  | some o => rw [s a o h] at e; cases e
def Gr (H H' : Hp) : Prop := ∀ a o, H a = some o → ∃ o', H' a = some o'
theorem Gr.same {H H' : Hp} (s : Same H H') : Gr H H' := fun a o e => ⟨o, s a o e⟩
theorem Gr.trans {H H' H'' : Hp} (g : Gr H H') (g' : Gr H' H'') : Gr H H'' := fun a o e => by
  obtain ⟨o', e'⟩ := g a o e
  exact g' a o' e'
theorem Gr.wr {H H' : Hp} {p : Addr} {o : HO} (f : Frm (fun b => b = p) H H') (h : H' p = some o) : Gr H H' := fun a u e => by
  by_cases z : a = p
  · rw [z]; exact ⟨_, h⟩
  · exact ⟨u, f a u e fun w => absurd w z⟩
theorem Gr.ne {H H' : Hp} {a p : Addr} {o : HO} (g : Gr H H') (e : H a = some o) (hp : H' p = none) : a ≠ p := fun z => by
  obtain ⟨u, e'⟩ := g a o e
  rw [z, hp] at e'; cases e'
structure SF where
  x : Addr
  f : DFp
  h : Int
  ml : Addr
  kd : Addr
def SF.Reg (s : SF) (a : Addr) : Prop := s.f.In s.x a ∨ a = s.ml ∨ a = s.kd
def Ns (s : Bool → SF) (a : Addr) : Prop := ∃ b, (s b).Reg a
structure SideAt (K : PySem.W.Frag) (C : Addr) (H : Hp) (s : SF) (M : List Int) (N : Addr → Prop) : Prop where
  desk : DeskAt K C H s.x s.f (sideD s.h M)
  lst : H s.ml = some (.lst (M.map V.int))
  kept : ∃ tl, H s.kd = some (.dK [(Sum.inr (Str.ofString "told"), .ref tl)]) ∧ H tl = some (.lst []) ∧ ¬ N tl
structure Shp (s : Bool → SF) (lh ld lm lk : Addr) : Prop where
  nml : ∀ b, ¬ (s b).f.In (s b).x (s b).ml
  nkd : ∀ b, ¬ (s b).f.In (s b).x (s b).kd
  mlk : ∀ b, (s b).ml ≠ (s b).kd
  dis : ∀ b c a, (s b).Reg a → (s c).Reg a → b = c
  cont : ∀ b a, (s b).Reg a → a ≠ lh ∧ a ≠ ld ∧ a ≠ lm ∧ a ≠ lk
structure All (K : PySem.W.Frag) (C : Addr) (H : Hp) (s : Bool → SF) (M : Bool → List Int) (lh ld lm lk : Addr) : Prop where
  side : ∀ b, SideAt K C H (s b) (M b) (Ns s)
  hh : H lh = some (.lst [.int (s false).h, .int (s true).h])
  hd : H ld = some (.lst [.ref (s false).x, .ref (s true).x])
  hm : H lm = some (.lst [.ref (s false).ml, .ref (s true).ml])
  hk : H lk = some (.lst [.ref (s false).kd, .ref (s true).kd])
section
variable {C : Addr} {H H' : Hp} {s : Bool → SF} {M : Bool → List Int} {lh ld lm lk : Addr}
theorem SideAt.frm {Md N : Addr → Prop} {s : SF} {M : List Int} (h : SideAt K C H s M N) (e : Frm Md H H') (n : ∀ a, s.Reg a → ¬ Md a) (n2 : ∀ a, Md a → N a) : SideAt K C H' s M N := by
  obtain ⟨tl, h1, h2, h3⟩ := h.kept
  exact ⟨h.desk.frm e fun a z => n a (.inl z), e _ _ h.lst fun z => absurd z (n _ (.inr (.inl rfl))), tl, e _ _ h1 fun z => absurd z (n _ (.inr (.inr rfl))), e _ _ h2 fun z => absurd (n2 _ z) h3, h3⟩
theorem SideAt.some {N : Addr → Prop} {s : SF} {M : List Int} (h : SideAt K C H s M N) {a : Addr} (i : s.Reg a) : ∃ o, H a = some o := by
  obtain ⟨tl, h1, _⟩ := h.kept
  rcases i with i | rfl | rfl
  · obtain ⟨o, e, _⟩ := h.desk.some i
    exact ⟨o, e⟩
  · exact ⟨_, h.lst⟩
  · exact ⟨_, h1⟩
def upM (M : Bool → List Int) (b : Bool) (l : Int) : Bool → List Int := fun c => if c = b then M b ++ [l] else M c
theorem upM_self {b : Bool} {l : Int} : upM M b l b = M b ++ [l] := if_pos rfl
theorem upM_ne {b c : Bool} {l : Int} (h : c ≠ b) : upM M b l c = M c := if_neg h
theorem All.frm {Md : Addr → Prop} {b : Bool} (A : All K C H s M lh ld lm lk) (S : Shp s lh ld lm lk) (e : Frm Md H H') (n : ∀ a, Md a → (s b).Reg a) (M' : Bool → List Int) (e1 : SideAt K C H' (s b) (M' b) (Ns s)) (e2 : ∀ c, c ≠ b → M' c = M c) : All K C H' s M' lh ld lm lk := by
  refine ⟨fun c => ?_, e _ _ A.hh fun z => absurd rfl (S.cont b _ (n _ z)).1, e _ _ A.hd fun z => absurd rfl (S.cont b _ (n _ z)).2.1, e _ _ A.hm fun z => absurd rfl (S.cont b _ (n _ z)).2.2.1, e _ _ A.hk fun z => absurd rfl (S.cont b _ (n _ z)).2.2.2⟩
  by_cases hc : c = b
  · rw [hc]; exact e1
  · rw [e2 c hc]
    exact (A.side c).frm e (fun a z w => hc (S.dis c b a z (n a w))) fun a z => ⟨b, n a z⟩
theorem All.same (A : All K C H s M lh ld lm lk) (e : Same H H') : All K C H' s M lh ld lm lk :=
  ⟨fun c => (A.side c).frm (Frm.of_same (M := fun _ => False) e) (fun _ _ z => z) fun _ z => z.elim, e _ _ A.hh, e _ _ A.hd, e _ _ A.hm, e _ _ A.hk⟩
theorem All.met {b : Bool} {l : Int} (A : All K C H s M lh ld lm lk) (S : Shp s lh ld lm lk) (e : Frm (fun a => (s b).f.In (s b).x a ∨ a = (s b).ml) H H') (d1 : DeskAt K C H' (s b).x (s b).f (sideD (s b).h (M b ++ [l])))
    (h1 : H' (s b).ml = some (.lst ((M b ++ [l]).map V.int))) : All K C H' s (upM M b l) lh ld lm lk := by
  refine A.frm S (b := b) e (fun a z => z.elim .inl fun w => .inr (.inl w)) _ ?_ fun c hc => upM_ne hc
  rw [upM_self]
  obtain ⟨tl, k1, k2, k3⟩ := (A.side b).kept
  refine ⟨d1, h1, tl, e _ _ k1 fun z => ?_, e _ _ k2 fun z => absurd ⟨b, z.elim .inl fun w => .inr (.inl w)⟩ k3, k3⟩
  exact absurd z (fun z => z.elim (S.nkd b) (fun w => S.mlk b w.symm))
theorem All.waits {b : Bool} {t' : Addr} (A : All K C H s M lh ld lm lk) (S : Shp s lh ld lm lk) (e : Frm (fun a => a = (s b).kd) H H') (ht : H t' = none) (h1 : H' (s b).kd = some (.dK [(Sum.inr (Str.ofString "told"), .ref t')])) (h2 : H' t' = some (.lst [])) : All K C H' s M lh ld lm lk := by
  refine A.frm S (b := b) e (fun a z => .inr (.inr z)) _ ?_ fun c hc => rfl
  refine ⟨(A.side b).desk.frm e fun a z w => S.nkd b (by rw [← w]; exact z), e _ _ (A.side b).lst fun z => absurd z (S.mlk b), t', h1, h2, ?_⟩
  rintro ⟨c, hc⟩
  obtain ⟨o, ho⟩ := (A.side c).some hc
  rw [ht] at ho; cases ho
theorem All.sp_met {b : Bool} {l : Int} {Q : VK} {E : XK} (A : All K C H s M lh ld lm lk) (S : Shp s lh ld lm lk) (hn : (M b).length ≤ 9000) (q : ∀ H' M', Frm (Ns s) H H' → (∀ c, (M' c).length ≤ (M c).length + 1) → All K C H' s M' lh ld lm lk → Q (.bl true) H') :
    spMet K C [.ref (s b).x, .int (s b).h, .ref (s b).ml, .int l] H Q E := by
  refine ⟨_, _, _, _, _, _, rfl, (A.side b).desk, (A.side b).lst, S.nml b, hn, fun _ H' s1 => ?_, fun _ H' f1 d1 h1 => ?_⟩
  · exact q H' M (Frm.of_same s1) (fun c => Nat.le_succ _) (A.same s1)
  · refine q H' _ (f1.mono fun a z => ⟨b, z.elim .inl fun w => .inr (.inl w)⟩) (fun c => ?_) (A.met S f1 d1 h1)
    unfold upM
    split
    · next h => subst h; simp
    · omega
theorem All.sp_waits {b : Bool} {Q : VK} {E : XK} (A : All K C H s M lh ld lm lk) (S : Shp s lh ld lm lk) (hn : (M b).length ≤ 9000) (q : ∀ H', Frm (Ns s) H H' → All K C H' s M lh ld lm lk → Q (.bl true) H') :
    spWaits K C [.ref (s b).x, .int (s b).h, .ref (s b).ml, .ref (s b).kd] H Q E := by
  obtain ⟨tl, k1, k2, _⟩ := (A.side b).kept
  exact ⟨_, _, _, _, _, _, _, rfl, (A.side b).desk, (A.side b).lst, hn, k1, k2, fun H' t' f1 ht h1 h2 => q H' (f1.mono fun a z => ⟨b, .inr (.inr z)⟩) (A.waits S f1 ht h1 h2)⟩
theorem sqL_frm {Md : Addr → Prop} {a : Addr} {xs : List V} (f : Frm Md H H') (n : ∀ o, H a = some o → ¬ Md a) (h : SqL K H a xs) : SqL K H' a xs := by
  rcases h with (h | ⟨o, h⟩) | h
  · exact .inl (.inl (f _ _ h fun z => absurd z (n _ h)))
  · exact .inl (.inr ⟨o, f _ _ h fun z => absurd z (n _ h)⟩)
  · exact .inr h
theorem at2f (g : Bool → V) (k : Int) : atI [g false, g true] (k % 2) = some (g (decide (k % 2 = 1))) := by
  rcases Int.emod_two_eq k with e | e
  · rw [e]; rfl
  · rw [e]; rfl
end
def spLaw (K : PySem.W.Frag) : Sp := fun vs H Q _ => ∃ (a : Addr) (ns : List Int), vs = [.ref a] ∧ SqL K H a (ns.map V.int) ∧ ns.length ≤ 63 ∧ ∀ H', Q (.bl true) H'
abbrev s_law : Stmt := top 21
abbrev n_law : List Str := ["_law_script", "_law_hands", "_law_desks", "_law_met_here", "_law_kept", "_law_k", "_law_cell", "_law_letter"]
theorem sc_law : FnScope n_law ["_law_script"] (defScope s_law) := ⟨rfl, rfl, rfl, by decide +kernel, rfl, by decide +kernel, by decide +kernel⟩
theorem ok_law {f : Addr} {fd : FuncData} (F : Fun K "law" "law" s_law f fd) (B : Bt mg) (T : Tt K w mg C_BellError C_BadCount C_NoHand C_NoLetter C_NoMail C_Twice C_NotOpen C_BadMark C_NoNote C_Desk) (c_law_cell_at : Cal P w K mg base CX0 1 "_law_cell_at" ["_law_script", "_law_k"] (spCell K)) (c_Desk___init__ : CalI P w K mg base CX0 1 "Desk" C_Desk ["self", "hand"] (spInit K C_Desk)) (c_law_met : Cal P w K mg base CX0 3 "_law_met" ["_law_desk", "_law_hand", "_law_met_here", "_law_letter"] (spMet K C_Desk)) (c_law_waits : Cal P w K mg base CX0 3 "_law_waits" ["_law_desk", "_law_hand", "_law_met_here", "_law_kept"] (spWaits K C_Desk)) : FnOk P w K mg base CX0 4 f fd ["_law_script"] (spLaw K) := by
  refine F.ok sc_law (fun vs H Q E h => by obtain ⟨_, _, rfl, _⟩ := h; rfl) (fun cdv A outer s H vs Q E hr h => ?_)
  obtain ⟨a, ns, rfl, hs, hlen, q⟩ := h
  refine ⟨_, (pss_cons (ps_set (i := 1) sc_law.nd rfl (Or.inl rfl) (pe_lst (pa_cons (pe_op op_mod (pe_callC c_law_cell_at (hr.mono (by decide)) (pa_cons (pv 0) (pa_cons pe_int pa_nil))) pe_int) (pa_cons (pe_op op_mod (pe_op op_fdiv (pe_callC c_law_cell_at (hr.mono (by decide)) (pa_cons (pv 0) (pa_cons pe_int pa_nil))) pe_int) pe_int) pa_nil))))
  (pss_cons (ps_set (i := 2) sc_law.nd rfl (Or.inl rfl) (pe_lst (pa_cons (pe_mkC c_Desk___init__ (hr.mono (by decide)) (pa_cons (pe_ix (r := rIxL K) ix_list (pv 1) pe_int (fun _ _ => rfl)) pa_nil)) (pa_cons (pe_mkC c_Desk___init__ (hr.mono (by decide)) (pa_cons (pe_ix (r := rIxL K) ix_list (pv 1) pe_int (fun _ _ => rfl)) pa_nil)) pa_nil))))
  (pss_cons (ps_set (i := 3) sc_law.nd rfl (Or.inl rfl) (pe_lst (pa_cons (pe_lst pa_nil) (pa_cons (pe_lst pa_nil) pa_nil))))
  (pss_cons (ps_set (i := 4) sc_law.nd rfl (Or.inl rfl) (pe_lst (pa_cons (pe_disp (pps_cons pe_str (pe_lst pa_nil) pps_nil) (by rfl) (by rfl) (fun z => by cases z) (by decide)) (pa_cons (pe_disp (pps_cons pe_str (pe_lst pa_nil) pps_nil) (by rfl) (by rfl) (fun z => by cases z) (by decide)) pa_nil))))
  (pss_cons (ps_if (pt_cmpR op_eq (pe_op op_mod (pe_callC c_law_cell_at (hr.mono (by decide)) (pa_cons (pv 0) (pa_cons pe_int pa_nil))) pe_int) pe_int (nomark _))
  (pss_one (ps_for PassesOwn.never rfl (pi_range1 rfl B.range (pa_cons pe_int pa_nil)) (pg_name (i := 5) sc_law.nd rfl (Or.inl rfl))
  (pss_one (ps_if (pt_not (pt_val (pe_callC c_law_met (hr.mono (by decide)) (pa_cons (pe_ix (r := rIxL K) ix_list (pv 2) (pe_op op_mod (pv 5) pe_int) (fun _ _ => rfl)) (pa_cons (pe_ix (r := rIxL K) ix_list (pv 1) (pe_op op_mod (pv 5) pe_int) (fun _ _ => rfl)) (pa_cons (pe_ix (r := rIxL K) ix_list (pv 3) (pe_op op_mod (pv 5) pe_int) (fun _ _ => rfl)) (pa_cons (pe_op op_add (pe_op op_pow pe_int pe_int) (pe_op op_mul (pv 5) (pv 5))) pa_nil)))))))
  (pss_one (ps_ret pe_bl))
  pss_nil))))
  pss_nil)
  (pss_cons (ps_for PassesOwn.never rfl (pi_list (pe_slice (r := rSlL K) sl_list (pv 0) (po_some pe_int) po_none)) (pg_name (i := 6) sc_law.nd rfl (Or.inl rfl))
  (pss_cons (ps_set (i := 7) sc_law.nd rfl (Or.inl rfl) (pe_ix (r := rIxL K) ix_list (pe_lst (pa_cons (pe_op op_mod (pe_op op_fdiv (pv 6) pe_int) pe_int) (pa_cons (pe_op op_mod (pe_op op_fdiv (pv 6) pe_int) (pe_op op_pow pe_int pe_int)) pa_nil))) (pe_op op_mod (pe_op op_fdiv (pv 6) pe_int) pe_int) (fun _ _ => rfl)))
  (pss_cons (ps_if (pt_not (pt_val (pe_callC c_law_met (hr.mono (by decide)) (pa_cons (pe_ix (r := rIxL K) ix_list (pv 2) (pe_op op_mod (pv 6) pe_int) (fun _ _ => rfl)) (pa_cons (pe_ix (r := rIxL K) ix_list (pv 1) (pe_op op_mod (pv 6) pe_int) (fun _ _ => rfl)) (pa_cons (pe_ix (r := rIxL K) ix_list (pv 3) (pe_op op_mod (pv 6) pe_int) (fun _ _ => rfl)) (pa_cons (pv 7) pa_nil)))))))
  (pss_one (ps_ret pe_bl))
  pss_nil)
  (pss_one (ps_if (pt_not (pt_val (pe_callC c_law_waits (hr.mono (by decide)) (pa_cons (pe_ix (r := rIxL K) ix_list (pv 2) (pe_op op_mod (pv 6) pe_int) (fun _ _ => rfl)) (pa_cons (pe_ix (r := rIxL K) ix_list (pv 1) (pe_op op_mod (pv 6) pe_int) (fun _ _ => rfl)) (pa_cons (pe_ix (r := rIxL K) ix_list (pv 3) (pe_op op_mod (pv 6) pe_int) (fun _ _ => rfl)) (pa_cons (pe_ix (r := rIxL K) ix_list (pv 4) (pe_op op_mod (pv 6) pe_int) (fun _ _ => rfl)) pa_nil)))))))
  (pss_one (ps_ret pe_bl))
  pss_nil)))))
  (pss_cons (ps_if (pt_not (pt_val (pe_callC c_law_waits (hr.mono (by decide)) (pa_cons (pe_ix (r := rIxL K) ix_list (pv 2) pe_int (fun _ _ => rfl)) (pa_cons (pe_ix (r := rIxL K) ix_list (pv 1) pe_int (fun _ _ => rfl)) (pa_cons (pe_ix (r := rIxL K) ix_list (pv 3) pe_int (fun _ _ => rfl)) (pa_cons (pe_ix (r := rIxL K) ix_list (pv 4) pe_int (fun _ _ => rfl)) pa_nil)))))))
  (pss_one (ps_ret pe_bl))
  pss_nil)
  (pss_one (ps_ret (pe_callC c_law_waits (hr.mono (by decide)) (pa_cons (pe_ix (r := rIxL K) ix_list (pv 2) pe_int (fun _ _ => rfl)) (pa_cons (pe_ix (r := rIxL K) ix_list (pv 1) pe_int (fun _ _ => rfl)) (pa_cons (pe_ix (r := rIxL K) ix_list (pv 3) pe_int (fun _ _ => rfl)) (pa_cons (pe_ix (r := rIxL K) ix_list (pv 4) pe_int (fun _ _ => rfl)) pa_nil)))))))))))))), ?_⟩
  simp only [L2.start, n_law, List.map_cons, List.map_nil, List.length_cons, List.length_nil, List.replicate_succ, List.replicate_zero, Nat.reduceAdd, Nat.reduceSub, Nat.sub_self, List.cons_append, List.nil_append]
  walk_at "wp"
  refine ⟨a, ns, 0, rfl, hs, by decide, ?_⟩
  walk_at "wp"
  refine ⟨by decide, a, ns, 0, rfl, hs, by decide, ?_⟩
  walk_at "wp"
  refine ⟨⟨by decide, by decide⟩, by decide, by decide, new_o fun lh H1 hlh s1 h1 => ?_⟩
  walk_at "wp"
  refine ⟨_, _, sqL h1, b_at0, ?_⟩
  walk_at "wp"
  refine new_i fun x0 dx0 H2 hx0 s2 h2 => ?_
  refine ⟨x0, dx0, _, rfl, h2, fun f0 H3 e3 n3 D3 => ⟨rfl, ?_⟩⟩
  have n3 : ∀ a, f0.In x0 a → H1 a = none := fun a z => by
    rcases n3 a z with rfl | e
    · exact hx0
    · exact none_of s2 e
  have lh3 := e3 _ _ (s2 _ _ h1) fun z => absurd z (ne_of_none h1 hx0)
  refine ⟨_, _, sqL lh3, b_at1, ?_⟩
  refine new_i fun x1 dx1 H4 hx1 s4 h4 => ?_
  refine ⟨x1, dx1, _, rfl, h4, fun f1 H5 e5 n5 D5 => ⟨rfl, ?_⟩⟩
  have n5 : ∀ a, f1.In x1 a → H3 a = none := fun a z => by
    rcases n5 a z with rfl | e
    · exact hx1
    · exact none_of s4 e
  have D3' := (D3.same s4).frm e5 fun a z w => by
    obtain ⟨o, e, _⟩ := D3.some z
    rw [w, hx1] at e; cases e
  have lh5 := e5 _ _ (s4 _ _ lh3) fun z => absurd z (ne_of_none lh3 hx1)
  refine ⟨by decide, new_o fun ld H6 hld s6 h6 => ?_⟩
  walk_at "wp"
  refine ⟨by decide, new_o fun m0 H7 hm0 s7 h7 => ?_⟩
  refine ⟨by decide, new_o fun m1 H8 hm1 s8 h8 => ?_⟩
  refine ⟨by decide, new_o fun lm H9 hlm s9 h9 => ?_⟩
  walk_at "wp"
  refine new_p fun k0 H10 hk0 s10 h10 => ?_
  refine ⟨by decide, new_o fun t0 H11 ht0 s11 h11 => ?_⟩
  have h10' := s11 _ _ h10
  refine ⟨h10', [(Sum.inr (Str.ofString "told"), .ref t0)], rfl, Nat.le_add_left 1 14, wr_o h10' (fun z => z) fun H12 e12 h12 => ?_⟩
  refine new_p fun k1 H13 hk1 s13 h13 => ?_
  refine ⟨by decide, new_o fun t1 H14 ht1 s14 h14 => ?_⟩
  have h13' := s14 _ _ h13
  refine ⟨h13', [(Sum.inr (Str.ofString "told"), .ref t1)], rfl, Nat.le_add_left 1 14, wr_o h13' (fun z => z) fun H15 e15 h15 => ?_⟩
  refine ⟨by decide, new_o fun lk H16 hlk s16 h16 => ?_⟩
  have h12 : H12 k0 = some (.dK [(Sum.inr (Str.ofString "told"), .ref t0)]) := h12
  have h15 : H15 k1 = some (.dK [(Sum.inr (Str.ofString "told"), .ref t1)]) := h15
  have g13 : Gr H1 H3 := by
    obtain ⟨dx, hi⟩ := D3.ins
    exact (Gr.same s2).trans (Gr.wr e3 hi)
  have g35 : Gr H3 H5 := by
    obtain ⟨dx, hi⟩ := D5.ins
    exact (Gr.same s4).trans (Gr.wr e5 hi)
  have g56 := Gr.same s6
  have g67 := Gr.same s7
  have g78 := Gr.same s8
  have g89 := Gr.same s9
  have g9b := (Gr.same s10).trans (Gr.same s11)
  have gbc := Gr.wr e12 h12
  have g9c := g9b.trans gbc
  have gce := (Gr.same s13).trans (Gr.same s14)
  have gef := Gr.wr e15 h15
  have gcf := gce.trans gef
  have g59 := ((g56.trans g67).trans g78).trans g89
  have s59 := ((s6.trans s7).trans s8).trans s9
  have i0 : ∀ a, f0.In x0 a → ∃ o, H5 a = some o := fun a z => by obtain ⟨o, e, _⟩ := D3'.some z; exact ⟨o, e⟩
  have i1 : ∀ a, f1.In x1 a → ∃ o, H5 a = some o := fun a z => by obtain ⟨o, e, _⟩ := D5.some z; exact ⟨o, e⟩
  have fA : Frm (fun b => b = k0 ∨ b = k1) H9 H16 := ((((((Frm.of_same s10).trans (Frm.of_same s11)).trans (e12.mono fun _ => .inl)).trans (Frm.of_same s13)).trans (Frm.of_same s14)).trans (e15.mono fun _ => .inr)).trans (Frm.of_same s16)
  have fB : Frm (fun b => b = k0 ∨ b = k1) H5 H16 := (Frm.of_same s59).trans fA
  obtain ⟨sf, hsf⟩ : ∃ sf : Bool → SF, sf = fun b => cond b ⟨x1, f1, cellAt ns 0 / 40 % 40, m1, k1⟩ ⟨x0, f0, cellAt ns 0 % 40, m0, k0⟩ := ⟨_, rfl⟩
  have g5c := g59.trans g9c
  have ne0 : ∀ a o, H9 a = some o → a ≠ k0 := fun a o e => Gr.ne (fun _ o e => ⟨o, e⟩) e hk0
  have ne1 : ∀ a o, H9 a = some o → a ≠ k1 := fun a o e => Gr.ne g9c e hk1
  have nek : ∀ a o, H9 a = some o → ¬ (a = k0 ∨ a = k1) := fun a o e z => z.elim (ne0 a o e) (ne1 a o e)
  have nek5 : ∀ a o, H5 a = some o → ¬ (a = k0 ∨ a = k1) := fun a o e => nek a o (s59 _ _ e)
  have k01 : k0 ≠ k1 := ne_of_none h12 hk1
  have r0 : ∀ a, (sf false).Reg a → f0.In x0 a ∨ a = m0 ∨ a = k0 := fun a z => by rw [hsf] at z; exact z
  have r1 : ∀ a, (sf true).Reg a → f1.In x1 a ∨ a = m1 ∨ a = k1 := fun a z => by rw [hsf] at z; exact z
  have hm0' : H9 m0 = some (.lst []) := s9 _ _ (s8 _ _ h7)
  have hm1' : H9 m1 = some (.lst []) := s9 _ _ h8
  have lh9 := s59 _ _ lh5
  have ld9 := s9 _ _ (s8 _ _ (s7 _ _ h6))
  have D0 : DeskAt K C_Desk H16 x0 f0 (Dsk.new (cellAt ns 0 % 40)) := D3'.frm fB fun a z => by obtain ⟨o, e⟩ := i0 a z; exact nek5 a o e
  have D1 : DeskAt K C_Desk H16 x1 f1 (Dsk.new (cellAt ns 0 / 40 % 40)) := D5.frm fB fun a z => by obtain ⟨o, e⟩ := i1 a z; exact nek5 a o e
  have t0c : H12 t0 = some (.lst []) := e12 _ _ h11 fun z => absurd z.symm (ne_of_none h10 ht0)
  have t0f : H16 t0 = some (.lst []) := s16 _ _ (e15 _ _ (s14 _ _ (s13 _ _ t0c)) fun z => absurd z (ne_of_none t0c hk1))
  have t1f : H16 t1 = some (.lst []) := s16 _ _ (e15 _ _ h14 fun z => absurd z.symm (ne_of_none h13 ht1))
  have k0f : H16 k0 = some (.dK [(Sum.inr (Str.ofString "told"), .ref t0)]) := s16 _ _ (e15 _ _ (s14 _ _ (s13 _ _ h12)) fun z => absurd z k01)
  have k1f := s16 _ _ h15
  have i9 : ∀ b a, (sf b).Reg a → (∃ o, H9 a = some o) ∨ a = k0 ∨ a = k1 := fun b a z => by
    cases b with
    | false =>
      rcases r0 a z with z | rfl | rfl
      · obtain ⟨o, e⟩ := i0 a z
        exact .inl ⟨o, s59 _ _ e⟩
      · exact .inl ⟨_, hm0'⟩
      · exact .inr (.inl rfl)
    | true =>
      rcases r1 a z with z | rfl | rfl
      · obtain ⟨o, e⟩ := i1 a z
        exact .inl ⟨o, s59 _ _ e⟩
      · exact .inl ⟨_, hm1'⟩
      · exact .inr (.inr rfl)
  have nt : ∀ t : Addr, H9 t = none → t ≠ k0 → t ≠ k1 → ¬ Ns sf t := fun t e n1 n2 ⟨b, z⟩ => by
    rcases i9 b t z with ⟨o, h⟩ | h | h
    · rw [e] at h; cases h
    · exact n1 h
    · exact n2 h
  have t0n : H9 t0 = none := none_of s10 ht0
  have t1n : H9 t1 = none := by
    cases h : H9 t1 with
    | none => rfl
    | some o => exact absurd rfl (Gr.ne (g9c.trans (Gr.same s13)) h ht1)
  have t1k0 : t1 ≠ k0 := fun z => by
    have e := s13 _ _ h12
    rw [← z, ht1] at e; cases e
  have t0k1 : t0 ≠ k1 := ne_of_none t0c hk1
  have dis : ∀ a, (sf false).Reg a → (sf true).Reg a → False := fun a z w => by
    rcases r0 a z with z | z | z
    · obtain ⟨o, e, _⟩ := D3.some z
      obtain ⟨o5, e5'⟩ := i0 a z
      rcases r1 a w with w | w | w
      · rw [n5 a w] at e; cases e
      · exact ne_of_none ((s6.trans s7) _ _ e5') hm1 w
      · exact nek5 a _ e5' (.inr w)
    · rcases r1 a w with w | w | w
      · obtain ⟨o5, e5'⟩ := i1 a w
        exact ne_of_none (s6 _ _ e5') hm0 z
      · exact ne_of_none h7 hm1 (z.symm.trans w)
      · exact nek m0 _ hm0' (.inr (z.symm.trans w))
    · rcases r1 a w with w | w | w
      · obtain ⟨o5, e5'⟩ := i1 a w
        exact nek5 a _ e5' (.inl z)
      · exact nek m1 _ hm1' (.inl (w.symm.trans z))
      · exact k01 (z.symm.trans w)
  have S : Shp sf lh ld lm lk := by
    refine ⟨fun b => ?_, fun b => ?_, fun b => ?_, fun b c a z w => ?_, fun b a z => ?_⟩
    · rw [hsf]
      cases b with
      | false => exact fun z => by obtain ⟨o, e⟩ := i0 _ z; exact ne_of_none (s6 _ _ e) hm0 rfl
      | true => exact fun z => by obtain ⟨o, e⟩ := i1 _ z; exact ne_of_none ((s6.trans s7) _ _ e) hm1 rfl
    · rw [hsf]
      cases b with
      | false => exact fun z => by obtain ⟨o, e⟩ := i0 _ z; exact nek5 _ _ e (.inl rfl)
      | true => exact fun z => by obtain ⟨o, e⟩ := i1 _ z; exact nek5 _ _ e (.inr rfl)
    · rw [hsf]
      cases b with
      | false => exact ne0 _ _ hm0'
      | true => exact ne1 _ _ hm1'
    · cases b <;> cases c
      · rfl
      · exact (dis a z w).elim
      · exact (dis a w z).elim
      · rfl
    · have hlk' : ∀ o, H9 a = some o → a ≠ lk := fun o e => Gr.ne (g9c.trans gcf) e hlk
      have hk0lk : k0 ≠ lk := Gr.ne gcf h12 hlk
      have hk1lk : k1 ≠ lk := ne_of_none h15 hlk
      have kk : a = k0 ∨ a = k1 → a ≠ lh ∧ a ≠ ld ∧ a ≠ lm ∧ a ≠ lk := fun z => by
        refine ⟨fun w => ?_, fun w => ?_, fun w => ?_, fun w => ?_⟩
        · rw [w] at z; exact nek _ _ lh9 z
        · rw [w] at z; exact nek _ _ ld9 z
        · rw [w] at z; exact nek _ _ h9 z
        · rcases z with z | z
          · exact hk0lk (z.symm.trans w)
          · exact hk1lk (z.symm.trans w)
      cases b with
      | false =>
        rcases r0 a z with z | z | z
        · obtain ⟨o, e⟩ := i0 a z
          refine ⟨fun w => ?_, ne_of_none e hld, ne_of_none (((s6.trans s7).trans s8) _ _ e) hlm, hlk' o (s59 _ _ e)⟩
          have := n3 a z
          rw [w, h1] at this; cases this
        · rw [z] at hlk' ⊢
          refine ⟨(ne_of_none (s6 _ _ lh5) hm0).symm, (ne_of_none h6 hm0).symm, ne_of_none (s8 _ _ h7) hlm, hlk' _ hm0'⟩
        · exact kk (.inl z)
      | true =>
        rcases r1 a z with z | z | z
        · obtain ⟨o, e⟩ := i1 a z
          refine ⟨fun w => ?_, ne_of_none e hld, ne_of_none (((s6.trans s7).trans s8) _ _ e) hlm, hlk' o (s59 _ _ e)⟩
          have := n5 a z
          rw [w, lh3] at this; cases this
        · rw [z] at hlk' ⊢
          refine ⟨(ne_of_none (s7 _ _ (s6 _ _ lh5)) hm1).symm, (ne_of_none (s7 _ _ h6) hm1).symm, ne_of_none h8 hlm, hlk' _ hm1'⟩
        · exact kk (.inr z)
  have A0 : All K C_Desk H16 sf (fun _ => []) lh ld lm lk := by
    refine ⟨fun b => ?_, ?_, ?_, ?_, ?_⟩
    · have hN : ∀ t, H9 t = none → t ≠ k0 → t ≠ k1 → ¬ Ns sf t := nt
      cases b with
      | false =>
        have e : sf false = ⟨x0, f0, cellAt ns 0 % 40, m0, k0⟩ := by rw [hsf]; rfl
        rw [e]
        exact ⟨D0, fA _ _ hm0' fun z => absurd z (nek _ _ hm0'), t0, k0f, t0f, nt t0 t0n (ne_of_none h10 ht0).symm t0k1⟩
      | true =>
        have e : sf true = ⟨x1, f1, cellAt ns 0 / 40 % 40, m1, k1⟩ := by rw [hsf]; rfl
        rw [e]
        exact ⟨D1, fA _ _ hm1' fun z => absurd z (nek _ _ hm1'), t1, k1f, t1f, nt t1 t1n t1k0 (ne_of_none h13 ht1).symm⟩
    · rw [hsf]; exact fA _ _ lh9 fun z => absurd z (nek _ _ lh9)
    · rw [hsf]; exact fA _ _ ld9 fun z => absurd z (nek _ _ ld9)
    · rw [hsf]; exact fA _ _ h9 fun z => absurd z (nek _ _ h9)
    · rw [hsf]; exact h16
  have fH : Frm (fun b => b = x0 ∨ b = x1 ∨ b = k0 ∨ b = k1) H H16 := ((((((Frm.of_same s1).trans (Frm.of_same s2)).trans (e3.mono fun _ => .inl)).trans (Frm.of_same s4)).trans (e5.mono fun _ z => .inr (.inl z)))).trans (fB.mono fun _ z => .inr (.inr z))
  have g05 : Gr H H5 := ((Gr.same s1).trans g13).trans g35
  have h0 : ∀ o, H a = some o → ∃ o, H9 a = some o := fun o e => (g05.trans g59) a o e
  have na : ∀ o, H a = some o → ¬ Ns sf a := fun o e ⟨b, z⟩ => by
    cases b with
    | false =>
      rcases r0 a z with z | z | z
      · have := n3 a z
        rw [s1 _ _ e] at this; cases this
      · exact Gr.ne (g05.trans g56) e hm0 z
      · obtain ⟨o9, e9⟩ := h0 _ e
        exact nek a _ e9 (.inl z)
    | true =>
      rcases r1 a z with z | z | z
      · have := n5 a z
        obtain ⟨u, h⟩ := ((Gr.same s1).trans g13) a o e
        rw [h] at this; cases this
      · exact Gr.ne ((g05.trans g56).trans g67) e hm1 z
      · obtain ⟨o9, e9⟩ := h0 _ e
        exact nek a _ e9 (.inr z)
  have hsF : ∀ H', Frm (Ns sf) H16 H' → SqL K H' a (ns.map V.int) := fun H' f => sqL_frm (Md := fun b => (b = x0 ∨ b = x1 ∨ b = k0 ∨ b = k1) ∨ Ns sf b) ((fH.mono fun _ => .inl).trans (f.mono fun _ => .inr)) (fun o e z => by
    rcases z with (z | z | z) | z
    · exact ne_of_none (s1 _ _ e) hx0 z
    · exact Gr.ne ((Gr.same s1).trans g13) e hx1 z
    · obtain ⟨o', e'⟩ := h0 o e
      exact nek a o' e' z
    · exact na o e z) hs
  have e0x : (sf false).x = x0 := by rw [hsf]; rfl
  have e1x : (sf true).x = x1 := by rw [hsf]; rfl
  have e0h : (sf false).h = cellAt ns 0 % 40 := by rw [hsf]; rfl
  have e1h : (sf true).h = cellAt ns 0 / 40 % 40 := by rw [hsf]; rfl
  have e0m : (sf false).ml = m0 := by rw [hsf]; rfl
  have e1m : (sf true).ml = m1 := by rw [hsf]; rfl
  have e0k : (sf false).kd = k0 := by rw [hsf]; rfl
  have e1k : (sf true).kd = k1 := by rw [hsf]; rfl
  refine ⟨a, ns, 0, rfl, hsF _ Frm.refl, by decide, ?_⟩
  clear D3 D5 D3' n3 n5 i0 i1 fA fB g13 g35 g56 g67 g78 g89 g9b gbc g9c gce gef gcf g59 s59 g5c nek nek5 ne0 ne1 k01 r0 r1 dis i9 nt t0n t1n t1k0 t0k1 D0 D1 t0c t0f t1f k0f k1f fH g05 h0 na hs
  walk_at "wp"
  refine ⟨by decide, ?_⟩
  refine ite2 (fun c => ⟨by decide, by decide, loop_range (fun i σ H' => ∃ M v5, Frm (Ns sf) H16 H' ∧ All K C_Desk H' sf M lh ld lm lk ∧ (∀ b, (M b).length ≤ i) ∧ σ = [some (V.ref a), some (V.ref lh), some (V.ref ld), some (V.ref lm), some (V.ref lk), v5, none, none]) ⟨_, _, Frm.refl, A0, fun _ => Nat.le_refl _, rfl⟩ ?b ?c⟩) (fun c => ?d)
  case' b =>
    rintro i σ H' hi ⟨M, v5, f, A, L, rfl⟩
    walk_at "wp"
    refine ⟨by decide, _, _, sqL A.hd, at2f (fun b => .ref (sf b).x) _, by decide, _, _, sqL A.hh, at2f (fun b => .int (sf b).h) _, by decide, _, _, sqL A.hm, at2f (fun b => .ref (sf b).ml) _, ⟨by decide, by decide, by decide⟩, .inl ⟨by omega, by omega⟩, ?_⟩
    refine A.sp_met S (by have := L (decide ((0 + (i : Int)) % 2 = 1)); omega) fun H2 M2 f2 L2 A2 => ?_
    walk_at "wp"
    exact ⟨M2, _, f.trans f2, A2, fun b => by have := L b; have := L2 b; omega, rfl⟩
  case' c =>
    rintro σ H' ⟨M, v5, f, A, L, rfl⟩
    walk_at "wp"
  case' d =>
    have f : Frm (Ns sf) H16 H16 := Frm.refl
    have A := A0
    have L : ∀ b : Bool, ((fun _ => [] : Bool → List Int) b).length ≤ 60 := fun _ => Nat.zero_le _
  all_goals
    refine ⟨_, hsF _ f, new_o fun sl H18 hsl s18 h18 => ?_⟩
    walk_at "wp"
    clear A0
    have hnsl : ¬ Ns sf sl := fun ⟨b, z⟩ => by
      obtain ⟨o, e⟩ := (A.side b).some z
      rw [hsl] at e; cases e
    have A := A.same s18
    have f := f.trans (Frm.of_same s18)
    rw [show (1 : Int) = ((1 : Nat) : Int) from rfl, cutV_drop, ← List.map_drop] at h18
    refine ⟨⟨_, sqL h18⟩, loop_list (xs := (ns.drop 1).map V.int) (fun i σ H' => ∃ M v5 v6 v7, Frm (Ns sf) H16 H' ∧ H' sl = some (.lst ((ns.drop 1).map V.int)) ∧ All K C_Desk H' sf M lh ld lm lk ∧ (∀ b, (M b).length ≤ 60 + i) ∧ σ = [some (V.ref a), some (V.ref lh), some (V.ref ld), some (V.ref lm), some (V.ref lk), v5, v6, v7]) ⟨_, _, _, _, f, h18, A, L, rfl⟩ ?_ ?_ ?_⟩
    · rintro i σ H' hi ⟨M, v5, v6, v7, f, hl, A, L, rfl⟩
      exact sqL hl
    · rintro i y σ H' hy ⟨M, v5, v6, v7, f, hl, A, L, rfl⟩
      obtain ⟨n, rfl⟩ : ∃ n : Int, y = .int n := by
        rw [List.getElem?_map] at hy
        cases h : (ns.drop 1)[i]? with
        | none => rw [h] at hy; cases hy
        | some n => rw [h] at hy; exact ⟨n, (Option.some.inj hy).symm⟩
      have hil : i < 63 := by
        have := (List.getElem?_eq_some_iff.mp hy).1
        rw [List.length_map, List.length_drop] at this
        omega
      walk_at "wp"
      refine ⟨⟨by decide, by decide⟩, by decide, ⟨by decide, by decide⟩, ⟨by decide, by decide, by decide⟩, by decide, by decide, new_o fun t H19 ht s19 h19 => ?_⟩
      walk_at "wp"
      have A := A.same s19
      have f := f.trans (Frm.of_same s19)
      have hl := s19 _ _ hl
      refine ⟨⟨by decide, by decide⟩, by decide, _, _, sqL h19, at2f (fun b => .int (cond b (n / 4 % 10 ^ Int.toNat 9) (n / 4 % 9))) _, ?_⟩
      refine ⟨by decide, _, _, sqL A.hd, at2f (fun b => .ref (sf b).x) _, by decide, _, _, sqL A.hh, at2f (fun b => .int (sf b).h) _, by decide, _, _, sqL A.hm, at2f (fun b => .ref (sf b).ml) _, ?_⟩
      refine A.sp_met S (by have := L (decide (n % 2 = 1)); omega) fun H2 M2 f2 L2 A2 => ?_
      have hl := f2 _ _ hl fun z => absurd z hnsl
      have L2 : ∀ b, (M2 b).length ≤ 60 + (i + 1) := fun b => by have := L b; have := L2 b; omega
      walk_at "wp"
      refine ⟨by decide, _, _, sqL A2.hd, at2f (fun b => .ref (sf b).x) _, by decide, _, _, sqL A2.hh, at2f (fun b => .int (sf b).h) _, by decide, _, _, sqL A2.hm, at2f (fun b => .ref (sf b).ml) _, by decide, _, _, sqL A2.hk, at2f (fun b => .ref (sf b).kd) _, ?_⟩
      refine A2.sp_waits S (by have := L2 (decide (n % 2 = 1)); omega) fun H3 f3 A3 => ?_
      have hl := f3 _ _ hl fun z => absurd z hnsl
      walk_at "wp"
      exact ⟨M2, _, _, _, (f.trans f2).trans f3, hl, A3, L2, rfl⟩
    · rintro σ H' ⟨M, v5, v6, v7, f, hl, A, L, rfl⟩
      rw [List.length_map, List.length_drop] at L
      walk_at "wp"
      refine ⟨_, _, sqL A.hd, b_at0, _, _, sqL A.hh, b_at0, _, _, sqL A.hm, b_at0, _, _, sqL A.hk, b_at0, ?_⟩
      refine A.sp_waits S (b := false) (by have := L false; omega) fun H2 f2 A2 => ?_
      walk_at "wp"
      refine ⟨_, _, sqL A2.hd, b_at1, _, _, sqL A2.hh, b_at1, _, _, sqL A2.hm, b_at1, _, _, sqL A2.hk, b_at1, ?_⟩
      refine A2.sp_waits S (b := true) (by have := L true; omega) fun H3 f3 A3 => ?_
      exact q _
end
theorem all_mk {l : PySem.W.OpenLaw} {w : World} {K : PySem.W.Frag} {h : Heap} {mg : Str → Option Value} {fa f1 f2 f3 f4 f5 f6 f7 f8 f9 f10 f11 f12 f13 : Addr} (X : K.In h) (G : h.Ns mainGlobals mg) (hfa : mg "law" = some (.ref fa))
    {C_BellError : Addr}
    {C_BadCount : Addr}
    {C_NoHand : Addr}
    {C_NoLetter : Addr}
    {C_NoMail : Addr}
    {C_Twice : Addr}
    {C_NotOpen : Addr}
    {C_BadMark : Addr}
    {C_NoNote : Addr}
    {C_Desk : Addr}
    {od1 an1 : Option Addr} {sl1 : Array (Option Value)} {oc1 kV1 dc1 pm1 cd1 ct1 : Value}
    {od2 an2 : Option Addr} {sl2 : Array (Option Value)} {oc2 kV2 dc2 pm2 cd2 ct2 : Value}
    {od3 an3 : Option Addr} {sl3 : Array (Option Value)} {oc3 kV3 dc3 pm3 cd3 ct3 : Value}
    {od4 an4 : Option Addr} {sl4 : Array (Option Value)} {oc4 kV4 dc4 pm4 cd4 ct4 : Value}
    {od5 an5 : Option Addr} {sl5 : Array (Option Value)} {oc5 kV5 dc5 pm5 cd5 ct5 : Value}
    {od6 an6 : Option Addr} {sl6 : Array (Option Value)} {oc6 kV6 dc6 pm6 cd6 ct6 : Value}
    {od7 an7 : Option Addr} {sl7 : Array (Option Value)} {oc7 kV7 dc7 pm7 cd7 ct7 : Value}
    {od8 an8 : Option Addr} {sl8 : Array (Option Value)} {oc8 kV8 dc8 pm8 cd8 ct8 : Value}
    {od9 an9 : Option Addr} {sl9 : Array (Option Value)} {oc9 kV9 dc9 pm9 cd9 ct9 : Value}
    {od10 an10 : Option Addr} {sl10 : Array (Option Value)} {oc10 kV10 dc10 pm10 cd10 ct10 : Value}
    {od11 an11 : Option Addr} {sl11 : Array (Option Value)} {oc11 kV11 dc11 pm11 cd11 ct11 : Value}
    {od12 an12 : Option Addr} {sl12 : Array (Option Value)} {oc12 kV12 dc12 pm12 cd12 ct12 : Value}
    {od13 an13 : Option Addr} {sl13 : Array (Option Value)} {oc13 kV13 dc13 pm13 cd13 ct13 : Value}
    (ge_BellError : PySem.W.nsIn K mainGlobals "BellError" = some (some (.ref C_BellError))) (ex_BellError : PySem.W.excIn K C_BellError [.type "ValueError", .type "Exception", .type "BaseException", .type "object"] "ValueError.__new__" = true) (ek_BellError : PySem.W.keepIn K (.ref C_BellError) = true) (eb_BellError : PySem.W.subIn K (.ref C_BellError) (.type "BaseException") = some true) (et_BellError : PySem.W.typeIn K (.ref C_BellError) = some (.type "type"))
    (ge_BadCount : PySem.W.nsIn K mainGlobals "BadCount" = some (some (.ref C_BadCount))) (ex_BadCount : PySem.W.excIn K C_BadCount [.type "ValueError", .type "Exception", .type "BaseException", .type "object"] "ValueError.__new__" = true) (ek_BadCount : PySem.W.keepIn K (.ref C_BadCount) = true) (eb_BadCount : PySem.W.subIn K (.ref C_BadCount) (.type "BaseException") = some true) (et_BadCount : PySem.W.typeIn K (.ref C_BadCount) = some (.type "type"))
    (ge_NoHand : PySem.W.nsIn K mainGlobals "NoHand" = some (some (.ref C_NoHand))) (ex_NoHand : PySem.W.excIn K C_NoHand [.type "ValueError", .type "Exception", .type "BaseException", .type "object"] "ValueError.__new__" = true) (ek_NoHand : PySem.W.keepIn K (.ref C_NoHand) = true) (eb_NoHand : PySem.W.subIn K (.ref C_NoHand) (.type "BaseException") = some true) (et_NoHand : PySem.W.typeIn K (.ref C_NoHand) = some (.type "type"))
    (ge_NoLetter : PySem.W.nsIn K mainGlobals "NoLetter" = some (some (.ref C_NoLetter))) (ex_NoLetter : PySem.W.excIn K C_NoLetter [.type "ValueError", .type "Exception", .type "BaseException", .type "object"] "ValueError.__new__" = true) (ek_NoLetter : PySem.W.keepIn K (.ref C_NoLetter) = true) (eb_NoLetter : PySem.W.subIn K (.ref C_NoLetter) (.type "BaseException") = some true) (et_NoLetter : PySem.W.typeIn K (.ref C_NoLetter) = some (.type "type"))
    (ge_NoMail : PySem.W.nsIn K mainGlobals "NoMail" = some (some (.ref C_NoMail))) (ex_NoMail : PySem.W.excIn K C_NoMail [.type "ValueError", .type "Exception", .type "BaseException", .type "object"] "ValueError.__new__" = true) (ek_NoMail : PySem.W.keepIn K (.ref C_NoMail) = true) (eb_NoMail : PySem.W.subIn K (.ref C_NoMail) (.type "BaseException") = some true) (et_NoMail : PySem.W.typeIn K (.ref C_NoMail) = some (.type "type"))
    (ge_Twice : PySem.W.nsIn K mainGlobals "Twice" = some (some (.ref C_Twice))) (ex_Twice : PySem.W.excIn K C_Twice [.type "ValueError", .type "Exception", .type "BaseException", .type "object"] "ValueError.__new__" = true) (ek_Twice : PySem.W.keepIn K (.ref C_Twice) = true) (eb_Twice : PySem.W.subIn K (.ref C_Twice) (.type "BaseException") = some true) (et_Twice : PySem.W.typeIn K (.ref C_Twice) = some (.type "type"))
    (ge_NotOpen : PySem.W.nsIn K mainGlobals "NotOpen" = some (some (.ref C_NotOpen))) (ex_NotOpen : PySem.W.excIn K C_NotOpen [.type "ValueError", .type "Exception", .type "BaseException", .type "object"] "ValueError.__new__" = true) (ek_NotOpen : PySem.W.keepIn K (.ref C_NotOpen) = true) (eb_NotOpen : PySem.W.subIn K (.ref C_NotOpen) (.type "BaseException") = some true) (et_NotOpen : PySem.W.typeIn K (.ref C_NotOpen) = some (.type "type"))
    (ge_BadMark : PySem.W.nsIn K mainGlobals "BadMark" = some (some (.ref C_BadMark))) (ex_BadMark : PySem.W.excIn K C_BadMark [.type "ValueError", .type "Exception", .type "BaseException", .type "object"] "ValueError.__new__" = true) (ek_BadMark : PySem.W.keepIn K (.ref C_BadMark) = true) (eb_BadMark : PySem.W.subIn K (.ref C_BadMark) (.type "BaseException") = some true) (et_BadMark : PySem.W.typeIn K (.ref C_BadMark) = some (.type "type"))
    (ge_NoNote : PySem.W.nsIn K mainGlobals "NoNote" = some (some (.ref C_NoNote))) (ex_NoNote : PySem.W.excIn K C_NoNote [.type "ValueError", .type "Exception", .type "BaseException", .type "object"] "ValueError.__new__" = true) (ek_NoNote : PySem.W.keepIn K (.ref C_NoNote) = true) (eb_NoNote : PySem.W.subIn K (.ref C_NoNote) (.type "BaseException") = some true) (et_NoNote : PySem.W.typeIn K (.ref C_NoNote) = some (.type "type"))
    (gc_Desk : PySem.W.nsIn K mainGlobals "Desk" = some (some (.ref C_Desk))) (pg_Desk : PySem.W.plainGet K C_Desk Str.empty = true) (hd_Desk : PySem.W.hasDictIn K C_Desk = true) (po_Desk : PySem.W.plainOver K C_Desk = true) (sa_Desk : PySem.W.findIn K (.ref C_Desk) "__setattr__" = some (some (.builtin "object.__setattr__"))) (mk_Desk : PySem.W.makesIn K C_Desk = true) (kc_Desk : PySem.W.keepIn K (.ref C_Desk) = true)
    (nf_Desk__hand : PySem.W.findIn K (.ref C_Desk) "_hand" = some none)
    (nf_Desk__clock : PySem.W.findIn K (.ref C_Desk) "_clock" = some none)
    (nf_Desk__met : PySem.W.findIn K (.ref C_Desk) "_met" = some none)
    (nf_Desk__unsettled : PySem.W.findIn K (.ref C_Desk) "_unsettled" = some none)
    (nf_Desk__settled : PySem.W.findIn K (.ref C_Desk) "_settled" = some none)
    (nf_Desk__row : PySem.W.findIn K (.ref C_Desk) "_row" = some none)
    (lhg_Twice : PySem.W.findIn K (.ref C_Twice) "__getattribute__" = some (some (.builtin "BaseException.__getattribute__")))
    (lhk_Twice : PySem.W.findIn K (.ref C_Twice) "__getattr__" = some none)
    (lhd_Twice : PySem.W.hasDictIn K C_Twice = true)
    (lha_Twice : PySem.W.findIn K (.ref C_Twice) "__class__" = some (some (.builtin "object.__class__")))
    (lhn_Twice : PySem.W.specialIn K (.builtin "object.__class__") "__get__" = some (some (.builtin "getset_descriptor.__get__")))
    (lht_Twice : PySem.W.takesIn K (.builtin "object.__class__") = some true)
    (lhm_Twice : PySem.W.mroIn K C_Twice (.type "object") = some true)
    (lv_Twice : PySem.W.subIn K (.ref C_Twice) (.type "ValueError") = some true)
    (lc_BadCount : PySem.W.isClsIn K C_BadCount = true)
    (lc_NoHand : PySem.W.isClsIn K C_NoHand = true)
    (lc_NoLetter : PySem.W.isClsIn K C_NoLetter = true)
    (lc_NoMail : PySem.W.isClsIn K C_NoMail = true)
    (lc_Twice : PySem.W.isClsIn K C_Twice = true)
    (lc_NotOpen : PySem.W.isClsIn K C_NotOpen = true)
    (lc_BadMark : PySem.W.isClsIn K C_BadMark = true)
    (lc_NoNote : PySem.W.isClsIn K C_NoNote = true)
    (lb_Twice_BadCount : PySem.W.subIn K (.ref C_Twice) (.ref C_BadCount) = some false)
    (ln_Twice_BadCount : C_Twice ≠ C_BadCount)
    (lb_Twice_NoHand : PySem.W.subIn K (.ref C_Twice) (.ref C_NoHand) = some false)
    (ln_Twice_NoHand : C_Twice ≠ C_NoHand)
    (lb_Twice_NoLetter : PySem.W.subIn K (.ref C_Twice) (.ref C_NoLetter) = some false)
    (ln_Twice_NoLetter : C_Twice ≠ C_NoLetter)
    (lb_Twice_NoMail : PySem.W.subIn K (.ref C_Twice) (.ref C_NoMail) = some false)
    (ln_Twice_NoMail : C_Twice ≠ C_NoMail)
    (lb_Twice_Twice : PySem.W.subIn K (.ref C_Twice) (.ref C_Twice) = some true)
    (lb_Twice_NotOpen : PySem.W.subIn K (.ref C_Twice) (.ref C_NotOpen) = some false)
    (ln_Twice_NotOpen : C_Twice ≠ C_NotOpen)
    (lb_Twice_BadMark : PySem.W.subIn K (.ref C_Twice) (.ref C_BadMark) = some false)
    (ln_Twice_BadMark : C_Twice ≠ C_BadMark)
    (lb_Twice_NoNote : PySem.W.subIn K (.ref C_Twice) (.ref C_NoNote) = some false)
    (ln_Twice_NoNote : C_Twice ≠ C_NoNote)
    (xs_Twice_BellError : PySem.W.subIn K (.ref C_Twice) (.ref C_BellError) = some true) (xd_Twice_BellError : PySem.W.hasDictIn K C_BellError = true)
    (a1 : PySem.W.findIn K (.ref C_Desk) "__init__" = some (some (.ref f1))) (i1 : PySem.W.isFn K (.ref f1) = true)
    (l1 : K.lookup f1 = some ⟨oc1, od1, .func (PySem.W.fnOf "__init__" "Desk.__init__" (defArgs s_Desk___init__) (defBody s_Desk___init__) (defScope s_Desk___init__) .none kV1 dc1 pm1 an1 cd1 ct1), sl1⟩)
    (c1 : PySem.W.codeIn K cd1 "Desk.__init__" = true) (k1 : PySem.W.keepIn K (.ref f1) = true)
    (a2 : PySem.W.findIn K (.ref C_Desk) "propose" = some (some (.ref f2))) (i2 : PySem.W.isFn K (.ref f2) = true)
    (l2 : K.lookup f2 = some ⟨oc2, od2, .func (PySem.W.fnOf "propose" "Desk.propose" (defArgs s_Desk_propose) (defBody s_Desk_propose) (defScope s_Desk_propose) .none kV2 dc2 pm2 an2 cd2 ct2), sl2⟩)
    (c2 : PySem.W.codeIn K cd2 "Desk.propose" = true) (k2 : PySem.W.keepIn K (.ref f2) = true)
    (a3 : PySem.W.findIn K (.ref C_Desk) "waiting" = some (some (.ref f3))) (i3 : PySem.W.isFn K (.ref f3) = true)
    (l3 : K.lookup f3 = some ⟨oc3, od3, .func (PySem.W.fnOf "waiting" "Desk.waiting" (defArgs s_Desk_waiting) (defBody s_Desk_waiting) (defScope s_Desk_waiting) .none kV3 dc3 pm3 an3 cd3 ct3), sl3⟩)
    (c3 : PySem.W.codeIn K cd3 "Desk.waiting" = true) (k3 : PySem.W.keepIn K (.ref f3) = true)
    (a4 : PySem.W.findIn K (.ref C_Desk) "handed" = some (some (.ref f4))) (i4 : PySem.W.isFn K (.ref f4) = true)
    (l4 : K.lookup f4 = some ⟨oc4, od4, .func (PySem.W.fnOf "handed" "Desk.handed" (defArgs s_Desk_handed) (defBody s_Desk_handed) (defScope s_Desk_handed) .none kV4 dc4 pm4 an4 cd4 ct4), sl4⟩)
    (c4 : PySem.W.codeIn K cd4 "Desk.handed" = true) (k4 : PySem.W.keepIn K (.ref f4) = true)
    (a5 : PySem.W.findIn K (.ref C_Desk) "clock" = some (some (.ref f5))) (i5 : PySem.W.isFn K (.ref f5) = true)
    (l5 : K.lookup f5 = some ⟨oc5, od5, .func (PySem.W.fnOf "clock" "Desk.clock" (defArgs s_Desk_clock) (defBody s_Desk_clock) (defScope s_Desk_clock) .none kV5 dc5 pm5 an5 cd5 ct5), sl5⟩)
    (c5 : PySem.W.codeIn K cd5 "Desk.clock" = true) (k5 : PySem.W.keepIn K (.ref f5) = true)
    (a6 : PySem.W.nsIn K mainGlobals "_law_whole" = some (some (.ref f6)))
    (l6 : K.lookup f6 = some ⟨oc6, od6, .func (PySem.W.fnOf "_law_whole" "_law_whole" (defArgs s_law_whole) (defBody s_law_whole) (defScope s_law_whole) .none kV6 dc6 pm6 an6 cd6 ct6), sl6⟩)
    (c6 : PySem.W.codeIn K cd6 "_law_whole" = true) (k6 : PySem.W.keepIn K (.ref f6) = true)
    (a7 : PySem.W.nsIn K mainGlobals "_law_cell_at" = some (some (.ref f7)))
    (l7 : K.lookup f7 = some ⟨oc7, od7, .func (PySem.W.fnOf "_law_cell_at" "_law_cell_at" (defArgs s_law_cell_at) (defBody s_law_cell_at) (defScope s_law_cell_at) .none kV7 dc7 pm7 an7 cd7 ct7), sl7⟩)
    (c7 : PySem.W.codeIn K cd7 "_law_cell_at" = true) (k7 : PySem.W.keepIn K (.ref f7) = true)
    (a8 : PySem.W.nsIn K mainGlobals "_law_mark" = some (some (.ref f8)))
    (l8 : K.lookup f8 = some ⟨oc8, od8, .func (PySem.W.fnOf "_law_mark" "_law_mark" (defArgs s_law_mark) (defBody s_law_mark) (defScope s_law_mark) .none kV8 dc8 pm8 an8 cd8 ct8), sl8⟩)
    (c8 : PySem.W.codeIn K cd8 "_law_mark" = true) (k8 : PySem.W.keepIn K (.ref f8) = true)
    (a9 : PySem.W.nsIn K mainGlobals "_law_only" = some (some (.ref f9)))
    (l9 : K.lookup f9 = some ⟨oc9, od9, .func (PySem.W.fnOf "_law_only" "_law_only" (defArgs s_law_only) (defBody s_law_only) (defScope s_law_only) .none kV9 dc9 pm9 an9 cd9 ct9), sl9⟩)
    (c9 : PySem.W.codeIn K cd9 "_law_only" = true) (k9 : PySem.W.keepIn K (.ref f9) = true)
    (a10 : PySem.W.nsIn K mainGlobals "_law_told" = some (some (.ref f10)))
    (l10 : K.lookup f10 = some ⟨oc10, od10, .func (PySem.W.fnOf "_law_told" "_law_told" (defArgs s_law_told) (defBody s_law_told) (defScope s_law_told) .none kV10 dc10 pm10 an10 cd10 ct10), sl10⟩)
    (c10 : PySem.W.codeIn K cd10 "_law_told" = true) (k10 : PySem.W.keepIn K (.ref f10) = true)
    (a11 : PySem.W.nsIn K mainGlobals "_law_met" = some (some (.ref f11)))
    (l11 : K.lookup f11 = some ⟨oc11, od11, .func (PySem.W.fnOf "_law_met" "_law_met" (defArgs s_law_met) (defBody s_law_met) (defScope s_law_met) .none kV11 dc11 pm11 an11 cd11 ct11), sl11⟩)
    (c11 : PySem.W.codeIn K cd11 "_law_met" = true) (k11 : PySem.W.keepIn K (.ref f11) = true)
    (a12 : PySem.W.nsIn K mainGlobals "_law_waits" = some (some (.ref f12)))
    (l12 : K.lookup f12 = some ⟨oc12, od12, .func (PySem.W.fnOf "_law_waits" "_law_waits" (defArgs s_law_waits) (defBody s_law_waits) (defScope s_law_waits) .none kV12 dc12 pm12 an12 cd12 ct12), sl12⟩)
    (c12 : PySem.W.codeIn K cd12 "_law_waits" = true) (k12 : PySem.W.keepIn K (.ref f12) = true)
    (a13 : PySem.W.nsIn K mainGlobals "law" = some (some (.ref f13)))
    (l13 : K.lookup f13 = some ⟨oc13, od13, .func (PySem.W.fnOf "law" "law" (defArgs s_law) (defBody s_law) (defScope s_law) .none kV13 dc13 pm13 an13 cd13 ct13), sl13⟩)
    (c13 : PySem.W.codeIn K cd13 "law" = true) (k13 : PySem.W.keepIn K (.ref f13) = true)
    (z_len : PySem.W.nsIn K mainGlobals "len" = some none) (z_isinstance : PySem.W.nsIn K mainGlobals "isinstance" = some none) (z_max : PySem.W.nsIn K mainGlobals "max" = some none) (z_min : PySem.W.nsIn K mainGlobals "min" = some none) (z_all : PySem.W.nsIn K mainGlobals "all" = some none) (z_any : PySem.W.nsIn K mainGlobals "any" = some none) (z_sorted : PySem.W.nsIn K mainGlobals "sorted" = some none) (z_int : PySem.W.nsIn K mainGlobals "int" = some none) (z_str : PySem.W.nsIn K mainGlobals "str" = some none) (z_bool : PySem.W.nsIn K mainGlobals "bool" = some none) (z_list : PySem.W.nsIn K mainGlobals "list" = some none) (z_tuple : PySem.W.nsIn K mainGlobals "tuple" = some none) (z_dict : PySem.W.nsIn K mainGlobals "dict" = some none) (z_set : PySem.W.nsIn K mainGlobals "set" = some none) (z_range : PySem.W.nsIn K mainGlobals "range" = some none) (z_zip : PySem.W.nsIn K mainGlobals "zip" = some none) (z_enumerate : PySem.W.nsIn K mainGlobals "enumerate" = some none) (z_ValueError : PySem.W.nsIn K mainGlobals "ValueError" = some none)
    : ∃ fd : FuncData, (∀ (s : Shared) (v : Value), BindsTo s fd ⟨[v], []⟩ [("_law_script", v)]) ∧ ∀ base : Heap, K.In base → base.Ns mainGlobals mg → FnOk l.prog w K mg base CX0 4 fa fd ["_law_script"] (spLaw K) := by
  have e := hfa.symm.trans (PySem.W.mg_of X G a13)
  cases e
  have B : Bt mg := ⟨PySem.W.mg_none_of X G z_len, PySem.W.mg_none_of X G z_isinstance, PySem.W.mg_none_of X G z_max, PySem.W.mg_none_of X G z_min, PySem.W.mg_none_of X G z_all, PySem.W.mg_none_of X G z_any, PySem.W.mg_none_of X G z_sorted, PySem.W.mg_none_of X G z_int, PySem.W.mg_none_of X G z_str, PySem.W.mg_none_of X G z_bool, PySem.W.mg_none_of X G z_list, PySem.W.mg_none_of X G z_tuple, PySem.W.mg_none_of X G z_dict, PySem.W.mg_none_of X G z_set, PySem.W.mg_none_of X G z_range, PySem.W.mg_none_of X G z_zip, PySem.W.mg_none_of X G z_enumerate, PySem.W.mg_none_of X G z_ValueError⟩
  have T : Tt K w mg C_BellError C_BadCount C_NoHand C_NoLetter C_NoMail C_Twice C_NotOpen C_BadMark C_NoNote C_Desk := { e_BellError := ⟨PySem.W.mg_of X G ge_BellError, ex_BellError, ek_BellError, eb_BellError, et_BellError⟩, e_BadCount := ⟨PySem.W.mg_of X G ge_BadCount, ex_BadCount, ek_BadCount, eb_BadCount, et_BadCount⟩, e_NoHand := ⟨PySem.W.mg_of X G ge_NoHand, ex_NoHand, ek_NoHand, eb_NoHand, et_NoHand⟩, e_NoLetter := ⟨PySem.W.mg_of X G ge_NoLetter, ex_NoLetter, ek_NoLetter, eb_NoLetter, et_NoLetter⟩, e_NoMail := ⟨PySem.W.mg_of X G ge_NoMail, ex_NoMail, ek_NoMail, eb_NoMail, et_NoMail⟩, e_Twice := ⟨PySem.W.mg_of X G ge_Twice, ex_Twice, ek_Twice, eb_Twice, et_Twice⟩, e_NotOpen := ⟨PySem.W.mg_of X G ge_NotOpen, ex_NotOpen, ek_NotOpen, eb_NotOpen, et_NotOpen⟩, e_BadMark := ⟨PySem.W.mg_of X G ge_BadMark, ex_BadMark, ek_BadMark, eb_BadMark, et_BadMark⟩, e_NoNote := ⟨PySem.W.mg_of X G ge_NoNote, ex_NoNote, ek_NoNote, eb_NoNote, et_NoNote⟩, cl_Desk := ⟨pg_Desk, hd_Desk, po_Desk, sa_Desk⟩, n_Desk__hand := nf_Desk__hand, n_Desk__clock := nf_Desk__clock, n_Desk__met := nf_Desk__met, n_Desk__unsettled := nf_Desk__unsettled, n_Desk__settled := nf_Desk__settled, n_Desk__row := nf_Desk__row, o_Twice := ⟨⟨lhg_Twice, lhk_Twice, eb_Twice, lhd_Twice, lha_Twice, lhn_Twice, lht_Twice, lhm_Twice⟩, kit_VE lv_Twice, fun i c b h1 h2 => match i, c, b, h1, h2 with | 0, _, _, rfl, rfl => (kit_own lc_BadCount et_BadCount lb_Twice_BadCount).trans (if_neg ln_Twice_BadCount) | 1, _, _, rfl, rfl => (kit_own lc_NoHand et_NoHand lb_Twice_NoHand).trans (if_neg ln_Twice_NoHand) | 2, _, _, rfl, rfl => (kit_own lc_NoLetter et_NoLetter lb_Twice_NoLetter).trans (if_neg ln_Twice_NoLetter) | 3, _, _, rfl, rfl => (kit_own lc_NoMail et_NoMail lb_Twice_NoMail).trans (if_neg ln_Twice_NoMail) | 4, _, _, rfl, rfl => (kit_own lc_Twice et_Twice lb_Twice_Twice).trans (if_pos rfl) | 5, _, _, rfl, rfl => (kit_own lc_NotOpen et_NotOpen lb_Twice_NotOpen).trans (if_neg ln_Twice_NotOpen) | 6, _, _, rfl, rfl => (kit_own lc_BadMark et_BadMark lb_Twice_BadMark).trans (if_neg ln_Twice_BadMark) | 7, _, _, rfl, rfl => (kit_own lc_NoNote et_NoNote lb_Twice_NoNote).trans (if_neg ln_Twice_NoNote) | _ + 8, _, _, z, _ => nomatch z⟩, x_Twice_BellError := PySem.W.exm_ref eb_BellError xd_Twice_BellError et_BellError xs_Twice_BellError }
  have F1 := fun_mk (st := s_Desk___init__) l1 c1 k1
  have F2 := fun_mk (st := s_Desk_propose) l2 c2 k2
  have F3 := fun_mk (st := s_Desk_waiting) l3 c3 k3
  have F4 := fun_mk (st := s_Desk_handed) l4 c4 k4
  have F5 := fun_mk (st := s_Desk_clock) l5 c5 k5
  have F6 := fun_mk (st := s_law_whole) l6 c6 k6
  have F7 := fun_mk (st := s_law_cell_at) l7 c7 k7
  have F8 := fun_mk (st := s_law_mark) l8 c8 k8
  have F9 := fun_mk (st := s_law_only) l9 c9 k9
  have F10 := fun_mk (st := s_law_told) l10 c10 k10
  have F11 := fun_mk (st := s_law_met) l11 c11 k11
  have F12 := fun_mk (st := s_law_waits) l12 c12 k12
  have F13 := fun_mk (st := s_law) l13 c13 k13
  refine ⟨PySem.W.fnOf "law" "law" (defArgs s_law) (defBody s_law) (defScope s_law) .none kV13 dc13 pm13 an13 cd13 ct13, fun s v => .of_eq rfl, fun base _ _ => ?_⟩
  have b1 := F1.binds (ps := ["self", "hand"]) fun _ _ _ _ _ _ us hl => match us, hl with | [_, _], _ => rfl
  have c_Desk___init__ : CalI l.prog w K mg base CX0 1 "Desk" C_Desk ["self", "hand"] (spInit K C_Desk) := ⟨_, _, ok_init F1 B T , ⟨mk_Desk, a1, i1, kc_Desk⟩, PySem.W.mg_of X G gc_Desk, b1⟩
  have b2 := F2.binds (ps := ["self", "letter"]) fun _ _ _ _ _ _ us hl => match us, hl with | [_, _], _ => rfl
  have c_Desk_propose : CalM l.prog w K mg base (L2N.CX l.prog w) 1 C_Desk "propose" ["self", "letter"] (spPropose K C_Desk C_Twice) := ⟨_, _, ok_propose F2 B T , ⟨a2, i2, k2⟩, b2⟩
  have b3 := F3.binds (ps := ["self"]) fun _ _ _ _ _ _ us hl => match us, hl with | [_], _ => rfl
  have c_Desk_waiting : CalM l.prog w K mg base CX0 1 C_Desk "waiting" ["self"] (spWaiting K C_Desk) := ⟨_, _, ok_waiting F3 B T , ⟨a3, i3, k3⟩, b3⟩
  have b4 := F4.binds (ps := ["self"]) fun _ _ _ _ _ _ us hl => match us, hl with | [_], _ => rfl
  have c_Desk_handed : CalM l.prog w K mg base CX0 1 C_Desk "handed" ["self"] (spHanded K C_Desk) := ⟨_, _, ok_handed F4 B T , ⟨a4, i4, k4⟩, b4⟩
  have b5 := F5.binds (ps := ["self"]) fun _ _ _ _ _ _ us hl => match us, hl with | [_], _ => rfl
  have c_Desk_clock : CalM l.prog w K mg base CX0 1 C_Desk "clock" ["self"] (spClock K C_Desk) := ⟨_, _, ok_clock F5 B T , ⟨a5, i5, k5⟩, b5⟩
  have b6 := F6.binds (ps := ["_law_found"]) fun _ _ _ _ _ _ us hl => match us, hl with | [_], _ => rfl
  have c_law_whole : Cal l.prog w K mg base CX0 1 "_law_whole" ["_law_found"] (spWhole) := ⟨_, _, ok_whole F6 B T , PySem.W.mg_of X G a6, k6, b6⟩
  have b7 := F7.binds (ps := ["_law_script", "_law_k"]) fun _ _ _ _ _ _ us hl => match us, hl with | [_, _], _ => rfl
  have c_law_cell_at : Cal l.prog w K mg base CX0 1 "_law_cell_at" ["_law_script", "_law_k"] (spCell K) := ⟨_, _, ok_cell F7 B T , PySem.W.mg_of X G a7, k7, b7⟩
  have b8 := F8.binds (ps := ["_law_found"]) fun _ _ _ _ _ _ us hl => match us, hl with | [_], _ => rfl
  have c_law_mark : Cal l.prog w K mg base CX0 2 "_law_mark" ["_law_found"] (spMark K) := ⟨_, _, ok_mark F8 B T c_law_whole, PySem.W.mg_of X G a8, k8, b8⟩
  have b9 := F9.binds (ps := ["_law_error", "_law_word"]) fun _ _ _ _ _ _ us hl => match us, hl with | [_, _], _ => rfl
  have c_law_only : CalE l.prog w K mg base 1 "_law_only" ["_law_error", "_law_word"] (spOnly K [C_BadCount, C_NoHand, C_NoLetter, C_NoMail, C_Twice, C_NotOpen, C_BadMark, C_NoNote]) := ⟨_, _, ok_only F9 B T , PySem.W.mg_of X G a9, k9, b9⟩
  have b10 := F10.binds (ps := ["_law_desk", "_law_letter"]) fun _ _ _ _ _ _ us hl => match us, hl with | [_, _], _ => rfl
  have c_law_told : Cal l.prog w K mg base CX0 2 "_law_told" ["_law_desk", "_law_letter"] (spTold K C_Desk) := ⟨_, _, ok_told F10 B T c_Desk_propose c_law_only, PySem.W.mg_of X G a10, k10, b10⟩
  have b11 := F11.binds (ps := ["_law_desk", "_law_hand", "_law_met_here", "_law_letter"]) fun _ _ _ _ _ _ us hl => match us, hl with | [_, _, _, _], _ => rfl
  have c_law_met : Cal l.prog w K mg base CX0 3 "_law_met" ["_law_desk", "_law_hand", "_law_met_here", "_law_letter"] (spMet K C_Desk) := ⟨_, _, ok_met F11 B T c_law_told c_law_mark, PySem.W.mg_of X G a11, k11, b11⟩
  have b12 := F12.binds (ps := ["_law_desk", "_law_hand", "_law_met_here", "_law_kept"]) fun _ _ _ _ _ _ us hl => match us, hl with | [_, _, _, _], _ => rfl
  have c_law_waits : Cal l.prog w K mg base CX0 3 "_law_waits" ["_law_desk", "_law_hand", "_law_met_here", "_law_kept"] (spWaits K C_Desk) := ⟨_, _, ok_waits F12 B T c_Desk_waiting c_Desk_clock c_Desk_handed c_law_mark c_law_whole, PySem.W.mg_of X G a12, k12, b12⟩
  exact ok_law F13 B T c_law_cell_at c_Desk___init__ c_law_met c_law_waits
end K02
open PySem PySem.W PyProof.Rows
set_option maxRecDepth 100000 in
set_option maxHeartbeats 0 in
theorem PySem.Challenge.cw_onebell_k02_a_desk_proposes_holds : PySem.Challenge.rw_onebell_k02_a_desk_proposes.Holds := by
  w_on; o_law; k_head; (case hw => w_witness2)
  k_fill
  refine L2.walk_ofK (l := PySem.Challenge.rw_onebell_k02_a_desk_proposes) (n := 63) (k := 4) (x := "_law_script") (CX := L2.CX0) (sp := fun K => K02.spLaw K) rfl (by decide) rfl ⟨rfl, by decide, by decide⟩ (fun w h Y => PySem.W.kIn_of Y) ?F (fun K _ a ns hl _ hS => ⟨a, ns, rfl, hS, hl, fun _ => rfl⟩) (fun _ _ _ _ h => h)
  case F =>
    intro w mg fa h KX G hmg
    refine' K02.all_mk KX G hmg ?ge_BellError ?ex_BellError ?ek_BellError ?eb_BellError ?et_BellError ?ge_BadCount ?ex_BadCount ?ek_BadCount ?eb_BadCount ?et_BadCount ?ge_NoHand ?ex_NoHand ?ek_NoHand ?eb_NoHand ?et_NoHand ?ge_NoLetter ?ex_NoLetter ?ek_NoLetter ?eb_NoLetter ?et_NoLetter ?ge_NoMail ?ex_NoMail ?ek_NoMail ?eb_NoMail ?et_NoMail ?ge_Twice ?ex_Twice ?ek_Twice ?eb_Twice ?et_Twice ?ge_NotOpen ?ex_NotOpen ?ek_NotOpen ?eb_NotOpen ?et_NotOpen ?ge_BadMark ?ex_BadMark ?ek_BadMark ?eb_BadMark ?et_BadMark ?ge_NoNote ?ex_NoNote ?ek_NoNote ?eb_NoNote ?et_NoNote ?gc_Desk ?pg_Desk ?hd_Desk ?po_Desk ?sa_Desk ?mk_Desk ?kc_Desk ?nf_Desk__hand ?nf_Desk__clock ?nf_Desk__met ?nf_Desk__unsettled ?nf_Desk__settled ?nf_Desk__row ?lhg_Twice ?lhk_Twice ?lhd_Twice ?lha_Twice ?lhn_Twice ?lht_Twice ?lhm_Twice ?lv_Twice ?lc_BadCount ?lc_NoHand ?lc_NoLetter ?lc_NoMail ?lc_Twice ?lc_NotOpen ?lc_BadMark ?lc_NoNote ?lb_Twice_BadCount ?ln_Twice_BadCount ?lb_Twice_NoHand ?ln_Twice_NoHand ?lb_Twice_NoLetter ?ln_Twice_NoLetter ?lb_Twice_NoMail ?ln_Twice_NoMail ?lb_Twice_Twice ?lb_Twice_NotOpen ?ln_Twice_NotOpen ?lb_Twice_BadMark ?ln_Twice_BadMark ?lb_Twice_NoNote ?ln_Twice_NoNote ?xs_Twice_BellError ?xd_Twice_BellError ?a1 ?i1 ?l1 ?c1 ?k1 ?a2 ?i2 ?l2 ?c2 ?k2 ?a3 ?i3 ?l3 ?c3 ?k3 ?a4 ?i4 ?l4 ?c4 ?k4 ?a5 ?i5 ?l5 ?c5 ?k5 ?a6 ?l6 ?c6 ?k6 ?a7 ?l7 ?c7 ?k7 ?a8 ?l8 ?c8 ?k8 ?a9 ?l9 ?c9 ?k9 ?a10 ?l10 ?c10 ?k10 ?a11 ?l11 ?c11 ?k11 ?a12 ?l12 ?c12 ?k12 ?a13 ?l13 ?c13 ?k13 ?z_len ?z_isinstance ?z_max ?z_min ?z_all ?z_any ?z_sorted ?z_int ?z_str ?z_bool ?z_list ?z_tuple ?z_dict ?z_set ?z_range ?z_zip ?z_enumerate ?z_ValueError
    (case ge_BellError => k_is)
    (case ex_BellError => k_exc)
    (case ek_BellError => k_is)
    (case eb_BellError => k_is)
    (case et_BellError => k_is)
    (case ge_BadCount => k_is)
    (case ex_BadCount => k_exc)
    (case ek_BadCount => k_is)
    (case eb_BadCount => k_is)
    (case et_BadCount => k_is)
    (case ge_NoHand => k_is)
    (case ex_NoHand => k_exc)
    (case ek_NoHand => k_is)
    (case eb_NoHand => k_is)
    (case et_NoHand => k_is)
    (case ge_NoLetter => k_is)
    (case ex_NoLetter => k_exc)
    (case ek_NoLetter => k_is)
    (case eb_NoLetter => k_is)
    (case et_NoLetter => k_is)
    (case ge_NoMail => k_is)
    (case ex_NoMail => k_exc)
    (case ek_NoMail => k_is)
    (case eb_NoMail => k_is)
    (case et_NoMail => k_is)
    (case ge_Twice => k_is)
    (case ex_Twice => k_exc)
    (case ek_Twice => k_is)
    (case eb_Twice => k_is)
    (case et_Twice => k_is)
    (case ge_NotOpen => k_is)
    (case ex_NotOpen => k_exc)
    (case ek_NotOpen => k_is)
    (case eb_NotOpen => k_is)
    (case et_NotOpen => k_is)
    (case ge_BadMark => k_is)
    (case ex_BadMark => k_exc)
    (case ek_BadMark => k_is)
    (case eb_BadMark => k_is)
    (case et_BadMark => k_is)
    (case ge_NoNote => k_is)
    (case ex_NoNote => k_exc)
    (case ek_NoNote => k_is)
    (case eb_NoNote => k_is)
    (case et_NoNote => k_is)
    (case gc_Desk => k_is)
    (case pg_Desk => k_is)
    (case hd_Desk => k_is)
    (case po_Desk => k_is)
    (case sa_Desk => k_is)
    (case mk_Desk => k_is)
    (case kc_Desk => k_is)
    (case nf_Desk__hand => k_is)
    (case nf_Desk__clock => k_is)
    (case nf_Desk__met => k_is)
    (case nf_Desk__unsettled => k_is)
    (case nf_Desk__settled => k_is)
    (case nf_Desk__row => k_is)
    (case lhg_Twice => k_is)
    (case lhk_Twice => k_is)
    (case lhd_Twice => k_is)
    (case lha_Twice => k_is)
    (case lhn_Twice => k_is)
    (case lht_Twice => k_is)
    (case lhm_Twice => k_is)
    (case lv_Twice => k_is)
    (case lc_BadCount => k_is)
    (case lc_NoHand => k_is)
    (case lc_NoLetter => k_is)
    (case lc_NoMail => k_is)
    (case lc_Twice => k_is)
    (case lc_NotOpen => k_is)
    (case lc_BadMark => k_is)
    (case lc_NoNote => k_is)
    (case lb_Twice_BadCount => k_is)
    (case ln_Twice_BadCount => (first | decide | (intro z; revert z; decide)))
    (case lb_Twice_NoHand => k_is)
    (case ln_Twice_NoHand => (first | decide | (intro z; revert z; decide)))
    (case lb_Twice_NoLetter => k_is)
    (case ln_Twice_NoLetter => (first | decide | (intro z; revert z; decide)))
    (case lb_Twice_NoMail => k_is)
    (case ln_Twice_NoMail => (first | decide | (intro z; revert z; decide)))
    (case lb_Twice_Twice => k_is)
    (case lb_Twice_NotOpen => k_is)
    (case ln_Twice_NotOpen => (first | decide | (intro z; revert z; decide)))
    (case lb_Twice_BadMark => k_is)
    (case ln_Twice_BadMark => (first | decide | (intro z; revert z; decide)))
    (case lb_Twice_NoNote => k_is)
    (case ln_Twice_NoNote => (first | decide | (intro z; revert z; decide)))
    (case xs_Twice_BellError => k_is)
    (case xd_Twice_BellError => k_is)
    (case a1 => k_is)
    (case i1 => k_is)
    (case l1 => k_is)
    (case c1 => k_is)
    (case k1 => k_is)
    (case a2 => k_is)
    (case i2 => k_is)
    (case l2 => k_is)
    (case c2 => k_is)
    (case k2 => k_is)
    (case a3 => k_is)
    (case i3 => k_is)
    (case l3 => k_is)
    (case c3 => k_is)
    (case k3 => k_is)
    (case a4 => k_is)
    (case i4 => k_is)
    (case l4 => k_is)
    (case c4 => k_is)
    (case k4 => k_is)
    (case a5 => k_is)
    (case i5 => k_is)
    (case l5 => k_is)
    (case c5 => k_is)
    (case k5 => k_is)
    (case a6 => k_is)
    (case l6 => k_is)
    (case c6 => k_is)
    (case k6 => k_is)
    (case a7 => k_is)
    (case l7 => k_is)
    (case c7 => k_is)
    (case k7 => k_is)
    (case a8 => k_is)
    (case l8 => k_is)
    (case c8 => k_is)
    (case k8 => k_is)
    (case a9 => k_is)
    (case l9 => k_is)
    (case c9 => k_is)
    (case k9 => k_is)
    (case a10 => k_is)
    (case l10 => k_is)
    (case c10 => k_is)
    (case k10 => k_is)
    (case a11 => k_is)
    (case l11 => k_is)
    (case c11 => k_is)
    (case k11 => k_is)
    (case a12 => k_is)
    (case l12 => k_is)
    (case c12 => k_is)
    (case k12 => k_is)
    (case a13 => k_is)
    (case l13 => k_is)
    (case c13 => k_is)
    (case k13 => k_is)
    (case z_len => k_is)
    (case z_isinstance => k_is)
    (case z_max => k_is)
    (case z_min => k_is)
    (case z_all => k_is)
    (case z_any => k_is)
    (case z_sorted => k_is)
    (case z_int => k_is)
    (case z_str => k_is)
    (case z_bool => k_is)
    (case z_list => k_is)
    (case z_tuple => k_is)
    (case z_dict => k_is)
    (case z_set => k_is)
    (case z_range => k_is)
    (case z_zip => k_is)
    (case z_enumerate => k_is)
    (case z_ValueError => k_is)
