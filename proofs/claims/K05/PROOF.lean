import PyProof.Rows.All
import Wide.All
import OpenK.AllK
import Wide.FinOn
import HandS.ForMost
import HandS.ForExc
import HandS.IsInst
import HandS.Flow
import HandS.Zip
import HandS.Wide
import HandS.Steps
import KE.DatumMoreOrd
import HandS.Text
import HandS.Codes
import HandS.ExcCtx
import HandS.FStr
import HandS.StrMore
import HandS.More
import HandS.HotCalls
import HandS.ExcIs
import PySem.Challenge.RW_onebell_k05_what_writes_no_mail
set_option Elab.async false
set_option linter.all false
set_option maxRecDepth 100000
/-! The layer: readings opened by simp, callees as one fact, data. -/
namespace Y
open PySem PySem.Spec PyProof.Rows L2

/-- a new object, and what is wanted then -/
def NewO (H : Hp) (o : HO) (Q : VK) : Prop := ∀ p, H p = none → Q (.ref p) (upd H p o)
/-- the object at a becomes o, and what is wanted then -/
def WrO (H : Hp) (a : Addr) (o : HO) (R : Hp → Prop) : Prop := R (upd H a o)
/-! ### readings, one step each -/
section
variable {σ : L2.St} {H : Hp} {Q : VK} {D : Ends} {i : Nat} {v : V} {ta tb te tv : TE} {t u : TT} {r : R2} {ts ts' : TS} {g : TG} {K : PySem.W.Frag} {QT : Bool → Hp → Prop} {tas : TA} {QA : List V → Hp → Prop}
theorem a_var : tVar i σ H Q = ∃ v, σ[i]? = some (some v) ∧ Q v H := rfl
theorem a_c : tC v σ H Q = Q v H := rfl
theorem a_op : tOp r ta tb σ H Q = ta σ H fun x H1 => tb σ H1 fun y H2 => r x y H2 Q := rfl
theorem a_un {r : V → Hp → VK → Prop} : tUn r ta σ H Q = ta σ H fun x H1 => r x H1 Q := rfl
theorem a_I0 {f : Int → Int → V} {x y : V} : rI0 f x y H Q = ∃ i j, x = .int i ∧ y = .int j ∧ Q (f i j) H := rfl
theorem a_I {C : Int → Int → Prop} {f : Int → Int → V} {x y : V} : rI C f x y H Q = ∃ i j, x = .int i ∧ y = .int j ∧ C i j ∧ Q (f i j) H := rfl
theorem a_U {f : Int → V} {x : V} : rU f x H Q = ∃ i, x = .int i ∧ Q (f i) H := rfl
theorem a_eq {x y : V} : rEq x y H Q = (scal x y = true ∧ Q (.bl (decide (x = y))) H) := rfl
theorem a_ne {x y : V} : rNe x y H Q = (scal x y = true ∧ Q (.bl (!decide (x = y))) H) := rfl
theorem a_B : tB te σ H QT = te σ H fun x H1 => ∃ c, x = .bl c ∧ QT c H1 := rfl
theorem a_test : tTest te σ H QT = te σ H fun x H1 => ∃ c, x = .bl c ∧ QT c H1 := rfl
theorem a_and : tAnd t u σ H QT = t σ H fun c H1 => if c = true then u σ H1 QT else QT false H1 := rfl
theorem a_or : tOr t u σ H QT = t σ H fun c H1 => if c = true then QT true H1 else u σ H1 QT := rfl
theorem a_not : tNot t σ H QT = t σ H fun c H1 => QT (!c) H1 := rfl
theorem a_andV : tAndV ta tb σ H Q = ta σ H fun x H1 => ∃ c, x = .bl c ∧ if c = true then tb σ H1 Q else Q (.bl false) H1 := rfl
theorem a_orV : tOrV ta tb σ H Q = ta σ H fun x H1 => ∃ c, x = .bl c ∧ if c = true then Q (.bl true) H1 else tb σ H1 Q := rfl
theorem a_notV : tNotV ta σ H Q = ta σ H fun x H1 => ∃ c, x = .bl c ∧ Q (.bl (!c)) H1 := rfl
theorem a_isN : tIsN ta σ H Q = ta σ H fun x H1 => Q (.bl (decide (x = .non))) H1 := rfl
theorem a_notN : tNotN ta σ H Q = ta σ H fun x H1 => Q (.bl (!decide (x = .non))) H1 := rfl
theorem a_if : tIf t ta tb σ H Q = t σ H fun c H1 => if c = true then ta σ H1 Q else tb σ H1 Q := rfl
theorem a_next : tNext D σ H = D.nx σ H := rfl
theorem a_seq : tSeq ts ts' D σ H = ts { D with nx := ts' D } σ H := rfl
theorem a_brk : tBreak D σ H = D.bk σ H := rfl
theorem a_cont : tCont D σ H = D.ct σ H := rfl
theorem a_drop : tDrop te D σ H = te σ H fun _ H1 => D.nx σ H1 := rfl
theorem a_ret : tRet te D σ H = te σ H D.rt := rfl
theorem a_retN : tRetN D σ H = D.rt .non H := rfl
theorem a_ifS : tIfS t ts ts' D σ H = t σ H fun b H1 => if b = true then ts D σ H1 else ts' D σ H1 := rfl
theorem a_asg : tAsg te g D σ H = te σ H fun x H1 => g x σ H1 D.nx := rfl
theorem a_gName {q : L2.St → Hp → Prop} : gName i v σ H q = q (σ.set i (some v)) H := rfl
theorem a_nil : tNil σ H QA = QA [] H := rfl
theorem a_cons : tCons te tas σ H QA = te σ H fun x H1 => tas σ H1 fun xs H2 => QA (x :: xs) H2 := rfl
theorem a_tup : tTup tas σ H Q = tas σ H fun xs H1 => xs.length ≤ sizeLine ∧ NewO H1 (.tup xs) Q := rfl
theorem a_lst : tLst tas σ H Q = tas σ H fun xs H1 => xs.length ≤ sizeLine ∧ NewO H1 (.lst xs) Q := rfl
theorem a_cb {r : List V → Hp → VK → Prop} : tCB r tas σ H Q = tas σ H fun xs H1 => r xs H1 Q := rfl
theorem a_call {sp : Sp} {dvs : List V} {E : XK} : tCall sp dvs E tas σ H Q = tas σ H fun vs H1 => sp (vs ++ dvs) H1 Q E := rfl
theorem a_ixL {x y : V} : rIxL K x y H Q = ∃ p xs i v, x = .ref p ∧ y = .int i ∧ SqL K H p xs ∧ atI xs i = some v ∧ Q v H := rfl
theorem a_ixT {x y : V} : rIxT K x y H Q = ∃ p xs i v, x = .ref p ∧ y = .int i ∧ SqT K H p xs ∧ atI xs i = some v ∧ Q v H := rfl
theorem a_tIfT {A B : Prop} : (if true = true then A else B) = A := if_pos rfl
theorem a_tIfF {A B : Prop} : (if false = true then A else B) = B := if_neg Bool.false_ne_true
end

/-! ### heaps -/
/-- what never changes once it stands -/
def tupO : HO → Prop
  | .tup _ => True
  | .frz _ _ => True
  | _ => False
/-- what is tracked outside of M, and every tuple, is as it was -/
def Frm (M : Addr → Prop) (H H' : Hp) : Prop := ∀ a o, H a = some o → (M a → tupO o) → H' a = some o
theorem Frm.refl {M : Addr → Prop} {H : Hp} : Frm M H H := fun _ _ e _ => e
theorem Frm.trans {M : Addr → Prop} {H H1 H2 : Hp} (a : Frm M H H1) (b : Frm M H1 H2) : Frm M H H2 := fun x o e h => b x o (a x o e h) h
theorem Frm.mono {M N : Addr → Prop} {H H1 : Hp} (a : Frm M H H1) (b : ∀ x, M x → N x) : Frm N H H1 := fun x o e h => a x o e fun m => h (b x m)
theorem Frm.tup {M : Addr → Prop} {H H1 : Hp} (a : Frm M H H1) {p : Addr} {xs : List V} (e : H p = some (.tup xs)) : H1 p = some (.tup xs) := a p _ e fun _ => trivial
theorem Frm.upd {H : Hp} {p : Addr} {o u : HO} (h : H p = some o) (ht : ¬ tupO o) : Frm (fun b => b = p) H (L2.upd H p u) := fun a v e m => by
  rw [upd_ne (fun z => ?_)]
  · exact e
  · subst z
    rw [h] at e
    cases e
    exact ht (m rfl)
theorem Frm.sqT {M : Addr → Prop} {H H1 : Hp} (a : Frm M H H1) {K : PySem.W.Frag} {p : Addr} {xs : List V} (h : SqT K H p xs) : SqT K H1 p xs := by
  rcases h with (h | ⟨o, h⟩) | h
  · exact .inl (.inl (a _ _ h fun _ => trivial))
  · exact .inl (.inr ⟨o, a _ _ h fun _ => trivial⟩)
  · exact .inr h
theorem Frm.of_same {M : Addr → Prop} {H H' : Hp} (h : Same H H') : Frm M H H' := fun a o e _ => h a o e
theorem Frm.same {H H' : Hp} (h : Frm (fun _ => False) H H') : Same H H' := fun a o e => h a o e fun z => z.elim
theorem Same.new {H : Hp} {p : Addr} {o : HO} (h : H p = none) : Same H (upd H p o) := fun a u e => by
  rw [upd_ne (ne_of_none e h)]
  exact e
theorem free_of {H H' : Hp} (e : Same H H') {p : Addr} (h : H' p = none) : H p = none := e.free h
theorem _root_.L2.Same.seqT {K : PySem.W.Frag} {H H' : Hp} {a : Addr} {xs : List V} (e : Same H H') (h : SqT K H a xs) : SqT K H' a xs := by
  rcases h with (h | ⟨o, h⟩) | h
  · exact .inl (.inl (e _ _ h))
  · exact .inl (.inr ⟨o, e _ _ h⟩)
  · exact .inr h
theorem sqL {K : PySem.W.Frag} {H : Hp} {a : Addr} {xs : List V} (h : H a = some (.lst xs)) : SqL K H a xs := .inl (.inl h)
theorem sqT {K : PySem.W.Frag} {H : Hp} {a : Addr} {xs : List V} (h : H a = some (.tup xs)) : SqT K H a xs := .inl (.inl h)

/-! ### callees as one fact -/
structure Cal (P : Program) (w : World) (K : PySem.W.Frag) (mg : Str → Option Value) (base : Heap) (CX : CXT) (k : Nat) (x : Str) (ps : List Str) (sp : Sp) : Prop where
  ex : ∃ (f : Addr) (fd : FuncData), FnOk P w K mg base CX k f fd ps sp ∧ mg x = some (.ref f) ∧ PySem.W.keepIn K (.ref f) = true ∧ Binds K fd ps []
section
variable {X : Cx}
theorem pe_callC {k : Nat} {x : Str} {ps : List Str} {sp : Sp} {p pos : Pos} {e : Expr} {es : List Expr} {t : TA} (C : Cal X.prog X.w X.K X.mg X.base CX0 k x ps sp) (hr : Room k X.A) (ha : PA X (e :: es) t) (hg : Gl X x := by rfl) (hn : x ≠ "__name__" := by decide)
    (hdb : (x == ("__debug__" : Str)) = false := by decide) (he : starEach (e :: es) X.env = (false, eval e X.env) :: starEach es X.env := by rfl) (hpl : (backTo pos (starEach es X.env)).any (·.1) = false := by rfl) :
    PE X (.Call (.Name x p) (e :: es) [] pos) (tCall sp [] E0 t) := by
  obtain ⟨f, fd, F, m, kp, b⟩ := C.ex
  exact pe_call F hr hg m kp b .nil pass0 ha hdb he hpl
theorem pe_call0C {k : Nat} {x : Str} {ps : List Str} {sp : Sp} {p pos : Pos} (C : Cal X.prog X.w X.K X.mg X.base CX0 k x ps sp) (hr : Room k X.A) (hg : Gl X x := by rfl) (hn : x ≠ "__name__" := by decide)
    (hdb : (x == ("__debug__" : Str)) = false := by decide) :
    PE X (.Call (.Name x p) [] [] pos) (tCall sp [] E0 tNil) := by
  obtain ⟨f, fd, F, m, kp, b⟩ := C.ex
  exact pe_call0 F hr hg m kp b .nil pass0 hdb
end
/-- the names of built-ins that the module leaves alone -/
structure Bt (mg : Str → Option Value) : Prop where
  len : mg "len" = none
  isinstance : mg "isinstance" = none
  max : mg "max" = none
  min : mg "min" = none
  all : mg "all" = none
  any : mg "any" = none
  sorted : mg "sorted" = none
  int : mg "int" = none
  str : mg "str" = none
  bool : mg "bool" = none
  list : mg "list" = none
  tuple : mg "tuple" = none
  dict : mg "dict" = none
  set : mg "set" = none
  range : mg "range" = none
  zip : mg "zip" = none
  enumerate : mg "enumerate" = none
  ValueError : mg "ValueError" = none

/-! ### data with a Lean type -/
section
variable {α β : Type} [DecidableEq α] [PySem.W.Datum α] [DecidableEq β] [PySem.W.Datum β] {K : PySem.W.Frag} {H H' : Hp} {v u : V} {vs us : List V} {x y : α} {xs ys : List α}
open PySem.W (Datum)
def Dv (K : PySem.W.Frag) (H : Hp) (v : V) (x : α) : Prop := Dp K H v (Datum.toD x)
def DvL (K : PySem.W.Frag) (H : Hp) (vs : List V) (xs : List α) : Prop := DpAll K H vs (xs.map Datum.toD)
mutual
theorem Dp.same (e : Same H H') : ∀ (d : PyData) (v : V), Dp K H v d → Dp K H' v d
  | .none, _, h => by cases h; exact .non
  | .bool b, _, h => by cases h; exact .bl b
  | .int i, _, h => by cases h; exact .int i
  | .str x, _, h => by cases h; exact .str x
  | .list ds, _, h => by
    cases h with
    | lst hs ha => exact .lst (e.seq hs) (DpAll.same e ds _ ha)
  | .tuple ds, _, h => by
    cases h with
    | tup hs ha => exact .tup (e.seqT hs) (DpAll.same e ds _ ha)
  | .dict _, _, h => by cases h
theorem DpAll.same (e : Same H H') : ∀ (ds : List PyData) (vs : List V), DpAll K H vs ds → DpAll K H' vs ds
  | [], _, h => by cases h; exact .nil
  | d :: ds, _, h => by
    cases h with
    | cons h1 h2 => exact .cons (Dp.same e d _ h1) (DpAll.same e ds _ h2)
end
theorem Dv.same (e : Same H H') (h : Dv K H v x) : Dv K H' v x := Dp.same e _ _ h
theorem DvL.same (e : Same H H') (h : DvL K H vs xs) : DvL K H' vs xs := DpAll.same e _ _ h
theorem DvL.nil : DvL K H [] ([] : List α) := DpAll.nil
theorem DvL.cons (a : Dv K H v x) (b : DvL K H vs xs) : DvL K H (v :: vs) (x :: xs) := DpAll.cons a b
theorem DvL.head (h : DvL K H (v :: vs) (x :: xs)) : Dv K H v x ∧ DvL K H vs xs := by
  have h : DpAll K H (v :: vs) (Datum.toD x :: xs.map Datum.toD) := h
  cases h with
  | cons a b => exact ⟨a, b⟩
theorem DvL.length : ∀ {vs : List V} {xs : List α}, DvL K H vs xs → vs.length = xs.length
  | [], [], _ => rfl
  | [], x :: xs, h => by have h : DpAll K H [] (Datum.toD x :: xs.map Datum.toD) := h; cases h
  | v :: vs, [], h => by have h : DpAll K H (v :: vs) [] := h; cases h
  | v :: vs, x :: xs, h => by rw [List.length_cons, List.length_cons, DvL.length h.head.2]
theorem DvL.append : ∀ {vs : List V} {xs : List α}, DvL K H vs xs → DvL K H us ys → DvL K H (vs ++ us) (xs ++ ys)
  | [], [], _, k => k
  | [], x :: xs, h, _ => by have := h.length; cases this
  | v :: vs, [], h, _ => by have := h.length; cases this
  | v :: vs, x :: xs, h, k => .cons h.head.1 (DvL.append h.head.2 k)
theorem DvL.snoc (a : DvL K H vs xs) (b : Dv K H v x) : DvL K H (vs ++ [v]) (xs ++ [x]) := a.append (.cons b .nil)
theorem DvL.at : ∀ {vs : List V} {xs : List α}, DvL K H vs xs → ∀ {i : Nat} {v : V}, vs[i]? = some v → ∃ x, xs[i]? = some x ∧ Dv K H v x
  | [], _, _, i, v, e => by simp at e
  | v :: vs, [], h, _, _, _ => by have := h.length; cases this
  | v :: vs, x :: xs, h, 0, w, e => by
    have e' : v = w := Option.some.inj e
    subst e'
    exact ⟨x, rfl, h.head.1⟩
  | v :: vs, x :: xs, h, i + 1, w, e => DvL.at h.head.2 (i := i) e
theorem DvL.at' : ∀ {vs : List V} {xs : List α}, DvL K H vs xs → ∀ {i : Nat} {x : α}, xs[i]? = some x → ∃ v, vs[i]? = some v ∧ Dv K H v x
  | _, [], _, i, x, e => by simp at e
  | [], x :: xs, h, _, _, _ => by have := h.length; cases this
  | v :: vs, x :: xs, h, 0, w, e => by
    have e' : x = w := Option.some.inj e
    subst e'
    exact ⟨v, rfl, h.head.1⟩
  | v :: vs, x :: xs, h, i + 1, w, e => DvL.at' h.head.2 (i := i) e
theorem DvL.take : ∀ {vs : List V} {xs : List α}, DvL K H vs xs → ∀ n : Nat, DvL K H (vs.take n) (xs.take n)
  | _, _, _, 0 => by rw [List.take_zero, List.take_zero]; exact .nil
  | [], [], h, _ + 1 => h
  | [], x :: xs, h, _ + 1 => by have := h.length; cases this
  | v :: vs, [], h, _ + 1 => by have := h.length; cases this
  | v :: vs, x :: xs, h, n + 1 => .cons h.head.1 (DvL.take h.head.2 n)
theorem DvL.drop : ∀ {vs : List V} {xs : List α}, DvL K H vs xs → ∀ n : Nat, DvL K H (vs.drop n) (xs.drop n)
  | _, _, h, 0 => h
  | [], [], h, _ + 1 => h
  | [], x :: xs, h, _ + 1 => by have := h.length; cases this
  | v :: vs, [], h, _ + 1 => by have := h.length; cases this
  | v :: vs, x :: xs, h, n + 1 => DvL.drop h.head.2 n
theorem dv_int (i : Int) : Dv K H (.int i) i := Dp.int i
theorem dv_bl (b : Bool) : Dv K H (.bl b) b := Dp.bl b
theorem dv_str (z : Str) : Dv K H (.str z) z := Dp.str z
theorem dv_lst {a : Addr} (h : SqL K H a vs) (k : DvL K H vs xs) : Dv K H (.ref a) xs := Dp.lst h k
theorem dv_pair {a : Addr} {y : β} (h : SqT K H a [v, u]) (k : Dv K H v x) (l : Dv K H u y) : Dv K H (.ref a) (x, y) := Dp.tup h (.cons k (.cons l .nil))
/-! no list within -/
mutual
def noL : PyData → Bool
  | .list _ => false
  | .tuple ds => noLs ds
  | .dict _ => false
  | _ => true
def noLs : List PyData → Bool
  | [] => true
  | d :: ds => noL d && noLs ds
end
mutual
theorem Dp.frm {M : Addr → Prop} (e : Frm M H H') : ∀ (d : PyData) (v : V), noL d = true → Dp K H v d → Dp K H' v d
  | .none, _, _, h => by cases h; exact .non
  | .bool b, _, _, h => by cases h; exact .bl b
  | .int i, _, _, h => by cases h; exact .int i
  | .str x, _, _, h => by cases h; exact .str x
  | .list ds, _, n, h => by simp [noL] at n
  | .tuple ds, _, n, h => by
    rw [noL] at n
    cases h with
    | tup hs ha => exact .tup (e.sqT hs) (DpAll.frm e ds _ n ha)
  | .dict _, _, _, h => by cases h
theorem DpAll.frm {M : Addr → Prop} (e : Frm M H H') : ∀ (ds : List PyData) (vs : List V), noLs ds = true → DpAll K H vs ds → DpAll K H' vs ds
  | [], _, _, h => by cases h; exact .nil
  | d :: ds, _, n, h => by
    rw [noLs, Bool.and_eq_true] at n
    cases h with
    | cons h1 h2 => exact .cons (Dp.frm e d _ n.1 h1) (DpAll.frm e ds _ n.2 h2)
end
/-- data of numbers, texts, tuples: never changed -/
class Flat (α : Type) [DecidableEq α] [PySem.W.Datum α] : Prop where
  flat : ∀ x : α, noL (Datum.toD x) = true
instance : Flat Int := ⟨fun _ => rfl⟩
instance : Flat Bool := ⟨fun _ => rfl⟩
instance : Flat Str := ⟨fun _ => rfl⟩
instance [Flat α] [Flat β] : Flat (α × β) := ⟨fun x => by
  show noL (.tuple [Datum.toD x.1, Datum.toD x.2]) = true
  rw [noL, noLs, noLs, noLs, Flat.flat x.1, Flat.flat x.2]; rfl⟩
theorem Dv.frm [Flat α] {M : Addr → Prop} (e : Frm M H H') (h : Dv K H v x) : Dv K H' v x := Dp.frm e _ _ (Flat.flat x) h
theorem DvL.frm [Flat α] {M : Addr → Prop} (e : Frm M H H') : ∀ {vs : List V} {xs : List α}, DvL K H vs xs → DvL K H' vs xs
  | [], [], _ => .nil
  | [], x :: xs, h => by have := h.length; cases this
  | v :: vs, [], h => by have := h.length; cases this
  | v :: vs, x :: xs, h => .cons (h.head.1.frm e) (DvL.frm e h.head.2)
theorem dvL_ints : ∀ ns : List Int, DvL K H (ns.map V.int) ns
  | [] => .nil
  | n :: ns => .cons (dv_int n) (dvL_ints ns)
theorem dvL_bls : ∀ ns : List Bool, DvL K H (ns.map V.bl) ns
  | [] => .nil
  | n :: ns => .cons (dv_bl n) (dvL_bls ns)
theorem dv_int_of {i : Int} (h : Dv K H v i) : v = .int i := by
  have h : Dp K H v (.int i) := h
  cases h; rfl
theorem dv_bl_of {i : Bool} (h : Dv K H v i) : v = .bl i := by
  have h : Dp K H v (.bool i) := h
  cases h; rfl
theorem dv_str_of {i : Str} (h : Dv K H v i) : v = .str i := by
  have h : Dp K H v (.str i) := h
  cases h; rfl
theorem dvL_ints_of : ∀ {vs : List V} {ns : List Int}, DvL K H vs ns → vs = ns.map V.int
  | [], [], _ => rfl
  | [], x :: xs, h => by have := h.length; cases this
  | v :: vs, [], h => by have := h.length; cases this
  | v :: vs, n :: ns, h => by
    rw [dv_int_of h.head.1, dvL_ints_of h.head.2]
    rfl
theorem dvL_bls_of : ∀ {vs : List V} {ns : List Bool}, DvL K H vs ns → vs = ns.map V.bl
  | [], [], _ => rfl
  | [], x :: xs, h => by have := h.length; cases this
  | v :: vs, [], h => by have := h.length; cases this
  | v :: vs, n :: ns, h => by
    rw [dv_bl_of h.head.1, dvL_bls_of h.head.2]
    rfl
theorem dv_lst_of (h : Dv K H v xs) : ∃ a vs, v = .ref a ∧ SqL K H a vs ∧ DvL K H vs xs := by
  have h : Dp K H v (.list (xs.map Datum.toD)) := h
  cases h with
  | lst a b => exact ⟨_, _, rfl, a, b⟩
theorem dv_pair_of {y : β} (h : Dv K H v (x, y)) : ∃ a v1 v2, v = .ref a ∧ SqT K H a [v1, v2] ∧ Dv K H v1 x ∧ Dv K H v2 y := by
  have h : Dp K H v (.tuple [Datum.toD x, Datum.toD y]) := h
  cases h with
  | tup a b =>
    cases b with
    | cons b1 b2 =>
      cases b2 with
      | cons b2 b3 =>
        cases b3
        exact ⟨_, _, _, rfl, a, b1, b2⟩
/-- a mark as it lies -/
theorem dv_mark_of {n h : Int} (q : Dv K H v (n, h)) : ∃ a, v = .ref a ∧ SqT K H a [.int n, .int h] := by
  obtain ⟨a, v1, v2, e, s, q1, q2⟩ := dv_pair_of q
  rw [dv_int_of q1, dv_int_of q2] at s
  exact ⟨a, e, s⟩
end
section
variable {X : Cx} {α : Type} [DecidableEq α] [PySem.W.Datum α]
open PySem.W (Datum Holds HoldAll DatumOrd)
theorem Dv.holds {pins : List (Addr × Obj)} {σ : L2.St} {H : Hp} {s : Shared} {v : V} {u : Value} {x : α} (h : Dv X.K H v x) (I : Inv X pins σ H s) (r : RelV v u) : Holds s.heap u x := Dp.reads I _ _ _ h r
theorem DvL.holds {pins : List (Addr × Obj)} {σ : L2.St} {H : Hp} {s : Shared} {vs : List V} {us : List Value} {xs : List α} (h : DvL X.K H vs xs) (I : Inv X pins σ H s) (r : Vals vs us) : HoldAll s.heap us xs := Dp.readsAll I _ _ _ h r
theorem dep_le {n : Nat} (h : X.A.units + 64 < cLine) (k : n ≤ 62) : X.A.units + n < cLine := by omega
def rEqA (α : Type) [DecidableEq α] [PySem.W.Datum α] (K : PySem.W.Frag) : R2 := fun x y H Q => ∃ a b : α, Dv K H x a ∧ Dv K H y b ∧ Q (.bl (decide (a = b))) H
def rNeA (α : Type) [DecidableEq α] [PySem.W.Datum α] (K : PySem.W.Frag) : R2 := fun x y H Q => ∃ a b : α, Dv K H x a ∧ Dv K H y b ∧ Q (.bl (!decide (a = b))) H
theorem op_eqA (hd : Datum.depth α ≤ 62) (hu : X.A.units + 64 < cLine) : OpR X (compareOp .Eq) (rEqA α X.K) := by
  intro pins s σ H x y v u Q I rx ry h
  obtain ⟨a, b, ha, hb, q⟩ := h
  exact PySem.W.eq_datum (ha.holds I rx) (hb.holds I ry) (dep_le hu hd) ⟨.bl _, H, I, rfl, q⟩
theorem op_neA (hd : Datum.depth α ≤ 62) (hu : X.A.units + 64 < cLine) : OpR X (compareOp .NotEq) (rNeA α X.K) := by
  intro pins s σ H x y v u Q I rx ry h
  obtain ⟨a, b, ha, hb, q⟩ := h
  refine PySem.W.ne_datum (ha.holds I rx) (hb.holds I ry) (dep_le hu hd) ⟨.bl (!decide (a = b)), H, I, ?_, q⟩
  show Value.bool (decide (a ≠ b)) = Value.bool (!decide (a = b))
  rw [decide_not]
end
section
variable {X : Cx} {α : Type} [DecidableEq α] [PySem.W.DatumOrd α]
open PySem.W (Datum Holds HoldAll DatumOrd)
def rLtA (α : Type) [DecidableEq α] [DatumOrd α] (K : PySem.W.Frag) : R2 := fun x y H Q => ∃ a b : α, Dv K H x a ∧ Dv K H y b ∧ Q (.bl (DatumOrd.lt a b)) H
theorem op_ltA (hd : Datum.depth α ≤ 62) (hu : X.A.units + 64 < cLine) : OpR X (compareOp .Lt) (rLtA α X.K) := by
  intro pins s σ H x y v u Q I rx ry h
  obtain ⟨a, b, ha, hb, q⟩ := h
  exact PySem.W.lt_datum (ha.holds I rx) (hb.holds I ry) (dep_le hu hd) ⟨.bl _, H, I, rfl, q⟩
def rMaxA (α : Type) [DecidableEq α] [DatumOrd α] (K : PySem.W.Frag) : List V → Hp → VK → Prop := fun vs H Q => ∃ (l : Addr) (ys : List V) (x : α) (xs : List α), vs = [.ref l] ∧ SqL K H l ys ∧ DvL K H ys (x :: xs) ∧ ∀ v, Dv K H v (PySem.W.maxOf x xs) → Q v H
theorem toD_inj {α : Type} [DecidableEq α] [Datum α] {x y : α} (h : Datum.toD x = Datum.toD y) : x = y := by
  have e := Datum.eqv x y
  rw [h, Datum.eqv y y, decide_eq_true rfl] at e
  exact of_decide_eq_true e.symm
theorem holds_inj {α : Type} [DecidableEq α] [Datum α] {h : Heap} {v : Value} {x y : α} (a : Holds h v x) (b : Holds h v y) : x = y := by
  obtain ⟨as, a⟩ := a
  obtain ⟨bs, b⟩ := b
  exact toD_inj (reads_det (fun _ _ e _ => e) a b).1.symm
theorem maxOf_mem (x : α) (xs : List α) : PySem.W.maxOf x xs ∈ x :: xs := by
  unfold PySem.W.maxOf
  induction xs generalizing x with
  | nil => exact List.mem_cons_self
  | cons y ys ih =>
    rw [List.foldl_cons]
    by_cases c : DatumOrd.lt x y = true
    · rw [if_pos c]
      exact List.mem_cons_of_mem _ (ih y)
    · rw [if_neg c]
      rcases List.mem_cons.mp (ih x) with e | m
      · rw [e]; exact List.mem_cons_self
      · exact List.mem_cons_of_mem _ (List.mem_cons_of_mem _ m)
theorem cr_maxA (hc : X.calm = true) (hd : Datum.depth α ≤ 60) (hu : X.A.units + 64 < cLine) : CallR X (.builtin "max") (rMaxA α X.K) := by
  intro pins s σ H vs us Q I r h
  obtain ⟨l, ys, x, xs, rfl, hs, hv, q⟩ := h
  obtain ⟨its, rv, hl, _⟩ := I.list hs
  rw [Vals.ref1 r]
  refine PySem.W.max_list_datum (I.ok.hd hc) hl.isList (hv.holds I rv) (by omega) fun i v h' tk hi hh hk => ?_
  have hi' : its[i]? = some v := by rw [← hi, List.getElem?_toArray]
  obtain ⟨y, hy, ry⟩ : ∃ y, ys[i]? = some y ∧ RelV y v := by
    cases e : ys[i]? with
    | none => rw [rv.none_of e] at hi'; cases hi'
    | some y =>
      obtain ⟨u, hu', ru⟩ := rv.get e
      rw [hu'] at hi'
      cases hi'
      exact ⟨y, rfl, ru⟩
  obtain ⟨z, hz, dz⟩ := hv.at hy
  have e := holds_inj ((dz.holds I ry).keeps hk) hh
  subst e
  exact ⟨y, H, I.kept hk, ry, q y dz⟩
end

/-! ### isinstance of a built-in type, by the value's kind -/
def isB (t n : String) : Bool := decide (t = n) || (decide (t = "bool") && decide (n = "int"))
theorem kitB_int : ∀ n ∈ ["int", "bool", "str", "tuple", "list"], kitB "int" n = some (isB "int" n) := by decide +kernel
theorem kitB_bool : ∀ n ∈ ["int", "bool", "str", "tuple", "list"], kitB "bool" n = some (isB "bool" n) := by decide +kernel
theorem kitB_str : ∀ n ∈ ["int", "bool", "str", "tuple", "list"], kitB "str" n = some (isB "str" n) := by decide +kernel
theorem kitB_non : ∀ n ∈ ["int", "bool", "str", "tuple", "list"], kitB "NoneType" n = some (isB "NoneType" n) := by decide +kernel
theorem kitB_tuple : ∀ n ∈ ["int", "bool", "str", "tuple", "list"], kitB "tuple" n = some (isB "tuple" n) := by decide +kernel
theorem kitB_list : ∀ n ∈ ["int", "bool", "str", "tuple", "list"], kitB "list" n = some (isB "list" n) := by decide +kernel
def rIs (n : String) (K : PySem.W.Frag) : List V → Hp → VK → Prop := fun xs H Q => ∃ x, xs = [x, .ty n] ∧
  match x with
  | .int _ => Q (.bl (isB "int" n)) H
  | .bl _ => Q (.bl (isB "bool" n)) H
  | .str _ => Q (.bl (isB "str" n)) H
  | .non => Q (.bl (isB "NoneType" n)) H
  | .ref a => (∃ xs, SqT K H a xs ∧ Q (.bl (isB "tuple" n)) H) ∨ (∃ xs, SqL K H a xs ∧ Q (.bl (isB "list" n)) H)
  | _ => False
theorem tyX_tup {K : PySem.W.Frag} {H : Hp} {a : Addr} {xs : List V} (h : SqT K H a xs) : TyX K H (.ref a) (.type "tuple") := by
  rcases h with (h | ⟨o, h⟩) | ⟨o, its, n, h1, h2, _⟩
  · exact .base (.tup h)
  · exact .fTuple h
  · exact .kTuple h1 h2
theorem tyX_lst {K : PySem.W.Frag} {H : Hp} {a : Addr} {xs : List V} (h : SqL K H a xs) : TyX K H (.ref a) (.type "list") := by
  rcases h with (h | ⟨o, h⟩) | ⟨o, its, n, h1, h2, _⟩
  · exact .base (.lst h)
  · exact .base (.frz h)
  · exact .kList h1 h2
theorem call_is {X : Cx} (n : String) (hn : n ∈ ["int", "bool", "str", "tuple", "list"] := by decide) : CallR X (.builtin "isinstance") (rIs n X.K) := by
  intro pins s σ H xs us Q I r h
  obtain ⟨x, rfl, h⟩ := h
  refine call_isi pins s σ H _ us Q I r ?_
  cases x with
  | int i => exact ⟨.int i, .ty n, _, _, _, rfl, .ty n, .base (.int i), kit_ty (kitB_int n hn), h⟩
  | bl i => exact ⟨.bl i, .ty n, _, _, _, rfl, .ty n, .base (.bl i), kit_ty (kitB_bool n hn), h⟩
  | str i => exact ⟨.str i, .ty n, _, _, _, rfl, .ty n, .base (.str i), kit_ty (kitB_str n hn), h⟩
  | non => exact ⟨.non, .ty n, _, _, _, rfl, .ty n, .base .non, kit_ty (kitB_non n hn), h⟩
  | ref a =>
    rcases h with ⟨ys, hs, h⟩ | ⟨ys, hs, h⟩
    · exact ⟨.ref a, .ty n, _, _, _, rfl, .ty n, tyX_tup hs, kit_ty (kitB_tuple n hn), h⟩
    · exact ⟨.ref a, .ty n, _, _, _, rfl, .ty n, tyX_lst hs, kit_ty (kitB_list n hn), h⟩
  | byt _ => exact h.elim
  | flt _ => exact h.elim
  | ty _ => exact h.elim
section
variable {H : Hp} {Q : VK} {n : String} {K : PySem.W.Frag}
theorem a_isInt {i : Int} : rIs n K [.int i, .ty n] H Q = Q (.bl (isB "int" n)) H := propext ⟨fun ⟨x, e, h⟩ => by cases e; exact h, fun h => ⟨_, rfl, h⟩⟩
theorem a_isBl {i : Bool} : rIs n K [.bl i, .ty n] H Q = Q (.bl (isB "bool" n)) H := propext ⟨fun ⟨x, e, h⟩ => by cases e; exact h, fun h => ⟨_, rfl, h⟩⟩
theorem a_isStr {i : Str} : rIs n K [.str i, .ty n] H Q = Q (.bl (isB "str" n)) H := propext ⟨fun ⟨x, e, h⟩ => by cases e; exact h, fun h => ⟨_, rfl, h⟩⟩
theorem a_isNon : rIs n K [.non, .ty n] H Q = Q (.bl (isB "NoneType" n)) H := propext ⟨fun ⟨x, e, h⟩ => by cases e; exact h, fun h => ⟨_, rfl, h⟩⟩
theorem a_isRef {a : Addr} : rIs n K [.ref a, .ty n] H Q = ((∃ xs, SqT K H a xs ∧ Q (.bl (isB "tuple" n)) H) ∨ (∃ xs, SqL K H a xs ∧ Q (.bl (isB "list" n)) H)) := propext ⟨fun ⟨x, e, h⟩ => by cases e; exact h, fun h => ⟨_, rfl, h⟩⟩
theorem isB_tt : isB "tuple" "tuple" = true := rfl
theorem isB_ii : isB "int" "int" = true := rfl
theorem isB_ib : isB "int" "bool" = false := rfl
theorem isB_bb : isB "bool" "bool" = true := rfl
theorem isB_bi : isB "bool" "int" = true := rfl
theorem isB_ll : isB "list" "list" = true := rfl
theorem isB_lt : isB "list" "tuple" = false := rfl
theorem isB_tl : isB "tuple" "list" = false := rfl
theorem isB_ss : isB "str" "str" = true := rfl
theorem isB_st : isB "str" "tuple" = false := rfl
theorem isB_sl : isB "str" "list" = false := rfl
theorem isB_nt : isB "NoneType" "tuple" = false := rfl
theorem isB_nl : isB "NoneType" "list" = false := rfl
end

/-! ### len, list(..) of lists and tuples, by either -/
def rLenQ (K : PySem.W.Frag) : List V → Hp → VK → Prop := fun xs H Q => ∃ p ys, xs = [.ref p] ∧ (SqL K H p ys ∨ SqT K H p ys) ∧ Q (.int ys.length) H
def rListQ (K : PySem.W.Frag) : List V → Hp → VK → Prop := fun xs H Q => ∃ p ys, xs = [.ref p] ∧ (SqL K H p ys ∨ SqT K H p ys) ∧ ∀ l, H l = none → Q (.ref l) (upd H l (.lst ys))
section
variable {X : Cx} {H : Hp} {Q : VK} {K : PySem.W.Frag} {p : Addr}
theorem call_lenQ : CallR X (.builtin "len") (rLenQ X.K) := call_len_seq
theorem call_listQ : CallR X (.type "list") (rListQ X.K) := call_list_of
theorem a_lenQ : rLenQ K [.ref p] H Q = ∃ ys, (SqL K H p ys ∨ SqT K H p ys) ∧ Q (.int ys.length) H := propext ⟨fun ⟨_, ys, e, h⟩ => by cases e; exact ⟨ys, h⟩, fun ⟨ys, h⟩ => ⟨p, ys, rfl, h⟩⟩
theorem a_listQ : rListQ K [.ref p] H Q = ∃ ys, (SqL K H p ys ∨ SqT K H p ys) ∧ NewO H (.lst ys) Q := propext ⟨fun ⟨_, ys, e, h⟩ => by cases e; exact ⟨ys, h⟩, fun ⟨ys, h⟩ => ⟨p, ys, rfl, h⟩⟩
theorem a_sl {r : V → Option Int → Option Int → Hp → VK → Prop} {te : TE} {tl th : TO} {σ : L2.St} : tSl r te tl th σ H Q = te σ H fun x H1 => tl σ H1 fun l H2 => th σ H2 fun u H3 => r x l u H3 Q := rfl
theorem a_noPart {σ : L2.St} {q : Option Int → Hp → Prop} : tNoPart σ H q = q none H := rfl
theorem a_part {σ : L2.St} {q : Option Int → Hp → Prop} {te : TE} : tPart te σ H q = te σ H fun x H1 => ∃ i, x = .int i ∧ q (some i) H1 := rfl
theorem a_slL {x : V} {lo hi : Option Int} : rSlL K x lo hi H Q = ∃ a xs, x = .ref a ∧ SqL K H a xs ∧ ∀ p, H p = none → Q (.ref p) (upd H p (.lst (cutV xs lo hi))) := rfl
theorem a_cat {x y : V} : rCat x y H Q = ∃ l b xs zs, x = .ref l ∧ y = .ref b ∧ H l = some (.lst xs) ∧ H b = some (.lst zs) ∧ xs.length + zs.length ≤ sizeLine ∧ ∀ p, H p = none → Q (.ref p) (upd H p (.lst (xs ++ zs))) := rfl
theorem a_bm {T : String} {r : V → List V → Hp → VK → Prop} {to : TE} {t : TA} {σ : L2.St} : tBM K T r to t σ H Q = to σ H fun x H1 => tyV K T x H1 ∧ t σ H1 fun xs H2 => r x xs H2 Q := rfl
theorem a_bm0 {T : String} {r : V → List V → Hp → VK → Prop} {to : TE} {σ : L2.St} : tBM0 K T r to σ H Q = to σ H fun x H1 => tyV K T x H1 ∧ r x [] H1 Q := rfl
theorem a_append {x : V} {vs : List V} : rAppend x vs H Q = ∃ l xs y, x = .ref l ∧ vs = [y] ∧ H l = some (.lst xs) ∧ xs.length < sizeLine ∧ Q .non (upd H l (.lst (xs ++ [y]))) := rfl
theorem tyV_lst {xs : List V} (h : SqL K H p xs) : tyV K "list" (.ref p) H := .inl ⟨rfl, _, h⟩
end

/-! ### a new object, a changed one: the heap behind it by what is known of it -/
theorem new_o {H : Hp} {o : HO} {Q : VK} (h : ∀ p H1, H p = none → Same H H1 → H1 p = some o → Q (.ref p) H1) : NewO H o Q := fun p hp => h p _ hp (Same.new hp) upd_same
theorem wr_o {H : Hp} {a : Addr} {o u : HO} {R : Hp → Prop} (ha : H a = some u) (ht : ¬ tupO u) (h : ∀ H1, Frm (fun b => b = a) H H1 → H1 a = some o → R H1) : WrO H a o R := h _ (Frm.upd ha ht) upd_same
theorem _root_.L2.Same.frm {M : Addr → Prop} {H0 H H1 : Hp} (e : Same H0 H) (f : Frm M H H1) (h : ∀ a, M a → H0 a = none) : Same H0 H1 := fun a o ha => f a o (e a o ha) fun m => by rw [h a m] at ha; cases ha
theorem _root_.L2.Same.frm1 {H0 H H1 : Hp} {p : Addr} (e : Same H0 H) (f : Frm (fun b => b = p) H H1) (h : H0 p = none) : Same H0 H1 := e.frm f fun a m => by rw [m]; exact h
theorem _root_.L2.Same.mut {H0 H : Hp} {p : Addr} {o : HO} (e : Same H0 H) (h : H0 p = none) : Same H0 (upd H p o) := fun a u ha => by
  rw [upd_ne (ne_of_none ha h)]
  exact e a u ha
theorem sz_of {n : Nat} (h : n ≤ 100000) : n ≤ sizeLine := Nat.le_trans h (by decide)
theorem sz_lt {n : Nat} (h : n < 100000) : n < sizeLine := Nat.lt_of_lt_of_le h (by decide)
theorem sz_small {n : Nat} (h : n ≤ 1000 := by decide) : n ≤ sizeLine := sz_of (Nat.le_trans h (by decide))
theorem get_map {α β : Type} {f : α → β} {l : List α} {i : Nat} {y : β} (h : (l.map f)[i]? = some y) : ∃ x, l[i]? = some x ∧ y = f x := by
  rw [List.getElem?_map] at h
  cases e : l[i]? with
  | none => rw [e] at h; cases h
  | some x => rw [e] at h; exact ⟨x, rfl, (Option.some.inj h).symm⟩
theorem get_lt {α : Type} {l : List α} {i : Nat} {x : α} (h : l[i]? = some x) : i < l.length := (List.getElem?_eq_some_iff.mp h).1
/-! ### the script's cells -/
def cellAt (ns : List Int) (k : Int) : Int := ns.getD k.toNat 0
theorem cell_at {ns : List Int} {k : Int} (h0 : 0 ≤ k) (h1 : k < ns.length) : atI (ns.map V.int) k = some (.int (cellAt ns k)) := by
  obtain ⟨j, rfl⟩ : ∃ j : Nat, k = (j : Int) := ⟨k.toNat, by omega⟩
  have hl : j < ns.length := by omega
  refine atI_nat ?_
  rw [List.getElem?_map, List.getElem?_eq_getElem hl]
  show some (V.int ns[j]) = some (V.int (cellAt ns j))
  unfold cellAt
  rw [List.getD_eq_getElem?_getD, Int.toNat_natCast, List.getElem?_eq_getElem hl]
  rfl
theorem cell_out {ns : List Int} {k : Int} (h0 : 0 ≤ k) (h1 : ¬ k < ns.length) : cellAt ns k = 0 := by
  have hl : ns.length ≤ k.toNat := by omega
  unfold cellAt
  rw [List.getD_eq_getElem?_getD, List.getElem?_eq_none hl]
  rfl

/-! ### operations at values of known kind -/
section
variable {H : Hp} {Q : VK} {K : PySem.W.Frag} {a b p : Addr} {i j k : Int} {x y v : V} {xs ys : List V} {s z : Str} {c d : Bool} {QT : Bool → Hp → Prop}
theorem b_I0 {f : Int → Int → V} : rI0 f (.int i) (.int j) H Q = Q (f i j) H := propext ⟨fun ⟨_, _, e1, e2, h⟩ => by cases e1; cases e2; exact h, fun h => ⟨_, _, rfl, rfl, h⟩⟩
theorem b_I {C : Int → Int → Prop} {f : Int → Int → V} : rI C f (.int i) (.int j) H Q = (C i j ∧ Q (f i j) H) := propext ⟨fun ⟨_, _, e1, e2, h⟩ => by cases e1; cases e2; exact h, fun h => ⟨_, _, rfl, rfl, h⟩⟩
theorem b_U {f : Int → V} : rU f (.int i) H Q = Q (f i) H := propext ⟨fun ⟨_, e1, h⟩ => by cases e1; exact h, fun h => ⟨_, rfl, h⟩⟩
theorem b_eqI : rEq (.int i) (.int j) H Q = Q (.bl (decide (i = j))) H := propext ⟨fun ⟨_, h⟩ => by rw [dec_int, Bool.beq_eq_decide_eq] at h; exact h, fun h => ⟨rfl, by rw [dec_int, Bool.beq_eq_decide_eq]; exact h⟩⟩
theorem b_neI : rNe (.int i) (.int j) H Q = Q (.bl (!decide (i = j))) H := propext ⟨fun ⟨_, h⟩ => by rw [dec_int, Bool.beq_eq_decide_eq] at h; exact h, fun h => ⟨rfl, by rw [dec_int, Bool.beq_eq_decide_eq]; exact h⟩⟩
theorem b_eqS : rEq (.str s) (.str z) H Q = Q (.bl (decide (s = z))) H := propext ⟨fun ⟨_, h⟩ => by rw [dec_str, Bool.beq_eq_decide_eq] at h; exact h, fun h => ⟨rfl, by rw [dec_str, Bool.beq_eq_decide_eq]; exact h⟩⟩
theorem b_neS : rNe (.str s) (.str z) H Q = Q (.bl (!decide (s = z))) H := propext ⟨fun ⟨_, h⟩ => by rw [dec_str, Bool.beq_eq_decide_eq] at h; exact h, fun h => ⟨rfl, by rw [dec_str, Bool.beq_eq_decide_eq]; exact h⟩⟩
theorem b_eqB : rEq (.bl c) (.bl d) H Q = Q (.bl (decide (c = d))) H := propext ⟨fun ⟨_, h⟩ => by rw [dec_bl, Bool.beq_eq_decide_eq] at h; exact h, fun h => ⟨rfl, by rw [dec_bl, Bool.beq_eq_decide_eq]; exact h⟩⟩
theorem b_neB : rNe (.bl c) (.bl d) H Q = Q (.bl (!decide (c = d))) H := propext ⟨fun ⟨_, h⟩ => by rw [dec_bl, Bool.beq_eq_decide_eq] at h; exact h, fun h => ⟨rfl, by rw [dec_bl, Bool.beq_eq_decide_eq]; exact h⟩⟩
theorem b_ixL : rIxL K (.ref a) (.int k) H Q = ∃ xs v, SqL K H a xs ∧ atI xs k = some v ∧ Q v H := propext ⟨fun ⟨_, xs, _, v, e1, e2, h⟩ => by cases e1; cases e2; exact ⟨xs, v, h⟩, fun ⟨xs, v, h⟩ => ⟨_, xs, _, v, rfl, rfl, h⟩⟩
theorem b_ixT : rIxT K (.ref a) (.int k) H Q = ∃ xs v, SqT K H a xs ∧ atI xs k = some v ∧ Q v H := propext ⟨fun ⟨_, xs, _, v, e1, e2, h⟩ => by cases e1; cases e2; exact ⟨xs, v, h⟩, fun ⟨xs, v, h⟩ => ⟨_, xs, _, v, rfl, rfl, h⟩⟩
theorem b_slL {lo hi : Option Int} : rSlL K (.ref a) lo hi H Q = ∃ xs, SqL K H a xs ∧ NewO H (.lst (cutV xs lo hi)) Q := propext ⟨fun ⟨_, xs, e1, h⟩ => by cases e1; exact ⟨xs, h⟩, fun ⟨xs, h⟩ => ⟨_, xs, rfl, h⟩⟩
theorem b_cat : rCat (.ref a) (.ref b) H Q = ∃ xs zs, H a = some (.lst xs) ∧ H b = some (.lst zs) ∧ xs.length + zs.length ≤ sizeLine ∧ NewO H (.lst (xs ++ zs)) Q :=
  propext ⟨fun ⟨_, _, xs, zs, e1, e2, h⟩ => by cases e1; cases e2; exact ⟨xs, zs, h⟩, fun ⟨xs, zs, h⟩ => ⟨_, _, xs, zs, rfl, rfl, h⟩⟩
theorem b_append : rAppend (.ref a) [v] H Q = ∃ xs, H a = some (.lst xs) ∧ xs.length < sizeLine ∧ WrO H a (.lst (xs ++ [v])) (Q .non) := propext ⟨fun ⟨_, xs, _, e1, e2, h⟩ => by cases e1; cases e2; exact ⟨xs, h⟩, fun ⟨xs, h⟩ => ⟨_, xs, _, rfl, rfl, h⟩⟩
theorem b_tyL : tyV K "list" (.ref p) H = ∃ xs, SqL K H p xs := propext ⟨fun h => by
  rcases h with ⟨_, h⟩ | ⟨e, _⟩ | ⟨e, _⟩ | ⟨e, _⟩
  · exact h
  · exact absurd e (by decide)
  · exact absurd e (by decide)
  · exact absurd e (by decide), fun h => .inl ⟨rfl, h⟩⟩
theorem b_bl {P : Bool → Prop} : (∃ e, V.bl c = V.bl e ∧ P e) = P c := propext ⟨fun ⟨_, e1, h⟩ => by cases e1; exact h, fun h => ⟨_, rfl, h⟩⟩
theorem b_int {P : Int → Prop} : (∃ e, V.int i = V.int e ∧ P e) = P i := propext ⟨fun ⟨_, e1, h⟩ => by cases e1; exact h, fun h => ⟨_, rfl, h⟩⟩
theorem b_some {α : Type} {x : α} {P : α → Prop} : (∃ e, some x = some e ∧ P e) = P x := propext ⟨fun ⟨_, e1, h⟩ => by cases e1; exact h, fun h => ⟨_, rfl, h⟩⟩
theorem b_some2 {α : Type} {x : α} {P : α → Prop} : (∃ e, some (some x) = some (some e) ∧ P e) = P x := propext ⟨fun ⟨_, e1, h⟩ => by cases e1; exact h, fun h => ⟨_, rfl, h⟩⟩
theorem b_at0 : atI (x :: xs) 0 = some x := atI_nat (j := 0) rfl
theorem b_at1 : atI (x :: y :: xs) 1 = some y := atI_nat (j := 1) rfl
theorem b_at2 {z : V} : atI (x :: y :: z :: xs) 2 = some z := atI_nat (j := 2) rfl
theorem b_at3 {z w : V} : atI (x :: y :: z :: w :: xs) 3 = some w := atI_nat (j := 3) rfl
theorem b_at4 {z w v : V} : atI (x :: y :: z :: w :: v :: xs) 4 = some v := atI_nat (j := 4) rfl
end

/-! ### loops -/
section
variable {σ : L2.St} {H : Hp} {Q : VK} {D : Ends} {K : PySem.W.Frag} {a b p : Addr} {i j k : Int} {x y v : V} {xs ys : List V} {g : TG} {tb : TS} {te : TE} {tt : TT} {ta : TA} {wi : TI} {J : It} {vs : List Nat} {R : It → Hp → Prop}
def Loop (J : It) (g : TG) (tb : TS) (D : Ends) (σ : L2.St) (H : Hp) : Prop := ∃ W : Nat → Nat → L2.St → Hp → Prop, (∃ m, W 0 m σ H) ∧ ∀ i m σ H, W i m σ H →
  (J.stop i H ∧ D.nx σ H) ∨ (J.go i H ∧ ∃ N : L2.St → Hp → Prop, (∀ σ' H', N σ' H' → ∃ m', m' < m ∧ W (i + 1) m' σ' H') ∧ ∀ x H', J.yld i H x H' → g x σ H' fun σ2 H2 => tb { D with nx := N, ct := N, bk := D.nx } σ2 H2)
theorem a_for : tFor wi g tb D σ H = wi σ H fun J H1 => Loop J g tb D σ H1 := rfl
def LoopC (J : It) (g : TG) (tt : TT) (te : TE) (vs : List Nat) (σ : L2.St) (Q : VK) (H1 : Hp) : Prop := ∀ D, H1 D = none → ∃ W : Nat → Nat → Hp → Prop, (∃ m, W 0 m (upd H1 D (.lst []))) ∧ ∀ i m H, W i m H →
  (J.stop i H ∧ Q (.ref D) H) ∨ (J.go i H ∧ ∃ Nx : Hp → Prop, (∀ H', Nx H' → ∃ m', m' < m ∧ W (i + 1) m' H') ∧ ∀ x H', J.yld i H x H' → g x (wipe σ vs) H' fun σ2 H2 => wipe σ2 vs = wipe σ vs ∧ tt σ2 H2 fun b H3 =>
    if b = true then te σ2 H3 fun y H4 => ∃ acc, H4 D = some (.lst acc) ∧ acc.length < sizeLine ∧ Nx (upd H4 D (.lst (acc ++ [y]))) else Nx H3)
theorem a_lc : tLc wi g tt te vs σ H Q = wi σ H fun J H1 => LoopC J g tt te vs σ Q H1 := rfl
theorem a_iList {tl : TE} : iList K tl σ H R = tl σ H fun x H1 => ∃ a, x = .ref a ∧ (∃ xs, SqL K H1 a xs) ∧ R (Itl K a) H1 := rfl
theorem a_iTup {tl : TE} : iTup K tl σ H R = tl σ H fun x H1 => ∃ a, x = .ref a ∧ (∃ xs, SqT K H1 a xs) ∧ R (Itt K a) H1 := rfl
theorem a_iRng1 : iRng1 ta σ H R = ta σ H fun vs H1 => ∃ j : Int, vs = [.int j] ∧ -(2 ^ 62) ≤ j ∧ j < 2 ^ 62 ∧ R (Itr 0 j.toNat) H1 := rfl
theorem a_iRng2 : iRng2 ta σ H R = ta σ H fun vs H1 => ∃ i j : Int, vs = [.int i, .int j] ∧ (-(2 ^ 62) ≤ i ∧ i < 2 ^ 62 ∧ -(2 ^ 62) ≤ j ∧ j < 2 ^ 62) ∧ R (Itr i (j - i).toNat) H1 := rfl
theorem a_iRng3 : iRng3 ta σ H R = ta σ H fun vs H1 => ∃ (i j c : Int) (n : Nat), vs = [.int i, .int j, .int c] ∧ RgC i j c n ∧ R (Itc i c n) H1 := rfl
theorem a_iZip : iZip K ta σ H R = ta σ H fun vs H1 => ∃ a b xs ys, vs = [.ref a, .ref b] ∧ SqL K H1 a xs ∧ SqL K H1 b ys ∧ R (Itz K a b) H1 := rfl
theorem a_iEnum : iEnum K ta σ H R = ta σ H fun vs H1 => ∃ a xs, vs = [.ref a] ∧ SqL K H1 a xs ∧ R (Ite K a) H1 := rfl
theorem a_iStr : iStr te σ H R = te σ H fun v H1 => ∃ x, v = .str x ∧ R (Its x) H1 := rfl
theorem b_rng1 {P : Int → Prop} : (∃ e : Int, [V.int i] = [V.int e] ∧ P e) = P i := propext ⟨fun ⟨_, e1, h⟩ => by cases e1; exact h, fun h => ⟨_, rfl, h⟩⟩
theorem b_rng2 {P : Int → Int → Prop} : (∃ e f : Int, [V.int i, V.int j] = [V.int e, V.int f] ∧ P e f) = P i j := propext ⟨fun ⟨_, _, e1, h⟩ => by cases e1; exact h, fun h => ⟨_, _, rfl, h⟩⟩
theorem b_rng3 {P : Int → Int → Int → Nat → Prop} : (∃ (e f c : Int) (n : Nat), [V.int i, V.int j, V.int k] = [V.int e, V.int f, V.int c] ∧ P e f c n) = ∃ n, P i j k n := propext ⟨fun ⟨_, _, _, n, e1, h⟩ => by cases e1; exact ⟨n, h⟩, fun ⟨n, h⟩ => ⟨_, _, _, n, rfl, h⟩⟩
theorem b_zip {P : Addr → Addr → List V → List V → Prop} : (∃ (e f : Addr) (xs ys : List V), [V.ref a, V.ref b] = [V.ref e, V.ref f] ∧ P e f xs ys) = ∃ xs ys, P a b xs ys := propext ⟨fun ⟨_, _, xs, ys, e1, h⟩ => by cases e1; exact ⟨xs, ys, h⟩, fun ⟨xs, ys, h⟩ => ⟨_, _, xs, ys, rfl, h⟩⟩
theorem b_enum {P : Addr → List V → Prop} : (∃ (e : Addr) (xs : List V), [V.ref a] = [V.ref e] ∧ P e xs) = ∃ xs, P a xs := propext ⟨fun ⟨_, xs, e1, h⟩ => by cases e1; exact ⟨xs, h⟩, fun ⟨xs, h⟩ => ⟨_, xs, rfl, h⟩⟩
theorem b_ref {P : Addr → Prop} : (∃ e : Addr, V.ref a = V.ref e ∧ P e) = P a := propext ⟨fun ⟨_, e1, h⟩ => by cases e1; exact h, fun h => ⟨_, rfl, h⟩⟩
theorem b_str {z : Str} {P : Str → Prop} : (∃ e : Str, V.str z = V.str e ∧ P e) = P z := propext ⟨fun ⟨_, e1, h⟩ => by cases e1; exact h, fun h => ⟨_, rfl, h⟩⟩
theorem b_gTup {n : Nat} {t : TGs} {q : L2.St → Hp → Prop} : gTup K n t (.ref a) σ H q = ∃ xs, SqT K H a xs ∧ xs.length = n ∧ t xs σ H q := propext ⟨fun ⟨_, xs, e1, h⟩ => by cases e1; exact ⟨xs, h⟩, fun ⟨xs, h⟩ => ⟨_, xs, rfl, h⟩⟩
theorem b_gCons {t : TG} {u : TGs} {q : L2.St → Hp → Prop} : gCons t u (x :: xs) σ H q = t x σ H fun σ' H' => u xs σ' H' q := propext ⟨fun ⟨_, _, e1, h⟩ => by cases e1; exact h, fun h => ⟨_, _, rfl, h⟩⟩
theorem b_gNil {q : L2.St → Hp → Prop} : gNil [] σ H q = q σ H := propext ⟨fun h => h.2, fun h => ⟨rfl, h⟩⟩
theorem a_yes {QT : Bool → Hp → Prop} : tYes σ H QT = QT true H := rfl
theorem a_wipe0 : wipe σ [] = σ := rfl
theorem a_wipe1 {n : Nat} {ns : List Nat} : wipe σ (n :: ns) = (wipe σ ns).set n none := rfl
theorem loop_list (Pv : Nat → L2.St → Hp → Prop) (h0 : Pv 0 σ H) (hl : ∀ i σ H, i ≤ xs.length → Pv i σ H → SqL K H a xs)
    (hs : ∀ i x σ H, xs[i]? = some x → Pv i σ H → g x σ H fun σ2 H2 => tb { D with nx := Pv (i + 1), ct := Pv (i + 1), bk := D.nx } σ2 H2) (hd : ∀ σ H, Pv xs.length σ H → D.nx σ H) : Loop (Itl K a) g tb D σ H := for_list Pv h0 hl hs hd
theorem loop_tup (Pv : Nat → L2.St → Hp → Prop) (h0 : Pv 0 σ H) (hl : ∀ i σ H, i ≤ xs.length → Pv i σ H → SqT K H a xs)
    (hs : ∀ i x σ H, xs[i]? = some x → Pv i σ H → g x σ H fun σ2 H2 => tb { D with nx := Pv (i + 1), ct := Pv (i + 1), bk := D.nx } σ2 H2) (hd : ∀ σ H, Pv xs.length σ H → D.nx σ H) : Loop (Itt K a) g tb D σ H := for_tup Pv h0 hl hs hd
theorem loop_range {lo : Int} {n : Nat} (Pv : Nat → L2.St → Hp → Prop) (h0 : Pv 0 σ H)
    (hs : ∀ i σ H, i < n → Pv i σ H → g (.int (lo + i)) σ H fun σ2 H2 => tb { D with nx := Pv (i + 1), ct := Pv (i + 1), bk := D.nx } σ2 H2) (hd : ∀ σ H, Pv n σ H → D.nx σ H) : Loop (Itr lo n) g tb D σ H := for_range Pv h0 hs hd
theorem loop_rangeC {lo c : Int} {n : Nat} (Pv : Nat → L2.St → Hp → Prop) (h0 : Pv 0 σ H)
    (hs : ∀ i σ H, i < n → Pv i σ H → g (.int (lo + (i : Nat) * c)) σ H fun σ2 H2 => tb { D with nx := Pv (i + 1), ct := Pv (i + 1), bk := D.nx } σ2 H2) (hd : ∀ σ H, Pv n σ H → D.nx σ H) : Loop (Itc lo c n) g tb D σ H := for_rangeC Pv h0 hs hd
theorem loop_zip (hl : xs.length = ys.length) (Pv : Nat → L2.St → Hp → Prop) (h0 : Pv 0 σ H) (hq : ∀ i σ H, Pv i σ H → SqL K H a xs ∧ SqL K H b ys)
    (hs : ∀ (i : Nat) (x y : V) (T : Addr) (σ : L2.St) (H H' : Hp), xs[i]? = some x → ys[i]? = some y → Pv i σ H → H T = none → Same H H' → H' T = some (.tup [x, y]) → g (.ref T) σ H' fun σ2 H2 => tb { D with nx := Pv (i + 1), ct := Pv (i + 1), bk := D.nx } σ2 H2) (hd : ∀ σ H, Pv xs.length σ H → D.nx σ H) :
    Loop (Itz K a b) g tb D σ H := RZ.for_zipL hl Pv h0 hq (fun i x y T σ H hx hy hp hT => hs i x y T σ H _ hx hy hp hT (Same.new hT) upd_same) hd
/-- a range's turns by a step of c -/
theorem rgc_of {i j c : Int} (hc : 0 < c) (hc2 : c < 1000) (hi : 0 ≤ i) (hi2 : i < 1000) (hj : -1000 < j) (hj2 : j < 1000) : ∃ n, RgC i j c n ∧ n ≤ 1000 ∧ ∀ m : Nat, m < n → i + m * c < j ∧ 0 ≤ (m : Int) * c := by
  have key : ∀ q : Int, 0 ≤ q → 0 ≤ q / c ∧ q / c * c ≤ q ∧ q / c ≤ q := fun q hq => by
    refine ⟨Int.ediv_nonneg hq (by omega), ?_, ?_⟩
    · exact Int.ediv_mul_le q (by omega)
    · exact Int.ediv_le_self c hq
  by_cases h : i < j
  · obtain ⟨k1, k2, k3⟩ := key (j - i - 1) (by omega)
    have e : Builtin.Range.rangeSize i j c = (j - i - 1) / c + 1 := by
      unfold Builtin.Range.rangeSize
      rw [if_pos (show c > 0 from hc), if_pos h]
    refine ⟨((j - i - 1) / c + 1).toNat, ⟨by omega, by omega, ?_, ?_⟩, by omega, fun m hm => ?_⟩
    · unfold Builtin.Range.small
      rw [e]
      simp only [Builtin.Range.rangeFitsLong, Bool.and_eq_true, Bool.or_eq_true, decide_eq_true_eq, beq_iff_eq, show c > 0 from hc, if_true]
      omega
    · rw [e]; omega
    · have h1 : (m : Int) ≤ (j - i - 1) / c := by omega
      have h2 : (m : Int) * c ≤ (j - i - 1) / c * c := Int.mul_le_mul_of_nonneg_right h1 (by omega)
      exact ⟨by omega, Int.mul_nonneg (by omega) (by omega)⟩
  · have e : Builtin.Range.rangeSize i j c = 0 := by
      unfold Builtin.Range.rangeSize
      rw [if_pos (show c > 0 from hc), if_neg h]
    refine ⟨0, ⟨by omega, by omega, ?_, ?_⟩, by omega, fun m hm => absurd hm (Nat.not_lt_zero m)⟩
    · unfold Builtin.Range.small
      rw [e]
      simp only [Builtin.Range.rangeFitsLong, Bool.and_eq_true, Bool.or_eq_true, decide_eq_true_eq, beq_iff_eq, show c > 0 from hc, if_true]
      omega
    · rw [e]; rfl
end
/-! ### comprehensions over data -/
section
variable {σ : L2.St} {H : Hp} {Q : VK} {K : PySem.W.Frag} {a : Addr} {xs : List V} {g : TG} {tt : TT} {te : TE} {vs : List Nat} {α β : Type} [DecidableEq α] [PySem.W.Datum α] [DecidableEq β] [PySem.W.Datum β] [Flat β]
open PySem.W (Datum)
/-- over a list of data: each kept element is F of the item -/
theorem comp_list (as : List α) (F : α → β) (keep : α → Bool) (hs : SqL K H a xs) (hv : DvL K H xs as) (hz : as.length ≤ 100000)
    (el : ∀ (v : V) (x : α) (H' : Hp), Same H H' → Dv K H' v x → x ∈ as → ∀ (R : Bool → VK) (R0 : Hp → Prop), (∀ y H'', keep x = true → Same H' H'' → Dv K H'' y (F x) → R true y H'') → (∀ H'', keep x = false → Same H' H'' → R0 H'') →
      g v (wipe σ vs) H' fun σ2 H2 => wipe σ2 vs = wipe σ vs ∧ tt σ2 H2 fun b H3 => if b = true then te σ2 H3 (R true) else R0 H3)
    (hd : ∀ D ys H', H D = none → Same H H' → H' D = some (.lst ys) → DvL K H' ys ((as.filter keep).map F) → Q (.ref D) H') : LoopC (Itl K a) g tt te vs σ Q H := by
  intro D hD
  refine lc_list (K := K) (a := a) (xs := xs) (fun i H' => Same H H' ∧ ∃ ys, H' D = some (.lst ys) ∧ DvL K H' ys (((as.take i).filter keep).map F)) ⟨Same.new hD, [], upd_same, ?_⟩ (fun i H' _ h => h.1.seq hs) ?_ ?_
  · rw [List.take_zero, List.filter_nil, List.map_nil]
    exact .nil
  · rintro i v H' hi ⟨s1, ys, h1, h2⟩
    obtain ⟨x, hx, dx⟩ := hv.at hi
    have hl := get_lt hx
    have et : as.take (i + 1) = as.take i ++ [x] := by rw [List.take_add_one, hx]; rfl
    refine el v x H' s1 (dx.same s1) (List.mem_of_getElem? hx) (fun b y H4 => ∃ acc, H4 D = some (.lst acc) ∧ acc.length < sizeLine ∧ (Same H (upd H4 D (.lst (acc ++ [y]))) ∧ ∃ ys, (upd H4 D (.lst (acc ++ [y]))) D = some (.lst ys) ∧ DvL K (upd H4 D (.lst (acc ++ [y]))) ys (((as.take (i + 1)).filter keep).map F)))
      (fun H4 => Same H H4 ∧ ∃ ys, H4 D = some (.lst ys) ∧ DvL K H4 ys (((as.take (i + 1)).filter keep).map F)) (fun y H4 hk s2 dy => ?_) (fun H4 hk s2 => ?_)
    · have hn := h2.length
      have hb : ys.length ≤ i := by
        rw [hn, List.length_map]
        exact Nat.le_trans (List.length_filter_le _ _) (by rw [List.length_take]; omega)
      refine ⟨ys, s2 _ _ h1, sz_lt (by omega), (s1.trans s2).mut hD, ys ++ [y], upd_same, ?_⟩
      rw [et, List.filter_append, List.map_append, List.filter_cons_of_pos hk]
      have s3 : Frm (fun b => b = D) H4 (upd H4 D (.lst (ys ++ [y]))) := Frm.upd (s2 _ _ h1) (fun z => z)
      exact ((h2.same s2).frm s3).snoc (dy.frm s3)
    · refine ⟨s1.trans s2, ys, s2 _ _ h1, ?_⟩
      rw [et, List.filter_append, List.filter_cons_of_neg (by rw [hk]; exact Bool.false_ne_true), List.filter_nil, List.append_nil]
      exact h2.same s2
  · rintro H' ⟨s1, ys, h1, h2⟩
    rw [List.take_of_length_le (by rw [hv.length]; exact Nat.le_refl _)] at h2
    exact hd D ys H' hD s1 h1 h2
/-- over a range: the i-th element is f i -/
theorem comp_range {lo : Int} {n : Nat} (f : Nat → β) (hz : n ≤ 100000)
    (el : ∀ (i : Nat) (H' : Hp), i < n → Same H H' → ∀ (R : VK), (∀ y H'', Same H' H'' → Dv K H'' y (f i) → R y H'') →
      g (.int (lo + i)) (wipe σ vs) H' fun σ2 H2 => wipe σ2 vs = wipe σ vs ∧ te σ2 H2 R)
    (hd : ∀ D ys H', H D = none → Same H H' → H' D = some (.lst ys) → DvL K H' ys ((List.range n).map f) → Q (.ref D) H') : LoopC (Itr lo n) g tYes te vs σ Q H := by
  intro D hD
  refine lc_range (lo := lo) (n := n) (fun i H' => Same H H' ∧ ∃ ys, H' D = some (.lst ys) ∧ DvL K H' ys ((List.range i).map f)) ⟨Same.new hD, [], upd_same, .nil⟩ ?_ ?_
  · rintro i H' hi ⟨s1, ys, h1, h2⟩
    refine el i H' hi s1 (fun y H4 => ∃ acc, H4 D = some (.lst acc) ∧ acc.length < sizeLine ∧ (Same H (upd H4 D (.lst (acc ++ [y]))) ∧ ∃ ys, (upd H4 D (.lst (acc ++ [y]))) D = some (.lst ys) ∧ DvL K (upd H4 D (.lst (acc ++ [y]))) ys ((List.range (i + 1)).map f))) fun y H4 s2 dy => ?_
    have hn := h2.length
    rw [List.length_map, List.length_range] at hn
    refine ⟨ys, s2 _ _ h1, sz_lt (by omega), (s1.trans s2).mut hD, ys ++ [y], upd_same, ?_⟩
    have s3 : Frm (fun b => b = D) H4 (upd H4 D (.lst (ys ++ [y]))) := Frm.upd (s2 _ _ h1) (fun z => z)
    rw [List.range_succ, List.map_append]
    exact ((h2.same s2).frm s3).snoc (dy.frm s3)
  · rintro H' ⟨s1, ys, h1, h2⟩
    exact hd D ys H' hD s1 h1 h2
end
theorem cx_K {CX : CXT} {P : Program} {w : World} {K : PySem.W.Frag} {mg : Str → Option Value} {base : Heap} {N : List Str} {qual : Str} {scope : Scope} {f : Addr} {cd : Value} {A : Around} {outer : List Env} {s : Shared} {H : Hp} {E : XK} :
    (cxOf CX P w K mg base N qual scope f cd A outer s H E).K = K := rfl
/-! ### odds -/
theorem cutV_drop {xs : List V} {k : Nat} : cutV xs (some (k : Int)) none = xs.drop k := by
  unfold cutV
  rw [HT.sIx_nat, HT.sIx_none, List.take_of_length_le (by rw [List.length_drop]; omega)]
  by_cases h : k ≤ xs.length
  · rw [Nat.min_eq_left h]
  · rw [Nat.min_eq_right (by omega), List.drop_eq_nil_of_le (Nat.le_refl _), List.drop_eq_nil_of_le (by omega)]
theorem cutV_take {xs : List V} {k : Nat} : cutV xs none (some (k : Int)) = xs.take k := by
  unfold cutV
  rw [HT.sIx_nat, HT.sIx_none, List.drop_zero, Nat.sub_zero]
  by_cases h : k ≤ xs.length
  · rw [Nat.min_eq_left h]
  · rw [Nat.min_eq_right (by omega), List.take_of_length_le (Nat.le_refl _), List.take_of_length_le (by omega)]
theorem pick2 (a b i : Int) : ∃ z, atI [V.int a, V.int b] (i % 2) = some (.int z) := by
  have h : i % 2 = 0 ∨ i % 2 = 1 := by omega
  rcases h with h | h <;> rw [h]
  · exact ⟨a, b_at0⟩
  · exact ⟨b, b_at1⟩
theorem pick3 (a b c i : Int) : ∃ z, atI [V.int a, V.int b, V.int c] (i % 3) = some (.int z) := by
  have h : i % 3 = 0 ∨ i % 3 = 1 ∨ i % 3 = 2 := by omega
  rcases h with h | h | h <;> rw [h]
  · exact ⟨a, b_at0⟩
  · exact ⟨b, b_at1⟩
  · exact ⟨c, b_at2⟩
end Y

set_option Elab.async false
set_option linter.all false
set_option maxRecDepth 100000
/-! Texts: parts at blanks, the cut at a colon, figures; a mail's text and what it tells. -/
namespace Tx
open PySem PySem.Builtin PySem.Builtin.Str
/-- parts at blanks -/
def sp : List Nat → List (List Nat)
  | [] => [[]]
  | c :: r => if c = 32 then [] :: sp r else match sp r with
    | [] => [[c]]
    | w :: ws => (c :: w) :: ws
theorem sp_ne (l : List Nat) : sp l ≠ [] := by
  cases l with
  | nil => simp [sp]
  | cons c r =>
    rw [sp]
    split
    · simp
    · split <;> simp
def hd (acc : List Nat) : List (List Nat) → List (List Nat)
  | [] => [acc]
  | w :: ws => (acc ++ w) :: ws
theorem spl_sp : ∀ (l acc : List Nat), TL.spl [32] 0 acc l = hd acc (sp l)
  | [], acc => by rw [TL.spl_nil]; simp [sp, hd]
  | c :: r, acc => by
    by_cases h : c = 32
    · subst h
      rw [TL.spl_hit (by rfl), sp, if_pos rfl]
      show acc :: TL.spl [32] 0 [] r = _
      rw [spl_sp r []]
      cases e : sp r with
      | nil => exact absurd e (sp_ne r)
      | cons w ws => simp [hd]
    · rw [TL.spl_miss (TL.pre_of_head _ _ h), spl_sp r, sp, if_neg h]
      cases e : sp r with
      | nil => exact absurd e (sp_ne r)
      | cons w ws => simp [hd]
open SX (S)
theorem split_sp (x : Str) : Txt.split x ⟨#[32]⟩ = (sp (TL.tl x)).map S := by
  refine TL.map_tl_inj ?_
  rw [TL.split_spl x _ (by simp) (TL.kind_ok (by simp))]
  show TL.spl [32] 0 [] (TL.tl x) = _
  rw [spl_sp]
  cases e : sp (TL.tl x) with
  | nil => exact absurd e (sp_ne _)
  | cons w ws =>
    simp only [hd, List.nil_append, List.map_map]
    rw [show (TL.tl ∘ S) = _root_.id from rfl, List.map_id]
/-- cut at the first colon with a blank behind it -/
def pa : List Nat → Option (List Nat × List Nat)
  | [] => none
  | c :: r => if c = 58 ∧ r.head? = some 32 then some ([], r.drop 1) else (pa r).map fun q => (c :: q.1, q.2)
theorem pre_two (c : Nat) (r : List Nat) : TL.pre [58, 32] (c :: r) = decide (c = 58 ∧ r.head? = some 32) := by
  unfold TL.pre
  cases r with
  | nil => simp
  | cons d r =>
    rw [Bool.eq_iff_iff]
    simp
theorem par_pa : ∀ (l acc : List Nat), TL.par [58, 32] acc l = (pa l).map fun q => (acc ++ q.1, q.2)
  | [], acc => rfl
  | c :: r, acc => by
    by_cases h : c = 58 ∧ r.head? = some 32
    · rw [TL.par_hit (by rw [pre_two, decide_eq_true h]), pa, if_pos h]
      simp
    · rw [TL.par_miss (by rw [pre_two, decide_eq_false h]), pa, if_neg h, par_pa r, Option.map_map]
      congr 1
      funext q
      simp
theorem partition_pa (x : Str) : Txt.partition x ⟨#[58, 32]⟩ = match pa (TL.tl x) with
    | some (a, b) => (S a, ⟨#[58, 32]⟩, S b)
    | none => (x, Str.empty, Str.empty) := by
  rw [TL.partition_par x _ (by simp)]
  show (match TL.par [58, 32] [] (TL.tl x) with | some (a, b) => _ | none => _) = _
  rw [par_pa]
  cases pa (TL.tl x) <;> simp
/-- the cut, told by the parts -/
def cut : List (List Nat) → Option (List (List Nat) × List (List Nat))
  | [] => none
  | w :: ws => if ws ≠ [] ∧ w.getLast? = some 58 then some ([w.dropLast], ws) else (cut ws).map fun q => (w :: q.1, q.2)
theorem pa_cut : ∀ l : List Nat, (pa l).map (fun q => (sp q.1, sp q.2)) = cut (sp l)
  | [] => by simp [pa, sp, cut]
  | c :: r => by
    have ih := pa_cut r
    by_cases h : c = 32
    · subst h
      rw [pa, if_neg (by simp), Option.map_map, sp, if_pos rfl, cut, if_neg (by simp), ← ih, Option.map_map]
      congr 1
    · rw [sp, if_neg h]
      by_cases k : c = 58 ∧ r.head? = some 32
      · obtain ⟨rfl, k⟩ := k
        cases r with
        | nil => simp at k
        | cons d r =>
          simp only [List.head?_cons, Option.some.injEq] at k
          subst k
          rw [pa, if_pos ⟨rfl, rfl⟩, sp, if_pos rfl]
          show _ = cut ([58] :: sp r)
          rw [cut, if_pos ⟨sp_ne r, rfl⟩]
          simp [sp]
      · rw [pa, if_neg k, Option.map_map]
        cases e : sp r with
        | nil => exact absurd e (sp_ne r)
        | cons w ws =>
          show _ = cut ((c :: w) :: ws)
          rw [e] at ih
          have hx : ∀ q : List Nat × List Nat, (sp (c :: q.1)) = hd [c] (sp q.1) := fun q => by
            rw [sp, if_neg h]
            cases sp q.1 <;> simp [hd]
          have e1 : Option.map ((fun q : List Nat × List Nat => (sp q.1, sp q.2)) ∘ fun q => (c :: q.1, q.2)) (pa r) = ((pa r).map (fun q => (sp q.1, sp q.2))).map fun q => (hd [c] q.1, q.2) := by
            rw [Option.map_map]
            congr 1
            funext q
            simp only [Function.comp]
            rw [hx]
          rw [e1, ih, cut, cut]
          by_cases hw : ws = []
          · subst hw
            rw [if_neg (by simp), if_neg (by simp)]
            simp [cut]
          · cases w with
            | nil =>
              have hr : r.head? = some 32 := by
                cases r with
                | nil => simp [sp] at e; exact absurd e hw
                | cons d r =>
                  rw [sp] at e
                  by_cases hd32 : d = 32
                  · rw [hd32]; rfl
                  · rw [if_neg hd32] at e
                    split at e <;> simp at e
              have hc : c ≠ 58 := fun z => k ⟨z, hr⟩
              rw [if_neg (by simp), if_neg (by simp [hc]), Option.map_map]
              congr 1
            | cons d w =>
              have hg : (c :: d :: w).getLast? = (d :: w).getLast? := by simp
              rw [hg]
              by_cases g : (d :: w).getLast? = some 58
              · rw [if_pos ⟨hw, g⟩, if_pos ⟨hw, g⟩]
                simp [hd]
              · rw [if_neg (fun z => g z.2), if_neg (fun z => g z.2), Option.map_map]
                congr 1
/-- parts without blanks, joined -/
theorem sp_free {p : List Nat} (h : 32 ∉ p) : sp p = [p] := by
  induction p with
  | nil => rfl
  | cons c r ih =>
    rw [sp, if_neg (fun z => h (by rw [z]; exact List.mem_cons_self)), ih (fun z => h (List.mem_cons_of_mem _ z))]
theorem sp_cat {p q : List Nat} (h : 32 ∉ p) : sp (p ++ 32 :: q) = p :: sp q := by
  induction p with
  | nil => simp [sp]
  | cons c r ih =>
    rw [List.cons_append, sp, if_neg (fun z => h (by rw [z]; exact List.mem_cons_self)), ih (fun z => h (List.mem_cons_of_mem _ z))]

/-! ### figures -/
abbrev Mk := Int × Int
def dig (c : Nat) : Bool := decide (48 ≤ c) && decide (c ≤ 57)
/-- the number that a part tells -/
def num (z : List Nat) : Option Int :=
  if z ≠ [] ∧ z.all dig = true ∧ z.length ≤ 30 ∧ (z.head? = some 48 → z = [48]) then some (NumText.digitsVal z : Nat) else none
theorem all_digits {z : List Nat} (h : z.all dig = true) : NumText.AllDigits z := fun c hc => by
  have e := List.all_eq_true.mp h c hc
  unfold dig at e
  rw [Bool.and_eq_true, decide_eq_true_eq, decide_eq_true_eq] at e
  exact e
theorem digit_ascii : ∀ c, c < 128 → PySem.Unicode.isDigit c = dig c := by decide +kernel
theorem isdig (z : List Nat) (h : Txt.isascii (S z) = true) : Txt.isdigit (S z) = (decide (z ≠ []) && z.all dig) := by
  unfold Txt.isascii at h
  unfold Txt.isdigit
  have e : ∀ l : List Nat, l.all (· < 128) = true → l.all PySem.Unicode.isDigit = l.all dig := fun l hl => by
    induction l with
    | nil => rfl
    | cons c r ih =>
      rw [List.all_cons, Bool.and_eq_true, decide_eq_true_eq] at hl
      rw [List.all_cons, List.all_cons, digit_ascii c hl.1, ih hl.2]
  have e1 : (S z).cps.all (· < 128) = z.all (· < 128) := by simp
  have e2 : (S z).cps.all PySem.Unicode.isDigit = z.all PySem.Unicode.isDigit := by simp
  rw [e1] at h
  rw [e2, e z h]
  cases z with
  | nil => rfl
  | cons c r => simp [Str.length]
theorem ascii_dig {z : List Nat} (h : z.all dig = true) : Txt.isascii (S z) = true := by
  unfold Txt.isascii
  have e1 : (S z).cps.all (· < 128) = z.all (· < 128) := by simp
  rw [e1, List.all_eq_true]
  intro c hc
  have k := all_digits h c hc
  exact decide_eq_true (by omega)
theorem num_int {z : List Nat} {n : Int} (h : num z = some n) : intText? (S z) = some n ∧ z.length ≤ 30 := by
  unfold num at h
  split at h
  · rename_i c
    obtain ⟨c1, c2, c3, c4⟩ := c
    cases h
    have k := intText_digits (x := S z) (all_digits c2) c1 (by rw [TL.len_tl]; exact Nat.le_trans c3 (by decide))
    exact ⟨k, c3⟩
  · cases h
theorem num_numL {n : Nat} (h : n < 10 ^ 30) : num (TL.numL n) = some (n : Int) := by
  have h1 : (TL.numL n).all dig = true := by
    rw [List.all_eq_true]
    intro c hc
    have k := TL.numL_digits n c hc
    unfold dig
    rw [Bool.and_eq_true, decide_eq_true_eq, decide_eq_true_eq]
    exact k
  have h2 : (TL.numL n).head? = some 48 → TL.numL n = [48] := by
    intro hh
    by_cases h10 : n < 10
    · rw [TL.numL_lt h10] at hh ⊢
      exact congrArg (fun x => [x]) (Option.some.inj hh)
    · exfalso
      have key : ∀ m : Nat, 0 < m → (TL.numL m).head? ≠ some 48 := by
        intro m
        induction m using Nat.strongRecOn with
        | _ m ih =>
          intro hm
          by_cases hl : m < 10
          · rw [TL.numL_lt hl]
            intro z
            have := Option.some.inj z
            omega
          · have k := ih (m / 10) (by omega) (by omega)
            rw [TL.numL_step (by omega)]
            cases e : TL.numL (m / 10) with
            | nil => exact absurd e (TL.numL_ne _)
            | cons d r =>
              rw [e] at k
              exact k
      exact key n (by omega) hh
  unfold num
  rw [if_pos ⟨TL.numL_ne n, h1, TL.numL_len (by decide) h, h2⟩, TL.numL_val]
theorem num_none {z : List Nat} (h : ¬ (z ≠ [] ∧ z.all dig = true ∧ z.length ≤ 30 ∧ (z.head? = some 48 → z = [48]))) : num z = none := by
  unfold num
  rw [if_neg h]
theorem num_no1 {z : List Nat} (h : Txt.isascii (S z) = false) : num z = none := num_none fun ⟨_, h2, _⟩ => by rw [ascii_dig h2] at h; cases h
theorem num_no2 {z : List Nat} (h : Txt.isascii (S z) = true) (k : Txt.isdigit (S z) = false) : num z = none := num_none fun ⟨h1, h2, _⟩ => by
  rw [isdig z h, decide_eq_true h1, h2] at k
  cases k
theorem num_no3 {z : List Nat} (h : 30 < z.length) : num z = none := num_none fun ⟨_, _, h3, _⟩ => by omega
theorem num_no4 {z : List Nat} (h : z.head? = some 48) (k : z ≠ [48]) : num z = none := num_none fun ⟨_, _, _, h4⟩ => k (h4 h)
theorem num_yes {z : List Nat} (h1 : Txt.isascii (S z) = true) (h2 : Txt.isdigit (S z) = true) (h3 : ¬ 30 < z.length) (h4 : z.head? = some 48 → z = [48]) : num z = some ((NumText.digitsVal z : Nat) : Int) := by
  rw [isdig z h1, Bool.and_eq_true, decide_eq_true_eq] at h2
  unfold num
  rw [if_pos ⟨h2.1, h2.2, by omega, h4⟩]
theorem str0 : Str.ofString "0" = S [48] := by decide +kernel
theorem one0 (c : Nat) : ((⟨#[c]⟩ : Str) = Str.ofString "0") ↔ c = 48 := by
  rw [str0]
  show (S [c] = S [48]) ↔ _
  constructor
  · intro h
    have e : TL.tl (S [c]) = TL.tl (S [48]) := by rw [h]
    have e : [c] = [48] := e
    simpa using e
  · intro h; rw [h]
theorem eqS {a b : List Nat} : S a = S b ↔ a = b := ⟨fun h => by
  have e : TL.tl (S a) = TL.tl (S b) := by rw [h]
  exact e, fun h => by rw [h]⟩
/-! ### mails -/
structure Mail where
  w : Str
  l : Int
  a : Int
  b : Int
  m : Option Mk
  deriving DecidableEq
theorem Mail.same : ∀ {p q : Mail}, p.w = q.w → p.l = q.l → p.a = q.a → p.b = q.b → p.m = q.m → p = q
  | ⟨_, _, _, _, _⟩, ⟨_, _, _, _, _⟩, rfl, rfl, rfl, rfl, rfl => rfl
open PySem.W in
instance : Datum Mail where
  toD x := .tuple [.str x.w, .int x.l, .int x.a, .int x.b, Datum.toD x.m]
  plain x := by simp only [PyData.plain, PyData.plainAll, Datum.plain, Bool.and_self]
  eqv p q := by
    have e1 : PyData.eqv (.str p.w) (.str q.w) = decide (p.w = q.w) := Datum.eqv p.w q.w
    have e2 : ∀ i j : Int, PyData.eqv (.int i) (.int j) = decide (i = j) := fun i j => Datum.eqv i j
    show PyData.eqv (.tuple _) (.tuple _) = _
    rw [PyData.eqv, PyData.eqvAll, PyData.eqvAll, PyData.eqvAll, PyData.eqvAll, PyData.eqvAll, PyData.eqvAll, e1, e2, e2, e2, Datum.eqv, Bool.and_true, ← Bool.decide_and, ← Bool.decide_and, ← Bool.decide_and, ← Bool.decide_and]
    exact decide_eq_decide.mpr ⟨fun ⟨a, b, c, d, e⟩ => Mail.same a b c d e, fun e => by rw [e]; exact ⟨rfl, rfl, rfl, rfl, rfl⟩⟩
  depth := Datum.depth (Option Mk) + 1
  depth_le p := by
    simp only [PyData.depth, PyData.depthAll]
    refine Nat.succ_le_succ ?_
    have k := Datum.depth_le p.m
    simp only [Nat.max_le]
    exact ⟨Nat.zero_le _, Nat.zero_le _, Nat.zero_le _, Nat.zero_le _, k, Nat.zero_le _⟩
open PySem.W in
instance : SomeDatum Mail := ⟨fun _ => by show PyData.eqv .none (.tuple _) = false; simp only [PyData.eqv], fun _ => by show PyData.eqv (.tuple _) .none = false; simp only [PyData.eqv]⟩
abbrev wL : Str := "letter"
abbrev wN : Str := "number"
abbrev wM : Str := "mark"
/-- what a mark's text tells -/
def markOf (T : List (List Nat)) : Option Mk := match T with
  | [n, o, h] => if S o = "of" then match num n with
    | some n => if n = 0 then none else (num h).map fun h => (n, h)
    | none => none
    else none
  | _ => none
/-- what stands behind the word and the numbers -/
def markBy : Option (List Nat) → Option (Option Mk)
  | none => some none
  | some q => (markOf (sp q)).map some
def mailBy (head : List Nat) (tail : Option (List Nat)) : Option Mail := match sp head with
  | [w, l, f, a, t, b] =>
    if S f = "from" ∧ S t = "to" ∧ ((S w = wL ∧ tail.isSome = false) ∨ ((S w = wN ∨ S w = wM) ∧ tail.isSome = true)) then
      match markBy tail, num l, num a, num b with
      | some m, some l, some a, some b => some ⟨S w, l, a, b, m⟩
      | _, _, _, _ => none
    else none
  | _ => none
/-- what a text tells -/
def mailOf (x : Str) : Option Mail := match pa (TL.tl x) with
  | some (a, b) => mailBy a (some b)
  | none => mailBy (TL.tl x) none
theorem markOf_three (n o h : List Nat) : markOf [n, o, h] = if S o = "of" then (match num n with
    | some n => if n = 0 then none else (num h).map fun h => (n, h)
    | none => none) else none := rfl
theorem markOf_len {T : List (List Nat)} (h : T.length ≠ 3) : markOf T = none := by
  unfold markOf
  split
  · exact absurd rfl h
  · rfl
theorem blank : Str.ofString " " = ⟨#[32]⟩ := by decide +kernel
theorem colon : Str.ofString ": " = ⟨#[58, 32]⟩ := by decide +kernel
theorem split_b (x : Str) : Txt.split x (Str.ofString " ") = (sp (TL.tl x)).map S := by rw [blank, split_sp]
theorem partition_c (x : Str) : Txt.partition x (Str.ofString ": ") = match pa (TL.tl x) with
    | some (a, b) => (S a, Str.ofString ": ", S b)
    | none => (x, Str.empty, Str.empty) := by rw [colon, partition_pa]
theorem three_of {α : Type} {l : List α} (h : l.length = 3) : ∃ a b c, l = [a, b, c] := by
  match l, h with
  | [a, b, c], _ => exact ⟨a, b, c, rfl⟩
theorem six_of {α : Type} {l : List α} (h : l.length = 6) : ∃ a b c d e f, l = [a, b, c, d, e, f] := by
  match l, h with
  | [a, b, c, d, e, f], _ => exact ⟨a, b, c, d, e, f, rfl⟩
theorem sp_len : ∀ (z p : List Nat), p ∈ sp z → p.length ≤ z.length
  | [], p, h => by
    rw [sp, List.mem_singleton] at h
    rw [h]; exact Nat.le_refl _
  | c :: r, p, h => by
    rw [sp] at h
    split at h
    · rcases List.mem_cons.mp h with rfl | h
      · exact Nat.zero_le _
      · exact Nat.le_succ_of_le (sp_len r p h)
    · split at h
      · rw [List.mem_singleton] at h
        rw [h]; simp
      · rename_i w ws e
        rcases List.mem_cons.mp h with rfl | h
        · exact Nat.succ_le_succ (sp_len r w (by rw [e]; exact List.mem_cons_self))
        · exact Nat.le_succ_of_le (sp_len r p (by rw [e]; exact List.mem_cons_of_mem _ h))
theorem pa_len : ∀ (z a b : List Nat), pa z = some (a, b) → a.length ≤ z.length ∧ b.length ≤ z.length
  | [], a, b, h => by cases h
  | c :: r, a, b, h => by
    rw [pa] at h
    split at h
    · cases h
      refine ⟨Nat.zero_le _, ?_⟩
      rw [List.length_drop, List.length_cons]; omega
    · cases e : pa r with
      | none => rw [e] at h; cases h
      | some q =>
        rw [e] at h
        obtain ⟨a', b'⟩ := q
        have k := pa_len r a' b' e
        cases h
        simp only [List.length_cons]
        omega
def coOf : Option (List Nat) → Str
  | some _ => Str.ofString ": "
  | none => Str.empty
theorem coOf_ne (t : Option (List Nat)) : (!decide (coOf t = Str.ofString "")) = t.isSome := by
  cases t with
  | none =>
    have e : Str.empty = Str.ofString "" := by decide +kernel
    show (!decide (Str.empty = Str.ofString "")) = false
    rw [decide_eq_true e]; rfl
  | some q =>
    have e : ¬ Str.ofString ": " = Str.ofString "" := by decide +kernel
    show (!decide (Str.ofString ": " = Str.ofString "")) = true
    rw [decide_eq_false e]; rfl
theorem part_by (x : Str) : ∃ (h : List Nat) (t : Option (List Nat)), Txt.partition x (Str.ofString ": ") = (S h, coOf t, S (t.getD [])) ∧ mailOf x = mailBy h t ∧ h.length ≤ x.length ∧ (t.getD []).length ≤ x.length := by
  rw [partition_c]
  unfold mailOf
  cases e : pa (TL.tl x) with
  | none => exact ⟨TL.tl x, none, by rw [show S (TL.tl x) = x from TL.mk_tl x]; rfl, rfl, by rw [TL.len_tl]; exact Nat.le_refl _, Nat.zero_le _⟩
  | some q =>
    obtain ⟨a, b⟩ := q
    have k := pa_len _ _ _ e
    rw [← TL.len_tl] at k
    exact ⟨a, some b, rfl, rfl, k.1, k.2⟩
theorem mailBy_len {h : List Nat} {t : Option (List Nat)} (k : (sp h).length ≠ 6) : mailBy h t = none := by
  unfold mailBy
  split
  · rename_i e
    rw [e] at k
    exact absurd rfl k
  · rfl
theorem mailBy_six {h w l f a t b : List Nat} {q : Option (List Nat)} (e : sp h = [w, l, f, a, t, b]) : mailBy h q = 
    if S f = "from" ∧ S t = "to" ∧ ((S w = wL ∧ q.isSome = false) ∨ ((S w = wN ∨ S w = wM) ∧ q.isSome = true)) then
      match markBy q, num l, num a, num b with
      | some m, some l, some a, some b => some ⟨S w, l, a, b, m⟩
      | _, _, _, _ => none
    else none := by
  unfold mailBy
  rw [e]
/-! ### numbers that may be written -/
def okI (i : Int) : Prop := 0 ≤ i ∧ i < 10 ^ 30
theorem okI_nat {i : Int} (h : okI i) : ∃ n : Nat, i = (n : Int) ∧ n < 10 ^ 30 := by
  obtain ⟨n, rfl⟩ : ∃ n : Nat, i = (n : Int) := ⟨i.toNat, (Int.toNat_of_nonneg h.1).symm⟩
  have k := h.2
  refine ⟨n, rfl, ?_⟩
  have e : ((10 : Int) ^ 30) = ((10 ^ 30 : Nat) : Int) := by decide +kernel
  rw [e] at k
  exact Int.ofNat_lt.mp k
theorem log_lt {n : Nat} (h : n < 10 ^ 40) : n.log2 < 1920 := by
  by_cases z : n = 0
  · subst z; decide
  · exact (Nat.log2_lt z).mpr (Nat.lt_trans h (by decide +kernel))
theorem okI_log {i : Int} (h : okI i) : i.natAbs.log2 < 1920 := by
  obtain ⟨n, rfl, k⟩ := okI_nat h
  exact log_lt (Nat.lt_trans k (by decide +kernel))
theorem okI_tl {n : Nat} : TL.tl (Str.ofString (toString ((n : Nat) : Int))) = TL.numL n := TL.tl_num n
theorem okI_len {i : Int} (h : okI i) : (Str.ofString (toString i)).length ≤ 30 := by
  obtain ⟨n, rfl, k⟩ := okI_nat h
  rw [TL.len_tl, TL.tl_num]
  exact TL.numL_len (by decide) k
theorem okI_num {i : Int} (h : okI i) : num (TL.tl (Str.ofString (toString i))) = some i := by
  obtain ⟨n, rfl, k⟩ := okI_nat h
  rw [TL.tl_num]
  exact num_numL k
theorem okI_free {i : Int} (h : okI i) : ∀ s, s < 48 ∨ 57 < s → s ∉ TL.tl (Str.ofString (toString i)) := fun s hs => by
  obtain ⟨n, rfl, k⟩ := okI_nat h
  rw [TL.tl_num]
  exact TL.numL_free hs
structure Okm (m : Mail) : Prop where
  l : okI m.l
  a : okI m.a
  b : okI m.b
  w : m.w.length ≤ 10
  m : ∀ p, m.m = some p → okI p.1 ∧ okI p.2
def txt0 (m : Mail) : Str := m.w ++ " " ++ toString m.l ++ " from " ++ toString m.a ++ " to " ++ toString m.b
def txtOf (m : Mail) : Str := match m.m with
  | none => txt0 m
  | some p => txt0 m ++ ": " ++ toString p.1 ++ " of " ++ toString p.2
theorem pa_free {p : List Nat} (h : 58 ∉ p) : pa p = none := by
  induction p with
  | nil => rfl
  | cons c r ih =>
    rw [pa, if_neg (fun z => h (by rw [z.1]; exact List.mem_cons_self)), ih (fun z => h (List.mem_cons_of_mem _ z))]
    rfl
theorem pa_cat {p q : List Nat} (h : 58 ∉ p) : pa (p ++ 58 :: 32 :: q) = some (p, q) := by
  induction p with
  | nil => simp [pa]
  | cons c r ih =>
    rw [List.cons_append, pa, if_neg (fun z => h (by rw [z.1]; exact List.mem_cons_self)), ih (fun z => h (List.mem_cons_of_mem _ z))]
    rfl
theorem tl_from : TL.tl (Str.ofString " from ") = 32 :: ([102, 114, 111, 109] ++ [32]) := by decide +kernel
theorem tl_to : TL.tl (Str.ofString " to ") = 32 :: ([116, 111] ++ [32]) := by decide +kernel
theorem tl_of : TL.tl (Str.ofString " of ") = 32 :: ([111, 102] ++ [32]) := by decide +kernel
theorem tl_b : TL.tl (Str.ofString " ") = [32] := by decide +kernel
theorem tl_c : TL.tl (Str.ofString ": ") = [58, 32] := by decide +kernel
/-- what is written is read back -/
theorem read_back {m : Mail} (ok : Okm m) (hw : (m.w = wL ∧ m.m = none) ∨ ((m.w = wN ∨ m.w = wM) ∧ ∃ p, m.m = some p ∧ p.1 ≠ 0)) : mailOf (txtOf m) = some m := by
  have fw : ∀ s, s = 32 ∨ s = 58 → s ∉ TL.tl m.w := by
    intro s hs
    have e : m.w = wL ∨ m.w = wN ∨ m.w = wM := by
      rcases hw with h | h
      · exact .inl h.1
      · exact h.1.elim (fun z => .inr (.inl z)) (fun z => .inr (.inr z))
    have k1 : ∀ s, s = 32 ∨ s = 58 → s ∉ TL.tl wL := by rintro s (rfl | rfl) <;> decide +kernel
    have k2 : ∀ s, s = 32 ∨ s = 58 → s ∉ TL.tl wN := by rintro s (rfl | rfl) <;> decide +kernel
    have k3 : ∀ s, s = 32 ∨ s = 58 → s ∉ TL.tl wM := by rintro s (rfl | rfl) <;> decide +kernel
    rcases e with e | e | e <;> rw [e]
    · exact k1 s hs
    · exact k2 s hs
    · exact k3 s hs
  have e0 : TL.tl (txt0 m) = TL.tl m.w ++ 32 :: (TL.tl (Str.ofString (toString m.l)) ++ 32 :: ([102, 114, 111, 109] ++ 32 :: (TL.tl (Str.ofString (toString m.a)) ++ 32 :: ([116, 111] ++ 32 :: TL.tl (Str.ofString (toString m.b)))))) := by
    unfold txt0
    rw [TL.tl_append, TL.tl_append, TL.tl_append, TL.tl_append, TL.tl_append, TL.tl_append, tl_b, tl_from, tl_to]
    simp only [List.append_assoc, List.cons_append, List.nil_append]
  have i32 := fun {i : Int} (h : okI i) => okI_free h 32 (by omega)
  have i58 := fun {i : Int} (h : okI i) => okI_free h 58 (by omega)
  have es : sp (TL.tl (txt0 m)) = [TL.tl m.w, TL.tl (Str.ofString (toString m.l)), [102, 114, 111, 109], TL.tl (Str.ofString (toString m.a)), [116, 111], TL.tl (Str.ofString (toString m.b))] := by
    rw [e0, sp_cat (fw 32 (.inl rfl)), sp_cat (i32 ok.l), sp_cat (by decide), sp_cat (i32 ok.a), sp_cat (by decide), sp_free (i32 ok.b)]
  have f58 : 58 ∉ TL.tl (txt0 m) := by
    rw [e0]
    simp only [List.mem_append, List.mem_cons, not_or]
    exact ⟨fw 58 (.inr rfl), by decide, i58 ok.l, by decide, by simp, by decide, i58 ok.a, by decide, by simp, by decide, i58 ok.b⟩
  have ef : S [102, 114, 111, 109] = Str.ofString "from" := by decide +kernel
  have et : S [116, 111] = Str.ofString "to" := by decide +kernel
  have ew : S (TL.tl m.w) = m.w := TL.mk_tl m.w
  obtain ⟨w, l, a, b, mk⟩ := m
  cases mk with
  | none =>
    have hw : w = wL := by
      rcases hw with h | ⟨_, p, h, _⟩
      · exact h.1
      · cases h
    show mailOf (txt0 _) = _
    unfold mailOf
    rw [pa_free f58]
    show mailBy _ none = _
    rw [mailBy_six es, if_pos ⟨ef, et, .inl ⟨ew.trans hw, rfl⟩⟩]
    show (match markBy none, num _, num _, num _ with | some m, some l, some a, some b => some (⟨_, l, a, b, m⟩ : Mail) | _, _, _, _ => none) = _
    rw [okI_num ok.l, okI_num ok.a, okI_num ok.b, ew]
    rfl
  | some p =>
    obtain ⟨hw, h0⟩ : (w = wN ∨ w = wM) ∧ p.1 ≠ 0 := by
      rcases hw with h | ⟨h, q, e, z⟩
      · cases h.2
      · cases e; exact ⟨h, z⟩
    obtain ⟨o1, o2⟩ := ok.m p rfl
    have ex : TL.tl (txtOf ⟨w, l, a, b, some p⟩) = TL.tl (txt0 ⟨w, l, a, b, some p⟩) ++ 58 :: 32 :: (TL.tl (Str.ofString (toString p.1)) ++ 32 :: ([111, 102] ++ 32 :: TL.tl (Str.ofString (toString p.2)))) := by
      show TL.tl (txt0 _ ++ Str.ofString ": " ++ Str.ofString (toString p.1) ++ Str.ofString " of " ++ Str.ofString (toString p.2)) = _
      rw [TL.tl_append, TL.tl_append, TL.tl_append, TL.tl_append, tl_c, tl_of]
      simp only [List.append_assoc, List.cons_append, List.nil_append]
    unfold mailOf
    rw [ex, pa_cat f58]
    show mailBy _ (some _) = _
    rw [mailBy_six es, if_pos ⟨ef, et, .inr ⟨hw.elim (fun z => .inl (ew.trans z)) (fun z => .inr (ew.trans z)), rfl⟩⟩]
    have em : markBy (some (TL.tl (Str.ofString (toString p.1)) ++ 32 :: ([111, 102] ++ 32 :: TL.tl (Str.ofString (toString p.2))))) = some (some p) := by
      show (markOf (sp _)).map some = _
      rw [sp_cat (i32 o1), sp_cat (by decide), sp_free (i32 o2)]
      have eo : S [111, 102] = Str.ofString "of" := by decide +kernel
      rw [markOf_three, if_pos eo, okI_num o1, okI_num o2]
      simp [h0]
    rw [em, okI_num ok.l, okI_num ok.a, okI_num ok.b, ew]
theorem len_c : (Str.ofString " ").length = 1 ∧ (Str.ofString " from ").length = 6 ∧ (Str.ofString " to ").length = 4 ∧ (Str.ofString ": ").length = 2 ∧ (Str.ofString " of ").length = 4 := by decide +kernel
theorem txtOf_len {m : Mail} (ok : Okm m) : (txtOf m).length ≤ 100000 := by
  obtain ⟨g1, g2, g3, g4, g5⟩ := len_c
  have gl := okI_len ok.l
  have ga := okI_len ok.a
  have gb := okI_len ok.b
  have gw := ok.w
  have e0 : (txt0 m).length ≤ 200 := by
    show (m.w ++ Str.ofString " " ++ Str.ofString (toString m.l) ++ Str.ofString " from " ++ Str.ofString (toString m.a) ++ Str.ofString " to " ++ Str.ofString (toString m.b)).length ≤ 200
    simp only [Str.length_append, g1, g2, g3]
    omega
  unfold txtOf
  cases e : m.m with
  | none => exact Nat.le_trans e0 (by decide)
  | some p =>
    obtain ⟨o1, o2⟩ := ok.m p e
    have hn := okI_len o1
    have hh := okI_len o2
    show (txt0 m ++ Str.ofString ": " ++ Str.ofString (toString p.1) ++ Str.ofString " of " ++ Str.ofString (toString p.2)).length ≤ 100000
    simp only [Str.length_append, g4, g5]
    omega
/-! ### what the parts at blanks tell -/
def markT : Option (List (List Nat)) → Option (Option Mk)
  | none => some none
  | some T => (markOf T).map some
def mailW (P : List (List Nat)) (q : Option (List (List Nat))) : Option Mail := match P with
  | [w, l, f, a, t, b] =>
    if S f = "from" ∧ S t = "to" ∧ ((S w = wL ∧ q.isSome = false) ∨ ((S w = wN ∨ S w = wM) ∧ q.isSome = true)) then
      match markT q, num l, num a, num b with
      | some m, some l, some a, some b => some ⟨S w, l, a, b, m⟩
      | _, _, _, _ => none
    else none
  | _ => none
theorem mailBy_W (h : List Nat) (t : Option (List Nat)) : mailBy h t = mailW (sp h) (t.map sp) := by
  unfold mailBy mailW
  cases t with
  | none => rfl
  | some q => rfl
theorem mailOf_W (x : Str) : mailOf x = match cut (sp (TL.tl x)) with
    | some q => mailW q.1 (some q.2)
    | none => mailW (sp (TL.tl x)) none := by
  rw [← pa_cut]
  unfold mailOf
  cases pa (TL.tl x) with
  | none => exact mailBy_W _ _
  | some q => exact mailBy_W _ _
theorem mailW_six (w l f a t b : List Nat) (q : Option (List (List Nat))) : mailW [w, l, f, a, t, b] q =
    if S f = "from" ∧ S t = "to" ∧ ((S w = wL ∧ q.isSome = false) ∨ ((S w = wN ∨ S w = wM) ∧ q.isSome = true)) then
      (match markT q, num l, num a, num b with
      | some m, some l, some a, some b => some ⟨S w, l, a, b, m⟩
      | _, _, _, _ => none)
    else none := rfl
theorem mailW_len {P : List (List Nat)} {q : Option (List (List Nat))} (h : P.length ≠ 6) : mailW P q = none := by
  unfold mailW
  split
  · exact absurd rfl h
  · rfl
theorem cut_len : ∀ {W : List (List Nat)} {a b : List (List Nat)}, cut W = some (a, b) → a.length + b.length = W.length ∧ b ≠ []
  | [], _, _, h => by cases h
  | w :: ws, a, b, h => by
    rw [cut] at h
    split at h
    · rename_i c
      cases h
      exact ⟨by simp only [List.length_cons, List.length_nil]; omega, c.1⟩
    · cases e : cut ws with
      | none => rw [e] at h; cases h
      | some q =>
        rw [e] at h
        obtain ⟨a', b'⟩ := q
        have k := cut_len e
        cases h
        exact ⟨by simp only [List.length_cons]; omega, k.2⟩
theorem cut_step {w : List Nat} {ws : List (List Nat)} (h : w.getLast? ≠ some 58) : cut (w :: ws) = (cut ws).map fun q => (w :: q.1, q.2) := by
  rw [cut, if_neg fun z => h z.2]
theorem last_num {z : List Nat} {n : Int} (h : num z = some n) : z.getLast? ≠ some 58 := by
  unfold num at h
  split at h
  · rename_i c
    intro e
    have k := all_digits c.2.1 58 (List.mem_of_getLast? e)
    omega
  · cases h
theorem last_word {z : List Nat} {x : Str} (h : S z = x) (k : (TL.tl x).getLast? ≠ some 58) : z.getLast? ≠ some 58 := by
  rw [← h] at k
  exact k
theorem from_last {z : List Nat} (h : S z = Str.ofString "from") : z.getLast? ≠ some 58 := last_word h (by decide +kernel)
theorem to_last {z : List Nat} (h : S z = Str.ofString "to") : z.getLast? ≠ some 58 := last_word h (by decide +kernel)
theorem L_last {z : List Nat} (h : S z = wL) : z.getLast? ≠ some 58 := last_word h (by decide +kernel)
theorem N_last {z : List Nat} (h : S z = wN) : z.getLast? ≠ some 58 := last_word h (by decide +kernel)
theorem M_last {z : List Nat} (h : S z = wM) : z.getLast? ≠ some 58 := last_word h (by decide +kernel)
/-- six parts -/
theorem mail_six {x : Str} {w l f a t b : List Nat} (e : sp (TL.tl x) = [w, l, f, a, t, b]) : mailOf x =
    if S f = "from" ∧ S t = "to" ∧ S w = wL then (match num l, num a, num b with | some l, some a, some b => some ⟨S w, l, a, b, none⟩ | _, _, _ => none) else none := by
  rw [mailOf_W, e]
  have hb : ∀ m, m = mailW [w, l, f, a, t, b] none → m = if S f = "from" ∧ S t = "to" ∧ S w = wL then (match num l, num a, num b with | some l, some a, some b => some ⟨S w, l, a, b, none⟩ | _, _, _ => none) else none := by
    intro m hm
    rw [hm, mailW_six]
    by_cases c : S f = "from" ∧ S t = "to" ∧ S w = wL
    · rw [if_pos c, if_pos ⟨c.1, c.2.1, .inl ⟨c.2.2, rfl⟩⟩]
      rw [show markT none = some none from rfl]
      cases num l <;> cases num a <;> cases num b <;> rfl
    · rw [if_neg c, if_neg fun z => c ⟨z.1, z.2.1, z.2.2.elim (fun y => y.1) fun y => nomatch y.2⟩]
  cases ec : cut [w, l, f, a, t, b] with
  | none => exact hb _ rfl
  | some q =>
    obtain ⟨p1, p2⟩ := q
    obtain ⟨k1, k2⟩ := cut_len ec
    have k3 : 0 < p2.length := List.length_pos_iff.mpr k2
    simp only [List.length_cons, List.length_nil] at k1
    show mailW p1 (some p2) = _
    rw [mailW_len (by omega)]
    by_cases c : S f = "from" ∧ S t = "to" ∧ S w = wL
    · rw [if_pos c]
      cases el : num l with
      | none => rfl
      | some l' =>
        cases ea : num a with
        | none => rfl
        | some a' =>
          rw [cut_step (L_last c.2.2), cut_step (last_num el), cut_step (from_last c.1), cut_step (last_num ea), cut_step (to_last c.2.1)] at ec
          have e0 : cut [b] = none := by simp [cut]
          rw [e0] at ec
          cases ec
    · rw [if_neg c]
theorem num_zero {z : List Nat} (h : num z = some 0) : z = [48] := by
  unfold num at h
  split at h
  · rename_i c
    obtain ⟨c1, c2, c3, c4⟩ := c
    have h0 : NumText.digitsVal z = 0 := by
      have e := Option.some.inj h
      exact Int.ofNat_eq_zero.mp e
    cases z with
    | nil => exact absurd rfl c1
    | cons d r =>
      refine c4 ?_
      have hd := all_digits c2 d List.mem_cons_self
      have key : ∀ (l : List Nat) (acc : Nat), acc ≤ l.foldl (fun acc c => acc * 10 + (c - 48)) acc := by
        intro l
        induction l with
        | nil => intro acc; exact Nat.le_refl _
        | cons c r ih => intro acc; exact Nat.le_trans (show acc ≤ acc * 10 + (c - 48) by omega) (ih _)
      have k := key r (0 * 10 + (d - 48))
      have e2 : NumText.digitsVal (d :: r) = r.foldl (fun acc c => acc * 10 + (c - 48)) (0 * 10 + (d - 48)) := rfl
      rw [← e2, h0] at k
      show some d = some 48
      congr 1
      omega
  · cases h
theorem num_48 : num [48] = some 0 := by decide +kernel
/-- nine parts -/
theorem mail_nine {x : Str} {w l f a t b n o h : List Nat} (e : sp (TL.tl x) = [w, l, f, a, t, b, n, o, h]) : mailOf x =
    if S f = "from" ∧ S t = "to" ∧ (S w = wN ∨ S w = wM) ∧ b.getLast? = some 58 ∧ S o = "of" ∧ n ≠ [48] then
      (match num l, num a, num b.dropLast, num n, num h with | some l, some a, some b, some n, some h => some ⟨S w, l, a, b, some (n, h)⟩ | _, _, _, _, _ => none) else none := by
  rw [mailOf_W, e]
  have nine : ∀ q : Option (List (List Nat)), mailW [w, l, f, a, t, b, n, o, h] q = none := fun q => mailW_len (by simp)
  -- where the cut lies behind the sixth part
  have six : mailW [w, l, f, a, t, b.dropLast] (some [n, o, h]) = if S f = "from" ∧ S t = "to" ∧ (S w = wN ∨ S w = wM) ∧ S o = "of" ∧ n ≠ [48] then
      (match num l, num a, num b.dropLast, num n, num h with | some l, some a, some b, some n, some h => some ⟨S w, l, a, b, some (n, h)⟩ | _, _, _, _, _ => none) else none := by
    rw [mailW_six]
    by_cases c : S f = "from" ∧ S t = "to" ∧ (S w = wN ∨ S w = wM)
    · rw [if_pos ⟨c.1, c.2.1, .inr ⟨c.2.2, rfl⟩⟩]
      rw [show markT (some [n, o, h]) = (markOf [n, o, h]).map some from rfl, markOf_three]
      by_cases c2 : S o = "of"
      · rw [if_pos c2]
        by_cases c3 : n = [48]
        · rw [if_neg fun z => z.2.2.2.2 c3, c3, num_48]
          rfl
        · rw [if_pos ⟨c.1, c.2.1, c.2.2, c2, c3⟩]
          cases en : num n with
          | none => cases num l <;> cases num a <;> cases num b.dropLast <;> rfl
          | some i =>
            have hi : i ≠ 0 := fun z => c3 (num_zero (by rw [en, z]))
            simp only [if_neg hi]
            cases num l <;> cases num a <;> cases num b.dropLast <;> cases num h <;> rfl
      · rw [if_neg c2, if_neg fun z => c2 z.2.2.2.1]
        rfl
    · rw [if_neg fun z => c ⟨z.1, z.2.1, z.2.2.elim (fun y => nomatch y.2) fun y => y.1⟩, if_neg fun z => c ⟨z.1, z.2.1, z.2.2.1⟩]
  cases ec : cut [w, l, f, a, t, b, n, o, h] with
  | none =>
    show mailW _ none = _
    rw [nine]
    by_cases c : S f = "from" ∧ S t = "to" ∧ (S w = wN ∨ S w = wM) ∧ b.getLast? = some 58 ∧ S o = "of" ∧ n ≠ [48]
    · rw [if_pos c]
      obtain ⟨c1, c2, c3, c4, _⟩ := c
      cases el : num l with
      | none => rfl
      | some l' =>
        cases ea : num a with
        | none => rfl
        | some a' =>
          rw [cut_step (c3.elim N_last M_last), cut_step (last_num el), cut_step (from_last c1), cut_step (last_num ea), cut_step (to_last c2)] at ec
          rw [show cut [b, n, o, h] = some ([b.dropLast], [n, o, h]) by rw [cut, if_pos ⟨by simp, c4⟩]] at ec
          cases ec
    · rw [if_neg c]
  | some q =>
    obtain ⟨p1, p2⟩ := q
    show mailW p1 (some p2) = _
    by_cases hp : p1.length = 6
    · -- the cut is behind the sixth
      have key : p1 = [w, l, f, a, t, b.dropLast] ∧ p2 = [n, o, h] ∧ b.getLast? = some 58 := by
        have step : ∀ {u : List Nat} {us : List (List Nat)} {r1 r2 : List (List Nat)} {k : Nat}, cut (u :: us) = some (r1, r2) → r1.length = k + 2 → ∃ r, r1 = u :: r ∧ r.length = k + 1 ∧ cut us = some (r, r2) := by
          intro u us r1 r2 k hc hl
          rw [cut] at hc
          split at hc
          · cases hc
            simp at hl
          · cases e2 : cut us with
            | none => rw [e2] at hc; cases hc
            | some q =>
              rw [e2] at hc
              cases hc
              exact ⟨q.1, rfl, by simpa using hl, rfl⟩
        obtain ⟨r1, e1, l1, g1⟩ := step ec hp
        obtain ⟨r2, e2, l2, g2⟩ := step g1 l1
        obtain ⟨r3, e3, l3, g3⟩ := step g2 l2
        obtain ⟨r4, e4, l4, g4⟩ := step g3 l3
        obtain ⟨r5, e5, l5, g5⟩ := step g4 l4
        rw [cut] at g5
        split at g5
        · rename_i c
          cases g5
          exact ⟨by rw [e1, e2, e3, e4, e5], rfl, c.2⟩
        · cases e6 : cut [n, o, h] with
          | none => rw [e6] at g5; cases g5
          | some q =>
            rw [e6] at g5
            have l5 : r5.length = 1 := l5
            have z := congrArg (fun y : Option (List (List Nat) × List (List Nat)) => y.map fun q => q.1.length) g5
            have z : some (q.1.length + 1) = some r5.length := z
            have z := Option.some.inj z
            have z0 : q.1 = [] := List.length_eq_zero_iff.mp (by omega)
            rw [cut] at e6
            split at e6
            · cases e6; simp at z0
            · cases e7 : cut [o, h] with
              | none => rw [e7] at e6; cases e6
              | some q7 => rw [e7] at e6; cases e6; simp at z0
      obtain ⟨k1, k2, k3⟩ := key
      rw [k1, k2, six]
      by_cases c : S f = "from" ∧ S t = "to" ∧ (S w = wN ∨ S w = wM) ∧ S o = "of" ∧ n ≠ [48]
      · rw [if_pos c, if_pos ⟨c.1, c.2.1, c.2.2.1, k3, c.2.2.2⟩]
      · rw [if_neg c, if_neg fun z => c ⟨z.1, z.2.1, z.2.2.1, z.2.2.2.2⟩]
    · rw [mailW_len hp]
      by_cases c : S f = "from" ∧ S t = "to" ∧ (S w = wN ∨ S w = wM) ∧ b.getLast? = some 58 ∧ S o = "of" ∧ n ≠ [48]
      · rw [if_pos c]
        obtain ⟨c1, c2, c3, c4, _⟩ := c
        cases el : num l with
        | none => rfl
        | some l' =>
          cases ea : num a with
          | none => rfl
          | some a' =>
            rw [cut_step (c3.elim N_last M_last), cut_step (last_num el), cut_step (from_last c1), cut_step (last_num ea), cut_step (to_last c2)] at ec
            rw [show cut [b, n, o, h] = some ([b.dropLast], [n, o, h]) by rw [cut, if_pos ⟨by simp, c4⟩]] at ec
            cases ec
            exact absurd rfl hp
      · rw [if_neg c]
/-- neither six nor nine -/
theorem mail_other {x : Str} (h6 : (sp (TL.tl x)).length ≠ 6) (h9 : (sp (TL.tl x)).length ≠ 9) : mailOf x = none := by
  rw [mailOf_W]
  cases ec : cut (sp (TL.tl x)) with
  | none => exact mailW_len h6
  | some q =>
    obtain ⟨p1, p2⟩ := q
    have k := (cut_len ec).1
    show mailW p1 (some p2) = none
    by_cases hp : p1.length = 6
    · have h3 : p2.length ≠ 3 := by omega
      unfold mailW
      split
      · split
        · rw [show markT (some p2) = (markOf p2).map some from rfl, markOf_len h3]
          rfl
        · rfl
      · rfl
    · exact mailW_len hp
end Tx

set_option Elab.async false
set_option linter.all false
set_option maxRecDepth 100000
/-! The layer for texts and for what is raised. -/
namespace Y
open PySem PySem.Spec PyProof.Rows L2
/-- a statement that is not reached -/
theorem ps_no {X : Cx} {st : Stmt} : PS X st (fun _ _ _ => False) := ⟨fun _ _ _ _ _ _ h => h.elim⟩
section
variable {P : Program} {w : World} {K : PySem.W.Frag} {mg : Str → Option Value} {base : Heap}
/-- a def that may raise -/
theorem okN {x qual : Str} {st : Stmt} {f : Addr} {fd : FuncData} {N ps : List Str} {k : Nat} {sp : Sp} (F : Fun K x qual st f fd) (S : FnScope N ps (defScope st)) (len : ∀ vs H Q E, sp vs H Q E → vs.length = ps.length)
    (hbody : ∀ (cdv : Value) (A : Around) (outer : List Env) (s : Shared) (H : Hp) (vs : List V) (Q : VK) (E : XK), Room k (A.deeper (envOfC qual (defScope st) s.heap.objs.size f cdv)) → sp vs H Q E →
      ∃ t, PSs (cxOf (L2N.CX P w) P w K mg base N qual (defScope st) f cdv A outer s H E) (defBody st) t ∧ t { nx := fun _ H' => Q .non H', rt := Q } (L2.start N vs) H) : FnOk P w K mg base (L2N.CX P w) (k + 1) f fd ps sp := by
  obtain ⟨oc, od, kV, doc, pm, an, cdv, ct, osl, rfl, lk, hcd⟩ := F.ex
  exact fn_of lk hcd S len fun A outer s H vs Q E hr q => hbody cdv A outer s H vs Q E hr q
theorem passN {N : List Str} {qual : Str} {scope : Scope} {f : Addr} {cd : Value} {A : Around} {outer : List Env} {s : Shared} {H : Hp} {E : XK} : Passes (L2N.CX P w) (cxOf (L2N.CX P w) P w K mg base N qual scope f cd A outer s H E) E :=
  L2N.passes_call (W := fun c d _ H => E c d H) (L2N.takes_of rfl rfl rfl rfl) (fun _ _ _ _ h => h)
end
section
variable {X : Cx} {k : Nat} {x : Str} {ps : List Str} {sp : Sp} {p pos : Pos} {e : Expr} {es : List Expr} {t : TA}
theorem takesN0 : L2N.Takes X (fun _ _ _ _ => False) := fun _ _ h => by
  obtain ⟨_, _, _, _, _, _, _, _, _, _, _, _, _, _, _, _, z⟩ := h
  exact z.elim
theorem passN0 : Passes (L2N.CX X.prog X.w) X E0 := fun _ _ _ _ _ _ _ h => by
  obtain ⟨_, _, _, _, _, _, _, _, _, _, _, _, z⟩ := h
  exact z.elim
theorem pe_callN {E : XK} (C : Cal X.prog X.w X.K X.mg X.base (L2N.CX X.prog X.w) k x ps sp) (hr : Room k X.A) (hx : Passes (L2N.CX X.prog X.w) X E) (ha : PA X (e :: es) t) (hg : Gl X x := by rfl)
    (hdb : (x == ("__debug__" : Str)) = false := by decide) (he : starEach (e :: es) X.env = (false, eval e X.env) :: starEach es X.env := by rfl) (hpl : (backTo pos (starEach es X.env)).any (·.1) = false := by rfl) :
    PE X (.Call (.Name x p) (e :: es) [] pos) (tCall sp [] E t) := by
  obtain ⟨f, fd, F, m, kp, b⟩ := C.ex
  exact pe_call F hr hg m kp b .nil hx ha hdb he hpl
theorem pe_callT {W : WX} (C : Cal X.prog X.w X.K X.mg X.base (L2N.CX X.prog X.w) k x ps sp) (hr : Room k X.A) (tk : L2N.Takes X W) (ha : PA X (e :: es) t) (hg : Gl X x := by rfl)
    (hdb : (x == ("__debug__" : Str)) = false := by decide) (he : starEach (e :: es) X.env = (false, eval e X.env) :: starEach es X.env := by rfl) (hpl : (backTo pos (starEach es X.env)).any (·.1) = false := by rfl) :
    PE X (.Call (.Name x p) (e :: es) [] pos) (tCallS sp (WE W) t) := by
  obtain ⟨f, fd, F, m, kp, b⟩ := C.ex
  exact pe_callS F hr hg m kp b (fun σ => L2N.passAt tk σ) ha hdb he hpl
end
/-- an own error class -/
structure Err (K : PySem.W.Frag) (mg : Str → Option Value) (x : Str) (C : Addr) : Prop where
  g : mg x = some (.ref C)
  x : PySem.W.excIn K C [.type "ValueError", .type "Exception", .type "BaseException", .type "object"] "ValueError.__new__" = true
  k : PySem.W.keepIn K (.ref C) = true
  b : PySem.W.subIn K (.ref C) (.type "BaseException") = some true
  t : PySem.W.typeIn K (.ref C) = some (.type "type")
theorem pmk_err {X : Cx} {x m : Str} {C : Addr} {j : Nat} {p p2 pos : Pos} (E : Err X.K X.mg x C) (hg : Gl X x := by rfl) (hdb : (x == ("__debug__" : Str)) = false := by decide) :
    L2N.PMk X (.Call (.Name x p) [.Constant (.str m) j p2] [] pos) (fun _ H Q => Q (.ref C) none H) := L2N.pmk_own PySem.F.excBase_ValueError E.x E.g E.k (raises_own E.b E.t) hg hdb
def tRaise (C : Addr) (W : WX) : TS := fun _ σ H => W (.ref C) none σ H
theorem ps_err {X : Cx} {W : WX} {x m : Str} {C : Addr} {j : Nat} {p p2 pos pos2 : Pos} (E : Err X.K X.mg x C) (hc : X.calm = true) (tk : L2N.Takes X W) (hg : Gl X x := by rfl) (hdb : (x == ("__debug__" : Str)) = false := by decide) :
    PS X (.Raise (some (.Call (.Name x p) [.Constant (.str m) j p2] [] pos)) none pos2) (tRaise C W) := L2N.ps_raise hc tk (pmk_err E hg hdb)
/-- a name of the module -/
theorem pe_gl {X : Cx} {x : Str} {pos : Pos} {v : V} (h : ∃ u, X.mg x = some u ∧ RelV v u) (hg : Gl X x := by rfl) (hd : (x == ("__debug__" : Str)) = false := by decide) : PE X (.Name x pos) (tC v) := by
  obtain ⟨u, hm, r⟩ := h
  exact pe_glob hg hm r hd
/-! ### a dict of the module -/
structure KD (K : PySem.W.Frag) (w : World) (d : Addr) (kvs : List (Str × Value)) : Prop where
  kd : ∃ es n, KDict K w d es n
  f : ∀ z, PySem.W.nsIn K d z = some (kvs.lookup z)
def keyT (e : DictEntry) : Option Str := match e.key with
  | .str x _ => some x
  | _ => none
theorem kd_mk {K : PySem.W.Frag} {w : World} {d : Addr} {kvs : List (Str × Value)} {es : Array DictEntry} {n : Nat} (h : K.lookup d = some ⟨.type "dict", none, .dict es n, #[]⟩) (hk : PySem.W.KeysLit w.params es.toList) (hs : (d == sysModules) = false)
    (hv : es.toList.map (fun e => (keyT e, e.val)) = kvs.map fun p => (some p.1, p.2)) : KD K w d kvs := by
  refine ⟨⟨es, n, h, hk, hs⟩, fun z => ?_⟩
  unfold PySem.W.nsIn
  rw [h]
  show (match es.toList.find? (·.key.isStr z) with | some e => some (some e.val) | none => if es.toList.any (·.refKey) then none else some none) = _
  generalize es.toList = l at hk hv
  have key : ∀ (l : List DictEntry) (kvs : List (Str × Value)), PySem.W.KeysLit w.params l → l.map (fun e => (keyT e, e.val)) = kvs.map (fun p => (some p.1, p.2)) → (l.find? (·.key.isStr z)).map (·.val) = kvs.lookup z ∧ l.any (·.refKey) = false := by
    intro l
    induction l with
    | nil =>
      intro kvs _ hv
      cases kvs with
      | nil => exact ⟨rfl, rfl⟩
      | cons p r => simp at hv
    | cons e l ih =>
      intro kvs hk hv
      cases kvs with
      | nil => simp at hv
      | cons p r =>
        rw [List.map_cons, List.map_cons] at hv
        injection hv with hv1 hv2
        obtain ⟨⟨x, t, hx, _⟩, hk2⟩ := hk
        obtain ⟨i1, i2⟩ := ih r hk2 hv2
        have e1 : keyT e = some p.1 := congrArg Prod.fst hv1
        have e2 : e.val = p.2 := congrArg Prod.snd hv1
        have e3 : x = p.1 := by
          unfold keyT at e1
          rw [hx] at e1
          exact Option.some.inj e1
        have e4 : e.key.isStr z = (z == p.1) := by
          rw [hx, ← e3]
          show (x == z) = (z == x)
          rw [Bool.eq_iff_iff, beq_iff_eq, beq_iff_eq]
          exact ⟨Eq.symm, Eq.symm⟩
        refine ⟨?_, ?_⟩
        · obtain ⟨p1, p2⟩ := p
          rw [List.find?_cons, List.lookup_cons, e4]
          cases z == p1 with
          | true => simpa using e2
          | false => exact i1
        · rw [List.any_cons, i2]
          have : e.refKey = false := by
            unfold DictEntry.refKey
            rw [hx]
          rw [this]; rfl
  obtain ⟨k1, k2⟩ := key l kvs hk hv
  rw [← k1, k2]
  cases l.find? (·.key.isStr z) <;> rfl
section
variable {X : Cx} {d : Addr} {kvs : List (Str × Value)}
def rNotInKD (d : Addr) (kvs : List (Str × Value)) : R2 := fun x y H Q => ∃ z, x = .str z ∧ y = .ref d ∧ Q (.bl (!(kvs.lookup z).isSome)) H
theorem op_notInKD (D : KD X.K X.w d kvs) : OpR X (compareOp .NotIn) (rNotInKD d kvs) := by
  obtain ⟨es, n, D1⟩ := D.kd
  intro pins s σ H x y v u Q I rx ry h
  obtain ⟨z, ex, ey, q⟩ := h
  exact op_notIn_kd D1 pins s σ H x y v u Q I rx ry ⟨z, _, ex, ey, D.f z, q⟩
def rIxKD (d : Addr) (kvs : List (Str × Value)) : R2 := fun x y H Q => ∃ z u v, x = .ref d ∧ y = .str z ∧ kvs.lookup z = some u ∧ RelV v u ∧ Q v H
theorem ix_KD (D : KD X.K X.w d kvs) : IxR X (rIxKD d kvs) := by
  obtain ⟨es, n, D1⟩ := D.kd
  intro value slice pins s σ H x y v u Q I rx ry h hs
  obtain ⟨z, u0, v0, ex, ey, hl, r, q⟩ := h
  exact ix_kdict value slice pins s σ H x y v u Q I rx ry ⟨d, z, v0, ex, ey, ⟨es, n, u0, D1.at_, D1.lit, by rw [D.f z, hl], r⟩, q⟩ hs
end
/-! ### texts -/
def rSplit : V → List V → Hp → VK → Prop := fun x xs H Q => ∃ a b, x = .str a ∧ xs = [.str b] ∧ (b.length == 0) = false ∧ a.length + 2 ≤ sizeLine ∧ rNewStrs (Txt.split a b) H Q
def rPart : V → List V → Hp → VK → Prop := fun x xs H Q => ∃ a b, x = .str a ∧ xs = [.str b] ∧ (b.length == 0) = false ∧ a.length ≤ sizeLine ∧ ∀ p, H p = none → Q (.ref p) (upd H p (.tup [.str (Txt.partition a b).1, .str (Txt.partition a b).2.1, .str (Txt.partition a b).2.2]))
def rT0 (g : Str → V) : V → List V → Hp → VK → Prop := fun x xs H Q => ∃ a, x = .str a ∧ xs = [] ∧ True ∧ Q (g a) H
def rCatS : R2 := fun x y H Q => ∃ i j, x = .str i ∧ y = .str j ∧ i.length + j.length ≤ sizeLine ∧ Q (.str (i ++ j)) H
def rLenS : List V → Hp → VK → Prop := fun xs H Q => ∃ z, xs = [.str z] ∧ z.length ≤ sizeLine ∧ Q (.int z.length) H
def rStrI : List V → Hp → VK → Prop := fun xs H Q => ∃ i : Int, xs = [.int i] ∧ i.natAbs.log2 < 1920 ∧ Q (.str (toString i)) H
def rIntS : List V → Hp → VK → Prop := fun xs H Q => ∃ a n, xs = [.str a] ∧ PySem.intText? a = some n ∧ a.length ≤ 640 ∧ Q (.int n) H
def rIxS : R2 := fun x y H Q => ∃ z i c, x = .str z ∧ y = .int i ∧ 0 ≤ i ∧ i < 2 ^ 63 ∧ i < z.length ∧ z.cps[i.toNat]? = some c ∧ Q (.str ⟨#[c]⟩) H
def rFmt (x : V) (H1 : Hp) (Q : VK) : Prop := (∃ y : Str, x = .str y ∧ y.length ≤ sizeLine ∧ Q (.str y) H1) ∨ ∃ i : Int, x = .int i ∧ i.natAbs.log2 < 1920 ∧ Q (.str (toString i)) H1
def tFs (ts : List TE) : TE := fun σ H Q => tJs ts Str.empty σ H fun out H1 => Q (.str out) H1
section
variable {X : Cx} {o e : Expr} {to te : TE} {apos pos : Pos} {σ : L2.St} {H : Hp} {Q : VK} {a b z y : Str} {r : V → List V → Hp → VK → Prop} {i : Int}
theorem mt_splitY : MtR X "str.split" rSplit := mt_split
theorem mt_partY : MtR X "str.partition" rPart := mt_partition
theorem pe_fs {v1 v2 : Expr} {rest : List Expr} {ts : List TE} (h : PJ X (v1 :: v2 :: rest) ts) : PE X (.JoinedStr (v1 :: v2 :: rest) pos) (tFs ts) := pe_joined h
theorem a_m1 : tM1 r to te σ H Q = to σ H fun x H1 => (∃ a, x = .str a) ∧ te σ H1 fun y H2 => r x [y] H2 Q := rfl
theorem b_isS : (∃ a, V.str z = V.str a) = True := eq_true ⟨z, rfl⟩
theorem b_split : rSplit (.str a) [.str b] H Q = ((b.length == 0) = false ∧ a.length + 2 ≤ sizeLine ∧ NewO H (.lst ((Txt.split a b).map V.str)) Q) := propext ⟨fun ⟨_, _, e1, e2, h⟩ => by cases e1; cases e2; exact h, fun h => ⟨_, _, rfl, rfl, h⟩⟩
theorem b_part : rPart (.str a) [.str b] H Q = ((b.length == 0) = false ∧ a.length ≤ sizeLine ∧ NewO H (.tup [.str (Txt.partition a b).1, .str (Txt.partition a b).2.1, .str (Txt.partition a b).2.2]) Q) := propext ⟨fun ⟨_, _, e1, e2, h⟩ => by cases e1; cases e2; exact h, fun h => ⟨_, _, rfl, rfl, h⟩⟩
theorem b_T0 {g : Str → V} : rT0 g (.str a) [] H Q = Q (g a) H := propext ⟨fun ⟨_, e1, _, _, h⟩ => by cases e1; exact h, fun h => ⟨_, rfl, rfl, trivial, h⟩⟩
theorem b_tyS {K : PySem.W.Frag} : tyV K "str" (.str z) H = True := eq_true rfl
theorem b_addS : rCatS (.str a) (.str b) H Q = (a.length + b.length ≤ sizeLine ∧ Q (.str (a ++ b)) H) := propext ⟨fun ⟨_, _, e1, e2, h⟩ => by cases e1; cases e2; exact h, fun h => ⟨_, _, rfl, rfl, h⟩⟩
theorem b_lenS : rLenS [.str z] H Q = (z.length ≤ sizeLine ∧ Q (.int z.length) H) := propext ⟨fun ⟨_, e1, h⟩ => by cases e1; exact h, fun h => ⟨_, rfl, h⟩⟩
theorem b_strI : rStrI [.int i] H Q = (i.natAbs.log2 < 1920 ∧ Q (.str (toString i)) H) := propext ⟨fun ⟨_, e1, h⟩ => by cases e1; exact h, fun h => ⟨_, rfl, h⟩⟩
theorem b_intS : rIntS [.str z] H Q = ∃ n, PySem.intText? z = some n ∧ z.length ≤ 640 ∧ Q (.int n) H := propext ⟨fun ⟨_, n, e1, h⟩ => by cases e1; exact ⟨n, h⟩, fun ⟨n, h⟩ => ⟨_, n, rfl, h⟩⟩
theorem b_ixS : rIxS (.str z) (.int i) H Q = ∃ c, 0 ≤ i ∧ i < 2 ^ 63 ∧ i < z.length ∧ z.cps[i.toNat]? = some c ∧ Q (.str ⟨#[c]⟩) H := propext ⟨fun ⟨_, _, c, e1, e2, h⟩ => by cases e1; cases e2; exact ⟨c, h⟩, fun ⟨c, h⟩ => ⟨_, _, c, rfl, rfl, h⟩⟩
theorem a_fmt : tFmt te σ H Q = te σ H fun x H1 => rFmt x H1 Q := rfl
theorem b_fmtS : rFmt (.str y) H Q = (y.length ≤ sizeLine ∧ Q (.str y) H) := propext (Iff.intro (fun h => match h with
  | Or.inl ⟨_, e, h⟩ => by cases e; exact h
  | Or.inr ⟨_, e, _⟩ => by cases e) fun h => Or.inl ⟨_, rfl, h⟩)
theorem b_fmtI : rFmt (.int i) H Q = (i.natAbs.log2 < 1920 ∧ Q (.str (toString i)) H) := propext (Iff.intro (fun h => match h with
  | Or.inl ⟨_, e, _⟩ => by cases e
  | Or.inr ⟨_, e, h⟩ => by cases e; exact h) fun h => Or.inr ⟨_, rfl, h⟩)
theorem a_fs {ts : List TE} : tFs ts σ H Q = tJs ts Str.empty σ H fun out H1 => Q (.str out) H1 := rfl
theorem a_jsN {acc : Str} {q : Str → Hp → Prop} : tJs [] acc σ H q = q acc H := rfl
theorem a_jsC {t : TE} {ts : List TE} {acc : Str} {q : Str → Hp → Prop} : tJs (t :: ts) acc σ H q = t σ H fun x H1 => ∃ y : Str, x = .str y ∧ (acc ++ y).length ≤ sizeLine ∧ tJs ts (acc ++ y) σ H1 q := rfl
theorem b_notInKD {d : Addr} {kvs : List (Str × Value)} : rNotInKD d kvs (.str z) (.ref d) H Q = Q (.bl (!(kvs.lookup z).isSome)) H := propext ⟨fun ⟨_, e1, _, h⟩ => by cases e1; exact h, fun h => ⟨_, rfl, rfl, h⟩⟩
theorem b_ixKD {d : Addr} {kvs : List (Str × Value)} : rIxKD d kvs (.ref d) (.str z) H Q = ∃ u v, kvs.lookup z = some u ∧ RelV v u ∧ Q v H := propext ⟨fun ⟨_, u, v, _, e1, h⟩ => by cases e1; exact ⟨u, v, h⟩, fun ⟨u, v, h⟩ => ⟨_, u, v, rfl, rfl, h⟩⟩
theorem a_callS {sp : Sp} {E : L2.St → XK} {tas : TA} : tCallS sp E tas σ H Q = tas σ H fun vs H1 => sp vs H1 Q (E σ) := rfl
theorem a_raise {C : Addr} {W : WX} {D : Ends} : tRaise C W D σ H = W (.ref C) none σ H := rfl
theorem b_gTup' {K : PySem.W.Frag} {n : Nat} {t : TGs} {q : L2.St → Hp → Prop} {p : Addr} {xs : List V} (h : SqT K H p xs) (hl : xs.length = n) (h2 : t xs σ H q) : gTup K n t (.ref p) σ H q := ⟨p, xs, rfl, h, hl, h2⟩
/-- one of three texts of tuples' texts -/
theorem op_addSY : OpR X (binaryOp .Add) rCatS := op_add_str
theorem call_lenSY : CallR X (.builtin "len") rLenS := call_len_str
theorem call_strIY : CallR X (.type "str") rStrI := call_str_int
theorem call_intSY : CallR X (.type "int") rIntS := call_int_str
theorem pe_ixSY {a b : Expr} {ta tb : TE} (ha : PE X a ta) (hb : PE X b tb) (hs : PlainIxT b) : PE X (.Subscript a b pos) (tOp rIxS ta tb) := pe_item_str ha hb hs
theorem mt_isasciiY : MtR X "str.isascii" (rT0 fun a => .bl (Txt.isascii a)) := mt_isascii
theorem mt_isdigitY : MtR X "str.isdigit" (rT0 fun a => .bl (Txt.isdigit a)) := mt_isdigit
end
theorem b_at5 {x y z w v u : V} {xs : List V} : atI (x :: y :: z :: w :: v :: u :: xs) 5 = some u := atI_nat (j := 5) rfl
theorem b_at6 {x y z w v u a : V} {xs : List V} : atI (x :: y :: z :: w :: v :: u :: a :: xs) 6 = some a := atI_nat (j := 6) rfl
theorem b_at7 {x y z w v u a b : V} {xs : List V} : atI (x :: y :: z :: w :: v :: u :: a :: b :: xs) 7 = some b := atI_nat (j := 7) rfl
theorem b_at8 {x y z w v u a b c : V} {xs : List V} : atI (x :: y :: z :: w :: v :: u :: a :: b :: c :: xs) 8 = some c := atI_nat (j := 8) rfl
theorem eqV_str {a b : Str} : eqV (.str a) (.str b) = decide (a = b) := by
  first
  | rfl
  | (show (a == b) = decide (a = b); rw [Bool.beq_eq_decide_eq])
  | simp [eqV]
theorem iteT' {c A B : Prop} [Decidable c] (hc : c) (h : A) : if c then A else B := by rw [if_pos hc]; exact h
theorem iteF' {c A B : Prop} [Decidable c] (hc : ¬ c) (h : B) : if c then A else B := by rw [if_neg hc]; exact h
/-! ### data: none, marks, mails -/
section
variable {K : PySem.W.Frag} {H : Hp} {v u : V} {α : Type} [DecidableEq α] [PySem.W.Datum α] [PySem.W.SomeDatum α]
theorem dvL_strs : ∀ ns : List Str, DvL K H (ns.map V.str) ns
  | [] => .nil
  | n :: ns => .cons (dv_str n) (dvL_strs ns)
theorem dv_none : Dv K H .non (none : Option α) := Dp.non
theorem dv_some {x : α} (h : Dv K H v x) : Dv K H v (some x) := h
theorem dv_none_of (h : Dv K H v (none : Option α)) : v = .non := by
  have h : Dp K H v .none := h
  cases h; rfl
theorem dv_some_of {x : α} (h : Dv K H v (some x)) : Dv K H v x := h
theorem dv_mail {a : Addr} {m : Tx.Mail} (h : SqT K H a [.str m.w, .int m.l, .int m.a, .int m.b, u]) (k : Dv K H u m.m) : Dv K H (.ref a) m := Dp.tup h (.cons (.str _) (.cons (.int _) (.cons (.int _) (.cons (.int _) (.cons k .nil)))))
theorem dv_mail_of {m : Tx.Mail} (h : Dv K H v m) : ∃ a u, v = .ref a ∧ SqT K H a [.str m.w, .int m.l, .int m.a, .int m.b, u] ∧ Dv K H u m.m := by
  have h : Dp K H v (.tuple [.str m.w, .int m.l, .int m.a, .int m.b, PySem.W.Datum.toD m.m]) := h
  cases h with
  | tup a b =>
    cases b with
    | cons b1 b =>
      cases b with
      | cons b2 b =>
        cases b with
        | cons b3 b =>
          cases b with
          | cons b4 b =>
            cases b with
            | cons b5 b =>
              cases b
              cases b1; cases b2; cases b3; cases b4
              exact ⟨_, _, rfl, a, b5⟩
end
instance : Flat Tx.Mail := ⟨fun x => by
  show noL (.tuple [.str x.w, .int x.l, .int x.a, .int x.b, PySem.W.Datum.toD x.m]) = true
  have e : noL (PySem.W.Datum.toD x.m) = true := by
    cases x.m with
    | none => rfl
    | some p => exact Flat.flat p
  simp [noL, noLs, e]⟩
/-! ### a comprehension over a text -/
section
variable {σ : L2.St} {H : Hp} {Q : VK} {K : PySem.W.Frag} {g : TG} {te : TE} {vs : List Nat} {β : Type} [DecidableEq β] [PySem.W.Datum β] [Flat β]
theorem comp_str (z : List Nat) (F : Nat → β) (hz : z.length ≤ 100000)
    (el : ∀ (c : Nat) (H' : Hp), Same H H' → c ∈ z → ∀ (R : VK), (∀ y H'', Same H' H'' → Dv K H'' y (F c) → R y H'') → g (.str ⟨#[c]⟩) (wipe σ vs) H' fun σ2 H2 => wipe σ2 vs = wipe σ vs ∧ te σ2 H2 R)
    (hd : ∀ D ys H', H D = none → Same H H' → H' D = some (.lst ys) → DvL K H' ys (z.map F) → Q (.ref D) H') : LoopC (Its (SX.S z)) g tYes te vs σ Q H := by
  intro D hD
  refine ⟨fun i m H' => m + i = z.length ∧ Same H H' ∧ ∃ ys, H' D = some (.lst ys) ∧ DvL K H' ys ((z.take i).map F), ⟨z.length, rfl, Same.new hD, [], upd_same, .nil⟩, ?_⟩
  rintro i m H' ⟨hm, s1, ys, h1, h2⟩
  have esz : (SX.S z).cps.size = z.length := by simp
  by_cases hlt : i < z.length
  · refine .inr ⟨by show i < (SX.S z).cps.size; omega, fun H4 => Same H H4 ∧ ∃ ys, H4 D = some (.lst ys) ∧ DvL K H4 ys ((z.take (i + 1)).map F), fun H4 h4 => ⟨m - 1, by omega, by omega, h4⟩, ?_⟩
    rintro x H2 ⟨rfl, c, hc, rfl⟩
    have hc' : z[i]? = some c := by
      rw [← hc]
      simp
    have et : z.take (i + 1) = z.take i ++ [c] := by rw [List.take_add_one, hc']; rfl
    have k := el c H2 s1 (List.mem_of_getElem? hc') (fun y H4 => ∃ acc, H4 D = some (.lst acc) ∧ acc.length < sizeLine ∧ (Same H (upd H4 D (.lst (acc ++ [y]))) ∧ ∃ ys, (upd H4 D (.lst (acc ++ [y]))) D = some (.lst ys) ∧ DvL K (upd H4 D (.lst (acc ++ [y]))) ys ((z.take (i + 1)).map F))) fun y H4 s2 dy => by
      have hn := h2.length
      rw [List.length_map, List.length_take] at hn
      refine ⟨ys, s2 _ _ h1, sz_lt (by omega), (s1.trans s2).mut hD, ys ++ [y], upd_same, ?_⟩
      rw [et, List.map_append]
      have s3 : Frm (fun b => b = D) H4 (upd H4 D (.lst (ys ++ [y]))) := Frm.upd (s2 _ _ h1) (fun z => z)
      exact ((h2.same s2).frm s3).snoc (dy.frm s3)
    exact k
  · refine .inl ⟨by show (SX.S z).cps.size ≤ i; omega, ?_⟩
    rw [List.take_of_length_le (by omega)] at h2
    exact hd D ys H' hD s1 h1 h2
end
theorem b_slX {z : Str} {lo hi : Option Int} {H : Hp} {Q : VK} : C8.rSlX (.str z) lo hi H Q = (z.length ≤ sizeLine ∧ Q (.str (Txt.slice z lo hi)) H) := propext ⟨fun ⟨_, e, h⟩ => by cases e; exact h, fun h => ⟨_, rfl, h⟩⟩
theorem pick_mem {xs : List V} {i : Int} (h0 : 0 ≤ i) (h1 : i < xs.length) : ∃ v, atI xs i = some v ∧ v ∈ xs := by
  obtain ⟨n, rfl⟩ : ∃ n : Nat, i = (n : Int) := ⟨i.toNat, (Int.toNat_of_nonneg h0).symm⟩
  have hl : n < xs.length := by omega
  exact ⟨xs[n], atI_nat (List.getElem?_eq_getElem hl), List.getElem_mem hl⟩
theorem cutV_mid {xs : List V} {k n : Nat} (h : n ≤ xs.length) : cutV xs (some (k : Int)) (some (n : Int)) = (xs.drop k).take (n - k) := by
  unfold cutV
  rw [HT.sIx_nat, HT.sIx_nat, Nat.min_eq_left h]
  by_cases hk : k ≤ xs.length
  · rw [Nat.min_eq_left hk]
  · rw [List.drop_eq_nil_of_le (show xs.length ≤ min k xs.length by omega), List.drop_eq_nil_of_le (show xs.length ≤ k by omega), List.take_nil, List.take_nil]
end Y

set_option Elab.async false
set_option linter.all false
set_option maxRecDepth 100000
/-! A comprehension over a list, in a def that is called while an exception is handled. -/
namespace Y
open PySem PySem.Spec PyProof.Rows L2
section
variable {prog : Program} {w : World} {A : Around} {E : Value → Shared → Prop} {s : Shared}
/-- a list's iterator at its end, an exception being handled -/
theorem hot_end {it l x1 : Addr} {i : Nat} {items : Array Value} {Q : Option Value → Shared → Prop} (hot : HotX.HotAt A x1 s.heap) (hit : s.heap.IsListIter it l i) (hl : s.heap.IsList l items) (hx : items[i]? = none)
    (hQ : ∀ h', (∀ b o, b ≠ it → s.heap.get? b = some o → h'.get? b = some o) → Q none { s with heap := h' }) : wpAny (model prog w) A (pyNext (.ref it)) Q E s := by
  obtain ⟨hh, ox, vx, gx, dx, cx⟩ := hot
  obtain ⟨oi, gi, ci, di⟩ := id hit
  obtain ⟨ol, gl, _, nl, dl⟩ := hl
  have ne1 : x1 ≠ it := fun z => by
    subst z
    rw [gi] at gx
    cases gx
    rw [di] at dx
    cases dx
    simp at cx
  unfold pyNext
  refine wpAny_bind (wpAny_attempt (wpAny_callSpecial?_slot (name := Str.ofString "__next__") hit.typeIs slot_listiter_next
    (wpAny_call_entry slot_listiter_next hit.typeIs entry_listiter_next ?body (args_listiter_next _))))
  case body =>
    show wpAny _ _ (field (.ref it) 0 >>= fun z => _) _ _ s
    refine wpAny_bind (wpAny_field gi di (x := .ref l) rfl ?_)
    rw [if_neg (show ¬ ((Value.ref l == Value.none) = true) from nofun)]
    show wpAny _ _ (field (.ref it) 1 >>= fun z => _) _ _ s
    refine wpAny_bind (wpAny_field gi di (x := .int i 0) rfl ?_)
    show wpAny _ _ (seqItems? (.ref l) >>= fun z => _) _ _ s
    refine wpAny_bind (wpAny_seqItems gl dl ?_)
    simp only [Int.toNat_natCast, hx]
    refine wpAny_bind (wpAny_rule (wpAny_bind (wpAny_setField gi di (by simp) ?_)))
    have up : ∀ b o, b ≠ it → s.heap.get? b = some o → (s.heap.update it (Obj.mapFields fun x => x.setIfInBounds 0 Value.none)).get? b = some o := fun b o hb e => by
      rw [Heap.get?_update_other _ _ (fun z => hb z.symm)]
      exact e
    show wpAny _ _ (newExc (.type "StopIteration") [] >>= fun z => _) _ _ _
    refine wpAny_bind ?_
    simp only [newExc, newTuple]
    refine wpAny_bind (wpAny_newObj_type ?_ (by size_fits))
    refine wpAny_bind (m := firstArgMember _ _) (wpAny_of_eq (a := Value.none) (by first | rfl | (simp only [firstArgMember]; rfl)) ?_)
    refine wpAny_newObj_type ?_ (by size_fits)
    have gx' := Heap.get?_push_of_some { cls := .type "StopIteration", data := .fields #[] } (Heap.get?_push_of_some { cls := .type "tuple", data := .seq #[] } (up x1 ox ne1 gx))
    refine HotX.raiseNew_hot (x1 := x1) ⟨hh, ox, vx, Heap.get?_push_of_some _ (Heap.get?_push_of_some _ (up x1 ox ne1 gx)), dx, cx⟩ (Nat.ne_of_lt (Heap.lt_size (Heap.get?_push_of_some _ (up x1 ox ne1 gx)))) (Heap.get?_push_size _ rfl) rfl (by first | (simp; done) | (simp; omega) | (simp only [Array.size_append]; simp; omega)) ?_
    refine wpAny_bind (wpAny_isInstance (T := "StopIteration") (b := true) ⟨_, Heap.get?_update_self _ (Heap.get?_push_size _ rfl) rfl, rfl⟩ isSubtype_stop ?_)
    refine wpAny_pure (hQ _ fun b o hb e => ?_)
    have e2 := Heap.get?_push_of_some { cls := .type "tuple", data := .seq #[] } (up b o hb e)
    rw [Heap.get?_update_other _ _ (Nat.ne_of_gt (Heap.lt_size (Heap.get?_push_of_some _ (up b o hb e))))]
    exact Heap.get?_push_of_some _ (Heap.get?_push_of_some _ (up b o hb e))
end
section
variable {X : Cx}
/-- the handled exception stands where a block has run -/
theorem hot_blk {pins : List (Addr × Obj)} {σ σ' : L2.St} {H H' : Hp} {s s' : Shared} {scope : Scope} {ce : Env} {it : Addr} (hot : L2H.HotC X) (I : Inv X pins σ H s) (hit : it ∉ (X.pn ++ pins).map (·.1)) (B : Inv (X.blk s H scope ce [it]) [] σ' H' s') : ∃ x1, HotX.HotAt X.A x1 s'.heap := by
  obtain ⟨p, ⟨hh, vx, dx, cx⟩, hp⟩ := hot
  obtain ⟨gp, fp, nl, nf, _⟩ := I.pin p (List.mem_append_left _ hp)
  refine ⟨p.1, hh, p.2, vx, B.base.keep p.1 p.2 gp fp (fun m => ?_) (fun m => ?_), dx, cx⟩
  · exact (List.mem_cons.mp (I.stkSub p.1 m)).elim nl nf
  · exact hit (List.mem_map.mpr ⟨p, List.mem_append_left _ hp, List.mem_singleton.mp m⟩)
theorem pe_lcH {elt iter tg : Expr} {scope : Scope} {own : List (Str × Nat)} {pos : Pos} {tl te : TE} {g : TG} (hot : L2H.HotC X) (hN : X.N.Nodup) (hi : PE X iter tl) (ok : BlkOk X.N X.env.scope scope own)
    (hg : ∀ (s : Shared) (H : Hp) (C : Addr) (cl : List (Str × Addr)) (fp : List Addr), PG (X.blk s H scope (compEnvC scope cl C X.env) fp) tg g)
    (he : ∀ (s : Shared) (H : Hp) (C : Addr) (cl : List (Str × Addr)) (fp : List Addr), PE (X.blk s H scope (compEnvC scope cl C X.env) fp) elt te) (hs : ∀ x, foldedSetIterable iter X.env x = pure x := by intro _; rfl) :
    PE X (.ListComp elt [⟨tg, iter, [], 0⟩] scope pos) (tLc (iList X.K tl) g tYes te (own.map (·.2))) := by
  refine ⟨fun pins s σ H Q I h => ?_⟩
  rw [eval_ListComp]
  have fr : ∀ y ∈ scope.names, y.2 = .free → ∃ c, X.env.cells.lookup y.1 = some c := fun y hy e => (ok.free y hy e).elim (fun k => I.ok.has _ (.inl k)) fun k => I.ok.has _ (.inr k)
  refine wpAny_comprehension_free (use := none) rfl hs (closure_ok fr) ok.kind (fun y hy e => (ok.uniq y hy).trans (congrArg some e)) ?_
  refine thn (hi.run pins s σ H _ I h) fun lv s1 hl => ?_
  obtain ⟨xv, H1, I1, rl, a, rfl, ⟨xs, hq⟩, loopQ⟩ := hl
  cases rl
  obtain ⟨its, rv, pl, _⟩ := I1.list hq
  refine wpAny_pyIter_list pl.isList ?_
  -- the iterator, the new list
  obtain ⟨it, hit0⟩ : ∃ it, it = s1.heap.objs.size := ⟨_, rfl⟩
  obtain ⟨s2, hs2⟩ : ∃ s2 : Shared, s2 = { s1 with heap := s1.heap.push { cls := .type "list_iterator", data := .fields #[.ref a, .int 0 0] } } := ⟨_, rfl⟩
  have I2 : Inv X pins σ H1 s2 := by
    rw [hs2]
    exact I1.kept (t' := s1.toks) fun b o e => Heap.get?_push_of_some _ e
  have ti2 : s2.heap.IsListIter it a 0 := by
    rw [hs2, hit0]
    exact ⟨_, Heap.get?_push_size _ rfl, rfl, rfl⟩
  have fp2 : FpOk X pins H1 it := I1.fpOk (Nat.le_of_eq hit0.symm) (I1.hok.fresh (Nat.le_of_eq hit0.symm))
  rw [← hs2, ← hit0]
  refine wpAny_newObj_type (newEnv_comp ?_) (by show 0 ≤ sizeLine; decide)
  obtain ⟨D, hD⟩ : ∃ D, D = s2.heap.objs.size := ⟨_, rfl⟩
  have noD : H1 D = none := I2.hok.fresh (Nat.le_of_eq hD.symm)
  obtain ⟨W, ⟨m0, w0⟩, turn⟩ := loopQ D noD
  obtain ⟨s3, hs3⟩ : ∃ s3 : Shared, s3 = { s2 with heap := s2.heap.push { cls := .type "list", data := .seq ([] : List Value).toArray } } := ⟨_, rfl⟩
  obtain ⟨H3, hH3⟩ : ∃ H3 : Hp, H3 = upd H1 D (.lst []) := ⟨_, rfl⟩
  have old3 : ∀ b o, s2.heap.get? b = some o → s3.heap.get? b = some o := fun b o e => by
    rw [hs3]
    exact Heap.get?_push_of_some _ e
  have I3 : Inv X pins σ H3 s3 := by
    rw [hs3, hH3]
    refine I2.laid (t' := s2.toks) (fun b o e => Heap.get?_push_of_some _ e) (Nat.le_of_eq hD.symm) ⟨Nat.zero_le _, [], 0, .nil, ?_⟩
    rw [hD]
    exact Heap.get?_push_size _ rfl
  have itlt : it < s2.heap.objs.size := by
    obtain ⟨o, e, _⟩ := ti2
    exact Heap.lt_size e
  have itD : it ≠ D := by rw [hD]; exact Nat.ne_of_lt itlt
  have fp3 : FpOk X pins H3 it := by
    refine ⟨?_, fp2.2⟩
    rw [hH3, upd_ne itD]
    exact fp2.1
  have sz3 : it < s3.heap.objs.size := by
    obtain ⟨o, e, _⟩ := ti2
    exact Heap.lt_size (old3 _ _ e)
  have I4 := block_start (fp := [it]) I3 ok hN fun b hb => by
    rw [List.mem_singleton.mp hb]
    exact ⟨fp3, sz3⟩
  have pg := hg s3 H3 s3.heap.objs.size (cellsFrom (s3.heap.objs.size + 1) scope.names (cloFrom X.env.cells scope.names [])) [it]
  have pe := he s3 H3 s3.heap.objs.size (cellsFrom (s3.heap.objs.size + 1) scope.names (cloFrom X.env.cells scope.names [])) [it]
  rw [← hD]
  rw [← hH3] at w0
  rw [← hs3]
  obtain ⟨cl, hcl⟩ : ∃ cl, cl = cellsFrom (s3.heap.objs.size + 1) scope.names (cloFrom X.env.cells scope.names []) := ⟨_, rfl⟩
  obtain ⟨L, hL⟩ : ∃ L, L = s3.heap.objs.size := ⟨_, rfl⟩
  obtain ⟨s4, hs4⟩ : ∃ s4 : Shared, s4 = { s3 with heap := pushCells (s3.heap.push { cls := .type "dict", data := .dict #[] }) scope.names } := ⟨_, rfl⟩
  show codeAny _ _ (.compStart (.ListComp elt [⟨tg, iter, [], 0⟩] scope pos) 0 (.ref it) (.ref D) (compEnvC scope (cellsFrom (s3.heap.objs.size + 1) scope.names (cloFrom X.env.cells scope.names [])) s3.heap.objs.size X.env))
    (compPost (model X.prog X.w) X.A X.xe none (EP X pins σ Q) (.ref D) s3.heap.objs.size) { s3 with heap := pushCells (s3.heap.push { cls := .type "dict", data := .dict #[] }) scope.names }
  rw [← hs4, ← hcl, ← hL]
  rw [← hs4, ← hcl, ← hL] at I4
  rw [← hcl, ← hL] at pg pe
  have ti4 : s4.heap.IsListIter it a 0 := by
    obtain ⟨o, e, r⟩ := ti2
    refine ⟨o, ?_, r⟩
    rw [hs4]
    exact pushCells_keeps _ _ _ _ (Heap.get?_push_of_some _ (old3 _ _ e))
  obtain ⟨ce, hce⟩ : ∃ ce, ce = compEnvC scope cl L X.env := ⟨_, rfl⟩
  rw [← hce]
  rw [← hce] at I4 pg pe
  have cL : ce.locals = L := by rw [hce]; rfl
  have noIt : it ∉ (X.pn ++ pins).map (·.1) := fun m => by
    obtain ⟨p, hp, e⟩ := List.mem_map.mp m
    exact fp3.2.2.2.2.2 p hp e
  have stat : ∀ {σ' : L2.St} {H' : Hp} {s' : Shared}, Inv (X.blk s3 H3 scope ce [it]) [] σ' H' s' → H' it = none → FpOk (X.blk s3 H3 scope ce [it]) [] H' it := fun I' hn =>
    ⟨hn, (I'.ok.exf it (List.mem_singleton.mpr rfl)).1, I'.ok.exfs it (List.mem_singleton.mpr rfl), .inl (List.mem_singleton.mpr rfl), fun x c e => (I'.ok.exf it (List.mem_singleton.mpr rfl)).2 x c e, fun p hp => nomatch hp⟩
  have loop : codeAny (model X.prog X.w) X.A (.compLoop (.ListComp elt [⟨tg, iter, [], 0⟩] scope pos) 0 (.ref it) (.ref D) ce) (compPost (model X.prog X.w) X.A X.xe none (EP X pins σ Q) (.ref D) L) s4 := by
    refine compLoop_any (fun n t => ∃ i H', Inv (X.blk s3 H3 scope ce [it]) [] (wipe σ (own.map (·.2))) H' t ∧ t.heap.IsListIter it a i ∧ H' it = none ∧ W i n H') ?_ m0 ⟨0, H3, I4, ti4, fp3.1, w0⟩
    rintro n t ⟨i, Ht, It', tit, tno, wt⟩
    rcases turn i n Ht wt with ⟨⟨zs, hz, hle⟩, qq⟩ | ⟨⟨zs, z, hz, hx⟩, Nx, hNx, step⟩
    · -- the end
      obtain ⟨jts, rz, plz, _⟩ := It'.list hz
      obtain ⟨x1, hx1⟩ := hot_blk hot I3 noIt It'
      obtain ⟨f0, f1, f2, f3, f4, f5⟩ := stat It' tno
      have hl := rz.length
      refine hot_end hx1 tit plz.isList (by simp; omega) fun h' eb => ?_
      have I6 : Inv (X.blk s3 H3 scope ce [it]) [] (wipe σ (own.map (·.2))) Ht { t with heap := h' } := It'.turned (t' := t.toks) eb f0 f1 f3 f4 f5
      have I7 : Inv X pins σ Ht { t with heap := h' } := I3.call' (ch := [it]) I6.os I6.base I6.hok I6.bare fun b hb => by
        rw [List.mem_singleton.mp hb]
        exact ⟨fp3.2.2.2.1, fp3.2.1, fp3.2.2.2.2.1, fp3.2.2.2.2.2⟩
      have nL : Ht L = none := by
        have q0 : Ht ce.locals = none := I6.free
        rw [cL] at q0
        exact q0
      obtain ⟨mm, hn, _⟩ := I6.loc
      have hn : Heap.Ns h' ce.locals mm := hn
      rw [cL] at hn
      obtain ⟨e0, e1, e2, e3, e4, e5⟩ := I3.fpOk (b := L) (Nat.le_of_eq hL.symm) nL
      exact ⟨mm, hn, fun h'' sb => ⟨.ref D, Ht, I7.turned (t' := t.toks) (fun b o hb e => (sb.2 b hb).trans e) e0 e1 e3 e4 e5, rfl, qq⟩⟩
    · -- a turn
      obtain ⟨jts, rz, plz, _⟩ := It'.list hz
      obtain ⟨u, hu, ru⟩ := rz.get hx
      obtain ⟨f0, f1, f2, f3, f4, f5⟩ := stat It' tno
      refine wpAny_pyNext_list_item tit plz.isList (x := u) (by simpa using hu) fun h' ti' sb => ?_
      have I6 : Inv (X.blk s3 H3 scope ce [it]) [] (wipe σ (own.map (·.2))) Ht { t with heap := h' } := It'.turned (t' := t.toks) (fun b o hb e => (sb.2 b hb).trans e) f0 f1 f3 f4 f5
      obtain ⟨oi, gi, ci, di⟩ := id ti'
      refine go_of (s := { t with heap := h' }) gi ci di (by decide) ?_
      have I7 := I6.pinned (fp := [it]) (fun b hb => by rw [List.mem_singleton.mp hb]; exact stat I6 tno) (fun b hb => by
        rw [List.mem_singleton.mp hb]
        exact ⟨oi, gi, fun v z => by rw [di] at z; cases z⟩)
      refine thnF (pg.run _ _ _ Ht z u _ I7 ru (step z Ht ⟨rfl, fun ys hy => by rw [It'.list_inj hy hz]; exact hx⟩)) fun _ t8 ⟨σ8, H8, I8, hw8, q8⟩ => ?_
      refine wpAny_tests_nil ?_
      simp only [if_true]
      have q8 : te σ8 H8 fun y H4 => ∃ acc, H4 D = some (.lst acc) ∧ acc.length < sizeLine ∧ Nx (upd H4 D (.lst (acc ++ [y]))) := q8
      refine thnF (pe.run _ t8 σ8 H8 _ I8 q8) fun y t10 ⟨yv, H10, I10, r10, acc, hD10, hz10, nx⟩ => ?_
      refine app_ok (X := X.blk s3 H3 scope ce [it]) I10 hD10 hz10 r10 fun t11 I11 => ?_
      obtain ⟨m', hm, w'⟩ := hNx _ nx
      have pin11 := I11.pin (it, oi) (List.mem_append_right _ (List.mem_append_right _ (mem_pinsAt (List.mem_singleton.mpr rfl) gi)))
      refine ⟨m', hm, i + 1, _, (I11.unpinned (pins := [])).weak (by rw [← hw8, wipe_length]) (fun j v e => ?_), ?_, pin11.2.1, w'⟩
      · rw [← hw8] at e
        exact (wipe_some e).1
      · obtain ⟨o', g', r'⟩ := ti'
        rw [gi] at g'
        cases g'
        exact ⟨oi, pin11.1, r'⟩
  exact codeAny_compStart_list loop (wpAny_pyIter_listiter ti4 loop)
end
end Y

set_option Elab.async false
set_option linter.all false
set_option maxRecDepth 100000
/-! A def that is handed the handled exception itself. -/
namespace Y
open PySem PySem.Spec PyProof.Rows L2 L2H
/-- the promise of a def that is called while p is handled -/
structure FnE (P : Program) (w : World) (K : PySem.W.Frag) (mg : Str → Option Value) (base : Heap) (k : Nat) (f : Addr) (fd : FuncData) (ps : List Str) (p : Addr × Obj) (sp : Sp) : Prop where
  len : ∀ vs H Q E, sp vs H Q E → vs.length = ps.length
  run : ∀ (A : Around) (outer : List Env) (s : Shared) (H : Hp) (args : Args) (us : List Value) (vs : List V) (Q : VK) (E : XK), RoomH k A → Hot1 A p → PinOk outer H s p → Env0 P w K mg base A outer s H → BindsTo s fd args (ps.zip us) → Vals vs us → sp vs H Q E →
    codeAny (model P w) A (.call (.ref f) args) (CR CX0 outer P w H s Q E) s
theorem fn_E {P : Program} {w : World} {K : PySem.W.Frag} {mg : Str → Option Value} {base : Heap} {k : Nat} {x qual : Str} {st : Stmt} {f : Addr} {fd : FuncData} {N ps : List Str} {p : Addr × Obj} {sp : Sp} (F : Fun K x qual st f fd) (S : FnScope N ps (defScope st)) (len : ∀ vs H Q E, sp vs H Q E → vs.length = ps.length)
    (body : ∀ (cdv : Value) (A : Around) (outer : List Env) (s : Shared) (H : Hp) (vs : List V) (Q : VK) (E : XK), Hot1 A p → RoomH k (A.deeper (envOfC qual (defScope st) s.heap.objs.size f cdv)) → sp vs H Q E →
      ∃ t, PSs (cxH CX0 P w K mg base N qual (defScope st) f cdv A outer s H E p) (defBody st) t ∧ t { nx := fun _ H' => Q .non H', rt := Q } (L2.start N vs) H) : FnE P w K mg base (k + 1) f fd ps p sp := by
  obtain ⟨oc, od, kV, doc, pm, an, cdv, ct, osl, rfl, lk, hcd⟩ := F.ex
  refine ⟨len, ?_⟩
  intro A outer s H args us vs Q E room hot pin env bind vals want
  have nv := len _ _ _ _ want
  have hK : K.In s.heap := env.mod.kin.keeps fun b o e => (env.bs b o e).1
  have kinds : ∀ y ∈ ps.zip us, (defScope st).names.lookup y.1 = some .local ∨ ((defScope st).names.lookup y.1 = some .cell ∧ ((cellsFrom (s.heap.objs.size + 1) (defScope st).names []).lookup y.1).isSome = true) := by
    intro y hy
    obtain ⟨n, v⟩ := y
    refine (S.par n (List.of_mem_zip hy).1).imp _root_.id fun c => ⟨c, ?_⟩
    exact PySem.W.cellsFrom_some _ _ _ (.inl c)
  refine codeAny_call_function room.depth (hK _ _ lk) rfl S.co S.gen rfl (PySem.W.codeRec_of hK hcd) (bind _ _ _ _ ?_)
  refine wpAny_newFunctionEnv_cells S.kind kinds fun e he s1 x => ?_
  cases he
  refine ⟨(env.mod.nolimit.keeps fun b o e => (env.bs b o e).1).keeps x.toInCall.keep, codeAny_func ?_⟩
  obtain ⟨t, ht, hq⟩ := body cdv A outer s H vs Q E hot (room.deeper _) want
  refine wpAny_mono (ht.run [] s1 (L2.start N vs) H _ (inv_startH S pin env nv vals x) hq) (fun fl s' hs => ?_) fun _ _ z => z
  cases fl with
  | ret u =>
    obtain ⟨v, σ', H', J, rv, q⟩ := hs
    exact ⟨v, H', J.os, J.bare, J.base, J.hok, rv, q⟩
  | next =>
    obtain ⟨σ', H', J, q⟩ := hs
    exact ⟨V.non, H', J.os, J.bare, J.base, J.hok, rfl, q⟩
  | brk => exact hs.elim fun _ z => z.elim fun _ z => z.2.elim
  | cont => exact hs.elim fun _ z => z.elim fun _ z => z.2.elim
/-- .. as one fact, over every exception of class cls -/
structure CalE (P : Program) (w : World) (K : PySem.W.Frag) (mg : Str → Option Value) (base : Heap) (k : Nat) (x : Str) (ps : List Str) (sp : Addr → Value → Option Addr → Sp) : Prop where
  ex : ∃ (f : Addr) (fd : FuncData), (∀ (p : Addr × Obj) (cls : Value) (d : Option Addr), L2N.Zn cls d p.2 → (∃ vs, p.2.data = .fields vs) → FnE P w K mg base k f fd ps p (sp p.1 cls d)) ∧ mg x = some (.ref f) ∧ PySem.W.keepIn K (.ref f) = true ∧ Binds K fd ps []
section
variable {X : Cx}
theorem pe_callE {k : Nat} {x : Str} {ps : List Str} {sp : Addr → Value → Option Addr → Sp} {a : Addr} {oe : Obj} {cls : Value} {d : Option Addr} {pn : List (Addr × Obj)} {q pos : Pos} {e : Expr} {es : List Expr} {t : TA}
    (C : CalE X.prog X.w X.K X.mg X.base k x ps sp) (hr : Room k X.A) (hz : L2N.Zn cls d oe) (hf : ∃ vs, oe.data = .fields vs) (ha : PA (X.suite a ((a, oe) :: pn)) (e :: es) t) (hg : Gl X x := by rfl)
    (hdb : (x == ("__debug__" : Str)) = false := by decide) (he : starEach (e :: es) X.env = (false, eval e X.env) :: starEach es X.env := by rfl) (hpl : (backTo pos (starEach es X.env)).any (·.1) = false := by rfl) :
    PE (X.suite a ((a, oe) :: pn)) (.Call (.Name x q) (e :: es) [] pos) (tCall (sp a cls d) [] E0 t) := by
  obtain ⟨f, fd, F, m, kp, b⟩ := C.ex
  refine ⟨fun pins s σ H Q I h => ?_⟩
  refine wpAny_Call_Name_kw (ld_glob I hg m ?_ hdb)
  refine PySem.W.callWith_K (h₀ := X.base) I.ok.mod.kin kp (thn (ha.run pos pins s σ H _ I h) fun us s1 hh => ?_) he hpl
  obtain ⟨vs, H1, I1, r, want⟩ := hh
  rw [List.append_nil] at want
  refine ⟨I1.kIn, ?_⟩
  have G := F (a, oe) cls d hz hf
  have hl : us.length = ps.length := by rw [← r.length]; exact G.len _ _ _ _ want
  have bb := b s1 us I1.kIn (by rw [List.append_nil]; exact hl)
  rw [List.append_nil] at bb
  have pk := I1.pin (a, oe) (List.mem_append_left _ List.mem_cons_self)
  obtain ⟨vs0, hv0⟩ := hf
  have hot : Hot1 (X.suite a ((a, oe) :: pn)).A (a, oe) := ⟨rfl, vs0, hv0, hz.2.2 vs0 hv0⟩
  refine wpAny_call (codeAny_mono (G.run _ X.stack s1 H1 ⟨us, []⟩ us vs Q E0 ⟨hr.dp, hr.un⟩ hot ⟨pk.1, pk.2.1, fun hm => (List.mem_cons.mp (I1.stkSub a hm)).elim pk.2.2.1 pk.2.2.2.1, pk.2.2.2.2⟩ I1.env0 bb r want) fun r s' hq => ?_)
  cases r with
  | error e => exact hq.elim
  | ok fl =>
    cases fl with
    | ret u => exact I1.after hq
    | next => exact False.elim hq
    | brk => exact False.elim hq
    | cont => exact False.elim hq
/-- isinstance(e, C), e the handled exception -/
theorem call_isH {p : Addr × Obj} {D : Addr} (hp : p ∈ X.pn) (C : ExcC X.K D) (hz : L2N.Zn (.ref D) none p.2) (hf : ∃ vs, p.2.data = .fields vs) : CallR X (.builtin "isinstance") (rIsE X.K D p.1) := by
  intro pins s σ H xs us Q I r h
  obtain ⟨c, cv, b, rfl, hcv, e, q⟩ := h
  cases r with
  | cons rx rr =>
    cases rr with
    | cons rt rr =>
      cases rr
      cases rx
      cases hcv _ rt
      obtain ⟨vs, hv⟩ := hf
      have J : PySem.W.InstAt s.heap p.1 p.2 D none := by
        refine ⟨(I.pin p (List.mem_append_left _ hp)).1, hz.1, ?_, ?_⟩
        · unfold PySem.W.notCls
          rw [hv] <;> rfl
        · rw [hz.2.1]
          trivial
      exact PySem.W.kia_one (PySem.W.handS_kitx_exc C.hg C.hk C.hs C.hd C.ha C.hn C.ht C.hm) I.kIn J e (fun z => nomatch z) fun tk => ⟨.bl b, H, I.kept (t' := tk) fun _ _ z => z, rfl, q⟩
end
/-- what isinstance says of an error of the class at D: of ValueError, of each class of the row -/
structure OneErr (K : PySem.W.Frag) (D : Addr) (Cs : List Addr) (bs : List Bool) : Prop where
  exc : ExcC K D
  ve : PySem.W.kitOne K (.ref D) (.type "ValueError") = some true
  is : ∀ (i : Nat) (c : Addr) (b : Bool), Cs[i]? = some c → bs[i]? = some b → PySem.W.kitOne K (.ref D) (.ref c) = some b
theorem kit_own {K : PySem.W.Frag} {D C : Addr} {b : Bool} (h1 : PySem.W.isClsIn K C = true) (h2 : PySem.W.typeIn K (.ref C) = some (.type "type")) (h3 : PySem.W.subIn K (.ref D) (.ref C) = some b) : PySem.W.kitOne K (.ref D) (.ref C) = if D = C then some true else some b := by
  unfold PySem.W.kitOne
  by_cases h : D = C
  · rw [if_pos h, h]
    exact if_pos (by simp)
  · rw [if_neg h, if_neg (by simpa using h)]
    show (if ((PySem.W.clsIn K C).isSome && PySem.W.typeIn K (.ref C) == some (.type "type")) = true then PySem.W.subIn K (.ref D) (.ref C) else none) = some b
    have e : (PySem.W.clsIn K C).isSome = true := h1
    rw [e, h2, h3]
    rfl
theorem kit_VE {K : PySem.W.Frag} {D : Addr} (h : PySem.W.subIn K (.ref D) (.type "ValueError") = some true) : PySem.W.kitOne K (.ref D) (.type "ValueError") = some true := by
  unfold PySem.W.kitOne
  rw [if_neg (by simp)]
  show (if PySem.W.kitMeta "ValueError" = true then PySem.W.subIn K (.ref D) (.type "ValueError") else none) = _
  have e : PySem.W.kitMeta "ValueError" = true := by decide +kernel
  rw [e, h]
  rfl
section
variable {K : PySem.W.Frag} {D a C : Addr} {n : String} {H : Hp} {Q : VK}
theorem b_isE : rIsE K D a [.ref a, .ref C] H Q = ∃ b, PySem.W.kitOne K (.ref D) (.ref C) = some b ∧ Q (.bl b) H := propext ⟨fun ⟨c, cv, b, e, hc, hk, q⟩ => by
  cases e
  rw [← hc (.ref C) rfl] at hk
  exact ⟨b, hk, q⟩, fun ⟨b, hk, q⟩ => ⟨_, .ref C, b, rfl, fun _ r => r, hk, q⟩⟩
theorem b_isET : rIsE K D a [.ref a, .ty n] H Q = ∃ b, PySem.W.kitOne K (.ref D) (.type n) = some b ∧ Q (.bl b) H := propext ⟨fun ⟨c, cv, b, e, hc, hk, q⟩ => by
  cases e
  rw [← hc (.type n) rfl] at hk
  exact ⟨b, hk, q⟩, fun ⟨b, hk, q⟩ => ⟨_, .type n, b, rfl, fun _ r => r, hk, q⟩⟩
theorem cxH_K {CX : CXT} {P : Program} {w : World} {mg : Str → Option Value} {base : Heap} {N : List Str} {qual : Str} {scope : Scope} {f : Addr} {cd : Value} {A : Around} {outer : List Env} {s : Shared} {E : XK} {p : Addr × Obj} :
    (cxH CX P w K mg base N qual scope f cd A outer s H E p).K = K := rfl
end
theorem _root_.L2H.RoomH.units {k : Nat} {A : Around} (r : RoomH k A) : A.units + 64 < cLine := by have := r.un; omega
end Y

set_option Elab.async false
set_option linter.all false
set_option maxRecDepth 100000
namespace K05
open PySem PySem.Spec PyProof.Rows L2 Y
open Tx (Mail num markOf mailOf sp pa txt0 txtOf okI Okm)
open SX (S)
local macro_rules | `(tactic| walk_at "wp") => `(tactic| (try simp only [cx_K, b_slX, cxH_K, b_isE, b_isET, a_var, a_c, a_op, a_un, a_B, a_test, a_and, a_or, a_not, a_andV, a_orV, a_notV, a_isN, a_notN, a_if, a_next, a_seq, a_brk, a_m1, b_isS, b_split, b_part, b_T0, b_tyS, b_addS, b_lenS, b_strI, b_intS, b_ixS, a_fmt, b_fmtS, b_fmtI, a_fs, a_jsN, a_jsC, b_notInKD, b_ixKD, a_callS, a_raise, a_cont, a_drop, a_ret, a_retN, a_ifS, a_asg, a_gName, a_nil, a_cons, a_tup, a_lst, a_cb, a_call, a_isInt, a_isBl, a_isStr, a_isNon, a_isRef, isB_tt, isB_ii, isB_ib, isB_bb, isB_bi, isB_ll, isB_lt, isB_tl, isB_ss, isB_st, isB_sl, isB_nt, isB_nl, a_lenQ, a_listQ, a_sl, a_noPart, a_part, a_bm, a_bm0, a_for, a_lc, a_iList, a_iTup, a_iRng1, a_iRng2, a_iRng3, a_iZip, a_iEnum, a_iStr, b_rng1, b_rng2, b_rng3, b_zip, b_enum, b_ref, b_str, b_gTup, b_gCons, b_gNil, a_yes, a_wipe0, a_wipe1,
  b_I0, b_I, b_U, b_eqI, b_neI, b_eqS, b_neS, b_eqB, b_neB, b_ixL, b_ixT, b_slL, b_cat, b_append, b_tyL, b_bl, b_int, b_some, b_some2, b_at0, b_at1, b_at2, b_at3, b_at4, b_at5,
  List.length_cons, List.length_nil, List.set_cons_zero, List.set_cons_succ, List.getElem?_cons_zero, List.getElem?_cons_succ, List.append_nil, List.nil_append, List.cons_append, Bool.not_true, Bool.not_false, decide_true, decide_false, decide_eq_true_eq, Bool.false_eq_true, Bool.true_eq_false, ↓reduceIte, Nat.reduceAdd, true_and]))
local macro_rules | `(tactic| walk_at "wg") => `(tactic| (try simp only [b_gTup, b_gCons, b_gNil, a_gName, List.set_cons_zero, List.set_cons_succ]))

def top (i : Nat) : Stmt := PySem.Challenge.pw_onebell_k05_what_writes_no_mail.main.body.getD i (.Pass ⟨0, 0, 0, 0⟩)
abbrev Mk := Int × Int
def kv_MARKED : List (Str × Value) := [("letter", .bool false), ("number", .bool true), ("mark", .bool true)]
structure Tt (K : PySem.W.Frag) (w : World) (mg : Str → Option Value) (d_MARKED : Addr) (C_BellError : Addr) (C_BadCount : Addr) (C_NoHand : Addr) (C_NoLetter : Addr) (C_NoMail : Addr) (C_Twice : Addr) (C_NotOpen : Addr) (C_BadMark : Addr) (C_NoNote : Addr) : Prop where
  m_MOST_FIGURES : ∃ u, mg "MOST_FIGURES" = some u ∧ RelV (.int 30) u
  m_MARKED : ∃ u, mg "MARKED" = some u ∧ RelV (.ref d_MARKED) u
  k_MARKED : KD K w d_MARKED kv_MARKED
  e_BellError : Err K mg "BellError" C_BellError
  e_BadCount : Err K mg "BadCount" C_BadCount
  e_NoHand : Err K mg "NoHand" C_NoHand
  e_NoLetter : Err K mg "NoLetter" C_NoLetter
  e_NoMail : Err K mg "NoMail" C_NoMail
  e_Twice : Err K mg "Twice" C_Twice
  e_NotOpen : Err K mg "NotOpen" C_NotOpen
  e_BadMark : Err K mg "BadMark" C_BadMark
  e_NoNote : Err K mg "NoNote" C_NoNote
  o_NoNote : OneErr K C_NoNote [C_BadCount, C_NoHand, C_NoLetter, C_NoMail, C_Twice, C_NotOpen, C_BadMark, C_NoNote] [false, false, false, false, false, false, false, true]
  x_NoNote_BellError : PySem.W.exmOne K (.ref C_NoNote) (.ref C_BellError) = some true
def spWhole : Sp := fun vs H Q _ => ∃ i : Int, vs = [.int i] ∧ Q (.bl true) H
def spCell (K : PySem.W.Frag) : Sp := fun vs H Q _ => ∃ (a : Addr) (ns : List Int) (k : Int), vs = [.ref a, .int k] ∧ SqL K H a (ns.map V.int) ∧ 0 ≤ k ∧ Q (.int (cellAt ns k)) H
def spMark (K : PySem.W.Frag) : Sp := fun vs H Q _ => ∃ (v : V) (m : Mk), vs = [v] ∧ Dv K H v m ∧ Q (.bl true) H
def spMail (K : PySem.W.Frag) : Sp := fun vs H Q _ => ∃ (v : V) (m : Tx.Mail), vs = [v] ∧ Dv K H v m ∧ Q (.bl true) H

def spNumber (C : Addr) : Sp := fun vs H Q E => ∃ z : List Nat, vs = [.str (S z)] ∧ z.length ≤ 100000 ∧ ((∀ n, num z = some n → Q (.int n) H) ∧ (num z = none → E (.ref C) none H))
def spRMark (K : PySem.W.Frag) (C : Addr) : Sp := fun vs H Q E => ∃ z : List Nat, vs = [.str (S z)] ∧ z.length ≤ 100000 ∧ ((∀ m, markOf (sp z) = some m → ∀ v H', Same H H' → Dv K H' v m → Q v H') ∧ (markOf (sp z) = none → ∀ H', Same H H' → E (.ref C) none H'))
def spRead (K : PySem.W.Frag) (C : Addr) : Sp := fun vs H Q E => ∃ x : Str, vs = [.str x] ∧ x.length ≤ 100000 ∧ ((∀ m, mailOf x = some m → ∀ v H', Same H H' → Dv K H' v m → Q v H') ∧ (mailOf x = none → ∀ H', Same H H' → E (.ref C) none H'))

theorem kvM (z : Str) : (kv_MARKED.lookup z = none ∧ z ≠ Tx.wL ∧ z ≠ Tx.wN ∧ z ≠ Tx.wM) ∨ ∃ m : Bool, kv_MARKED.lookup z = some (.bool m) ∧ ((m = false ∧ z = Tx.wL) ∨ (m = true ∧ (z = Tx.wN ∨ z = Tx.wM))) := by
  have key : ∀ x : Str, z ≠ x → (z == x) = false := fun x h => by rw [beq_eq_false_iff_ne]; exact h
  by_cases h1 : z = Tx.wL
  · exact .inr ⟨false, by rw [h1]; rfl, .inl ⟨rfl, h1⟩⟩
  by_cases h2 : z = Tx.wN
  · exact .inr ⟨true, by rw [h2]; rfl, .inr ⟨rfl, .inl h2⟩⟩
  by_cases h3 : z = Tx.wM
  · exact .inr ⟨true, by rw [h3]; rfl, .inr ⟨rfl, .inr h3⟩⟩
  refine .inl ⟨?_, h1, h2, h3⟩
  unfold kv_MARKED
  rw [List.lookup_cons, key _ h1, List.lookup_cons, key _ h2, List.lookup_cons, key _ h3]
  rfl

def names8 : List Str := [Str.ofString "BadCount", Str.ofString "NoHand", Str.ofString "NoLetter", Str.ofString "NoMail", Str.ofString "Twice", Str.ofString "NotOpen", Str.ofString "BadMark", Str.ofString "NoNote"]
def spOnly (K : PySem.W.Frag) (Cs : List Addr) (a : Addr) (cls : Value) (d : Option Addr) : Sp := fun vs H Q _ => ∃ (w : Str) (D : Addr) (bs : List Bool), vs = [.ref a, .str w] ∧ cls = .ref D ∧ d = none ∧ OneErr K D Cs bs ∧ bs.length = 8 ∧
  ∀ H', Same H H' → Q (.bl (decide (bs = names8.map fun n => decide (n = w)))) H'
theorem eight_of {α : Type} {l : List α} (h : l.length = 8) : ∃ a b c d e f g i, l = [a, b, c, d, e, f, g, i] := by
  match l, h with
  | [a, b, c, d, e, f, g, i], _ => exact ⟨a, b, c, d, e, f, g, i, rfl⟩

section
variable {P : Program} {w : World} {K : PySem.W.Frag} {mg : Str → Option Value} {base : Heap} {d_MARKED C_BellError C_BadCount C_NoHand C_NoLetter C_NoMail C_Twice C_NotOpen C_BadMark C_NoNote : Addr}
abbrev s_law_only : Stmt := top 27
abbrev n_law_only : List Str := ["_law_error", "_law_word", "_law_kinds", "_law_names", "_law_name"]
theorem sc_law_only : FnScope n_law_only ["_law_error", "_law_word"] (defScope s_law_only) := ⟨rfl, rfl, rfl, by decide +kernel, rfl, by decide +kernel, by decide +kernel⟩
theorem ok_only {f : Addr} {fd : FuncData} (F : Fun K "_law_only" "_law_only" s_law_only f fd) (B : Bt mg) (T : Tt K w mg d_MARKED C_BellError C_BadCount C_NoHand C_NoLetter C_NoMail C_Twice C_NotOpen C_BadMark C_NoNote)  : ∀ (p : Addr × Obj) (cls : Value) (d : Option Addr), L2N.Zn cls d p.2 → (∃ vs, p.2.data = .fields vs) → FnE P w K mg base 1 f fd ["_law_error", "_law_word"] p (spOnly K [C_BadCount, C_NoHand, C_NoLetter, C_NoMail, C_Twice, C_NotOpen, C_BadMark, C_NoNote] p.1 cls d) := by
  intro p cls d hz hf
  refine fn_E F sc_law_only (fun vs H Q E h => by obtain ⟨_, _, _, rfl, _⟩ := h; rfl) (fun cdv A outer s H vs Q E hot hr h => ?_)
  obtain ⟨w, D, bs, rfl, rfl, rfl, hO, hb8, q⟩ := h
  have hX := hO.exc
  obtain ⟨b0, b1, b2, b3, b4, b5, b6, b7, rfl⟩ := eight_of hb8
  refine ⟨_, (pss_cons (ps_set (i := 2) sc_law_only.nd rfl (Or.inl rfl) (pe_lst (pa_cons (pe_callB (r := rIsE K D p.1) (call_isH (List.mem_singleton.mpr rfl) hX hz hf) (by rfl) B.isinstance (by decide +kernel) (pa_cons (pv 0) (pa_cons (pe_glob (v := .ref C_BadCount) rfl T.e_BadCount.g rfl) pa_nil))) (pa_cons (pe_callB (r := rIsE K D p.1) (call_isH (List.mem_singleton.mpr rfl) hX hz hf) (by rfl) B.isinstance (by decide +kernel) (pa_cons (pv 0) (pa_cons (pe_glob (v := .ref C_NoHand) rfl T.e_NoHand.g rfl) pa_nil))) (pa_cons (pe_callB (r := rIsE K D p.1) (call_isH (List.mem_singleton.mpr rfl) hX hz hf) (by rfl) B.isinstance (by decide +kernel) (pa_cons (pv 0) (pa_cons (pe_glob (v := .ref C_NoLetter) rfl T.e_NoLetter.g rfl) pa_nil))) pa_nil)))))
  (pss_cons (ps_expr (pe_bm PySem.F.plainAttrs_list PySem.F.slot_list_append PySem.F.type_list_append mt_append (pv 2) (pa_cons (pe_callB (r := rIsE K D p.1) (call_isH (List.mem_singleton.mpr rfl) hX hz hf) (by rfl) B.isinstance (by decide +kernel) (pa_cons (pv 0) (pa_cons (pe_glob (v := .ref C_NoMail) rfl T.e_NoMail.g rfl) pa_nil))) pa_nil)))
  (pss_cons (ps_set (i := 2) sc_law_only.nd rfl (Or.inl rfl) (pe_op op_cat (pv 2) (pe_lst (pa_cons (pe_callB (r := rIsE K D p.1) (call_isH (List.mem_singleton.mpr rfl) hX hz hf) (by rfl) B.isinstance (by decide +kernel) (pa_cons (pv 0) (pa_cons (pe_glob (v := .ref C_Twice) rfl T.e_Twice.g rfl) pa_nil))) (pa_cons (pe_callB (r := rIsE K D p.1) (call_isH (List.mem_singleton.mpr rfl) hX hz hf) (by rfl) B.isinstance (by decide +kernel) (pa_cons (pv 0) (pa_cons (pe_glob (v := .ref C_NotOpen) rfl T.e_NotOpen.g rfl) pa_nil))) (pa_cons (pe_callB (r := rIsE K D p.1) (call_isH (List.mem_singleton.mpr rfl) hX hz hf) (by rfl) B.isinstance (by decide +kernel) (pa_cons (pv 0) (pa_cons (pe_glob (v := .ref C_BadMark) rfl T.e_BadMark.g rfl) pa_nil))) pa_nil))))))
  (pss_cons (ps_set (i := 3) sc_law_only.nd rfl (Or.inl rfl) (pe_lst (pa_cons pe_str (pa_cons pe_str (pa_cons pe_str (pa_cons pe_str (pa_cons pe_str (pa_cons pe_str (pa_cons pe_str (pa_cons pe_str pa_nil))))))))))
  (pss_cons (ps_expr (pe_bm PySem.F.plainAttrs_list PySem.F.slot_list_append PySem.F.type_list_append mt_append (pv 2) (pa_cons (pe_callB (r := rIsE K D p.1) (call_isH (List.mem_singleton.mpr rfl) hX hz hf) (by rfl) B.isinstance (by decide +kernel) (pa_cons (pv 0) (pa_cons (pe_glob (v := .ref C_NoNote) rfl T.e_NoNote.g rfl) pa_nil))) pa_nil)))
  (pss_one (ps_ret (pe_and (pe_callB (r := rIsE K D p.1) (call_isH (List.mem_singleton.mpr rfl) hX hz hf) (by rfl) B.isinstance (by decide +kernel) (pa_cons (pv 0) (pa_cons (pe_bltn (v := .ty "ValueError") (by rfl) B.ValueError (by decide +kernel) rfl) pa_nil))) (pe_one (pe_cmpR (r := rEqA (List Bool) K) (op_eqA (by decide) hr.units) (pv 2) (pe_lcH (own := [("_law_name", 4)]) (g := gName 4) ⟨p, hot, List.mem_singleton.mpr rfl⟩ sc_law_only.nd (pv 3) (blkOk_by (N := n_law_only) (sc := defScope s_law_only) (by decide +kernel)) (fun _ _ _ _ _ => pg_name (i := 4) sc_law_only.nd rfl (Or.inl rfl)) (fun _ _ _ _ _ => (pe_cmpR op_eq (pv 4) (pv 1) (nomark _)))) (nomark _))))))))))), ?_⟩
  simp only [L2.start, n_law_only, List.map_cons, List.map_nil, List.length_cons, List.length_nil, List.replicate_succ, List.replicate_zero, Nat.reduceAdd, Nat.reduceSub, Nat.sub_self, List.cons_append, List.nil_append]
  walk_at "wp"
  refine ⟨_, hO.is 0 _ _ rfl rfl, _, hO.is 1 _ _ rfl rfl, _, hO.is 2 _ _ rfl rfl, by decide, new_o fun l H1 hl s1 h1 => ?_⟩
  walk_at "wp"
  refine ⟨⟨_, sqL h1⟩, _, hO.is 3 _ _ rfl rfl, ?_⟩
  walk_at "wp"
  refine ⟨_, h1, sz_lt (by simp), wr_o h1 (fun z => z) fun H2 f2 h2 => ?_⟩
  have s2 := s1.frm1 f2 hl
  walk_at "wp"
  refine ⟨_, hO.is 4 _ _ rfl rfl, _, hO.is 5 _ _ rfl rfl, _, hO.is 6 _ _ rfl rfl, by decide, new_o fun l2 H3 hl2 s3 h3 => ?_⟩
  walk_at "wp"
  refine ⟨_, _, s3 _ _ h2, h3, sz_of (by simp), new_o fun l3 H4 hl3 s4 h4 => ?_⟩
  walk_at "wp"
  refine ⟨by decide, new_o fun l4 H5 hl4 s5 h5 => ?_⟩
  walk_at "wp"
  have h4' := s5 _ _ h4
  refine ⟨⟨_, sqL h4'⟩, _, hO.is 7 _ _ rfl rfl, ?_⟩
  walk_at "wp"
  refine ⟨_, h4', sz_lt (by simp), wr_o h4' (fun z => z) fun H6 f6 h6 => ?_⟩
  have hl3' : H l3 = none := ((s2.trans s3).free hl3)
  have s6 : Same H H6 := (((s2.trans s3).trans s4).trans s5).frm1 f6 hl3'
  have n34 : l4 ≠ l3 := fun z => by rw [z, h4] at hl4; cases hl4
  have h5' : H6 l4 = some (.lst (names8.map V.str)) := f6 _ _ h5 fun z => absurd z n34
  walk_at "wp"
  refine ⟨_, hO.ve, ?_⟩
  walk_at "wp"
  refine ⟨⟨_, sqL h5'⟩, comp_list names8 (fun n : Str => decide (n = w)) (fun _ => true) (sqL h5') (dvL_strs names8) (by decide) ?_ ?_⟩
  · intro v n H7 s7 dn hn R R0 hR _
    rw [dv_str_of dn]
    walk_at "wp"
    exact hR _ _ rfl (Same.refl _) (dv_bl _)
  · intro L ys H7 hL s7 h7 hv
    have ef : names8.filter (fun _ => true) = names8 := List.filter_eq_self.mpr fun _ _ => rfl
    rw [ef] at hv
    refine ⟨[b0, b1, b2, b3, b4, b5, b6, b7], _, dv_lst (sqL (s7 _ _ h6)) (dvL_bls [b0, b1, b2, b3, b4, b5, b6, b7]), dv_lst (sqL h7) hv, ?_⟩
    exact q _ (s6.trans s7)

abbrev s_law_whole : Stmt := top 17
abbrev n_law_whole : List Str := ["_law_found"]
theorem sc_law_whole : FnScope n_law_whole ["_law_found"] (defScope s_law_whole) := ⟨rfl, rfl, rfl, by decide +kernel, rfl, by decide +kernel, by decide +kernel⟩
theorem ok_whole {f : Addr} {fd : FuncData} (F : Fun K "_law_whole" "_law_whole" s_law_whole f fd) (B : Bt mg) (T : Tt K w mg d_MARKED C_BellError C_BadCount C_NoHand C_NoLetter C_NoMail C_Twice C_NotOpen C_BadMark C_NoNote)  : FnOk P w K mg base CX0 1 f fd ["_law_found"] (spWhole) := by
  refine F.ok sc_law_whole (fun vs H Q E h => by obtain ⟨_, rfl, _⟩ := h; rfl) (fun cdv A outer s H vs Q E hr h => ?_)
  obtain ⟨i, rfl, q⟩ := h
  refine ⟨_, (pss_one (ps_ret (pe_and (pe_callB (r := rIs "int" K) (call_is "int") (by rfl) B.isinstance (by decide +kernel) (pa_cons (pv 0) (pa_cons (pe_bltn (v := .ty "int") (by rfl) B.int (by decide +kernel) rfl) pa_nil))) (pe_one (pe_not (pe_callB (r := rIs "bool" K) (call_is "bool") (by rfl) B.isinstance (by decide +kernel) (pa_cons (pv 0) (pa_cons (pe_bltn (v := .ty "bool") (by rfl) B.bool (by decide +kernel) rfl) pa_nil)))))))), ?_⟩
  simp only [L2.start, n_law_whole, List.map_cons, List.map_nil, List.length_cons, List.length_nil, List.replicate_succ, List.replicate_zero, Nat.reduceAdd, Nat.reduceSub, Nat.sub_self, List.cons_append, List.nil_append]
  walk_at "wp"
  exact q

abbrev s_law_mark : Stmt := top 19
abbrev n_law_mark : List Str := ["_law_found"]
theorem sc_law_mark : FnScope n_law_mark ["_law_found"] (defScope s_law_mark) := ⟨rfl, rfl, rfl, by decide +kernel, rfl, by decide +kernel, by decide +kernel⟩
theorem ok_mark {f : Addr} {fd : FuncData} (F : Fun K "_law_mark" "_law_mark" s_law_mark f fd) (B : Bt mg) (T : Tt K w mg d_MARKED C_BellError C_BadCount C_NoHand C_NoLetter C_NoMail C_Twice C_NotOpen C_BadMark C_NoNote) (c_law_whole : Cal P w K mg base CX0 1 "_law_whole" ["_law_found"] (spWhole)) : FnOk P w K mg base CX0 2 f fd ["_law_found"] (spMark K) := by
  refine F.ok sc_law_mark (fun vs H Q E h => by obtain ⟨_, _, rfl, _⟩ := h; rfl) (fun cdv A outer s H vs Q E hr h => ?_)
  obtain ⟨v, ⟨m, n⟩, rfl, hm, q⟩ := h
  obtain ⟨a, rfl, ht⟩ := dv_mark_of hm
  refine ⟨_, (pss_cons (ps_if (PW.pt (pw_or (pt_not (pt_val (pe_callB (r := rIs "tuple" K) (call_is "tuple") (by rfl) B.isinstance (by decide +kernel) (pa_cons (pv 0) (pa_cons (pe_bltn (v := .ty "tuple") (by rfl) B.tuple (by decide +kernel) rfl) pa_nil))))) (pw_or1 (pt_cmpR op_ne (pe_callB (r := rLenQ K) call_lenQ (by rfl) B.len (by decide +kernel) (pa_cons (pv 0) pa_nil)) pe_int (nomark _)))))
  (pss_one (ps_ret pe_bl))
  pss_nil)
  (pss_one (ps_ret (pe_and (pe_callC c_law_whole (hr.mono (by decide)) (pa_cons (pe_ix (r := rIxT K) ix_tup (pv 0) pe_int (fun _ _ => rfl)) pa_nil)) (pe_one (pe_callC c_law_whole (hr.mono (by decide)) (pa_cons (pe_ix (r := rIxT K) ix_tup (pv 0) pe_int (fun _ _ => rfl)) pa_nil))))))), ?_⟩
  simp only [L2.start, n_law_mark, List.map_cons, List.map_nil, List.length_cons, List.length_nil, List.replicate_succ, List.replicate_zero, Nat.reduceAdd, Nat.reduceSub, Nat.sub_self, List.cons_append, List.nil_append]
  walk_at "wp"
  refine .inl ⟨_, ht, ?_⟩
  refine ⟨_, .inr ht, ?_⟩
  walk_at "wp"
  refine iteF ⟨_, _, ht, rfl, m, rfl, ?_⟩
  walk_at "wp"
  exact ⟨_, _, ht, rfl, n, rfl, q⟩

abbrev s_law_mail : Stmt := top 20
abbrev n_law_mail : List Str := ["_law_found"]
theorem sc_law_mail : FnScope n_law_mail ["_law_found"] (defScope s_law_mail) := ⟨rfl, rfl, rfl, by decide +kernel, rfl, by decide +kernel, by decide +kernel⟩
theorem ok_mail {f : Addr} {fd : FuncData} (F : Fun K "_law_mail" "_law_mail" s_law_mail f fd) (B : Bt mg) (T : Tt K w mg d_MARKED C_BellError C_BadCount C_NoHand C_NoLetter C_NoMail C_Twice C_NotOpen C_BadMark C_NoNote) (c_law_whole : Cal P w K mg base CX0 1 "_law_whole" ["_law_found"] (spWhole)) (c_law_mark : Cal P w K mg base CX0 2 "_law_mark" ["_law_found"] (spMark K)) : FnOk P w K mg base CX0 3 f fd ["_law_found"] (spMail K) := by
  refine F.ok sc_law_mail (fun vs H Q E h => by obtain ⟨_, _, rfl, _⟩ := h; rfl) (fun cdv A outer s H vs Q E hr h => ?_)
  obtain ⟨v, m, rfl, hm, q⟩ := h
  obtain ⟨a, u, rfl, ht, du⟩ := dv_mail_of hm
  refine ⟨_, (pss_cons (ps_if (PW.pt (pw_or (pt_not (pt_val (pe_callB (r := rIs "tuple" K) (call_is "tuple") (by rfl) B.isinstance (by decide +kernel) (pa_cons (pv 0) (pa_cons (pe_bltn (v := .ty "tuple") (by rfl) B.tuple (by decide +kernel) rfl) pa_nil))))) (pw_or (pt_cmpR op_ne (pe_callB (r := rLenQ K) call_lenQ (by rfl) B.len (by decide +kernel) (pa_cons (pv 0) pa_nil)) pe_int (nomark _)) (pw_or1 (pt_not (pt_val (pe_callB (r := rIs "str" K) (call_is "str") (by rfl) B.isinstance (by decide +kernel) (pa_cons (pe_ix (r := rIxT K) ix_tup (pv 0) pe_int (fun _ _ => rfl)) (pa_cons (pe_bltn (v := .ty "str") (by rfl) B.str (by decide +kernel) rfl) pa_nil)))))))))
  (pss_one (ps_ret pe_bl))
  pss_nil)
  (pss_cons (ps_if (PW.pt (pw_or (pt_not (pt_val (pe_callC c_law_whole (hr.mono (by decide)) (pa_cons (pe_ix (r := rIxT K) ix_tup (pv 0) pe_int (fun _ _ => rfl)) pa_nil)))) (pw_or (pt_not (pt_val (pe_callC c_law_whole (hr.mono (by decide)) (pa_cons (pe_ix (r := rIxT K) ix_tup (pv 0) pe_int (fun _ _ => rfl)) pa_nil)))) (pw_or1 (pt_not (pt_val (pe_callC c_law_whole (hr.mono (by decide)) (pa_cons (pe_ix (r := rIxT K) ix_tup (pv 0) pe_int (fun _ _ => rfl)) pa_nil))))))))
  (pss_one (ps_ret pe_bl))
  pss_nil)
  (pss_one (ps_ret (pe_or (pe_cmpR op_isN (pe_ix (r := rIxT K) ix_tup (pv 0) pe_int (fun _ _ => rfl)) pe_non (nomark _)) (pe_one (pe_callC c_law_mark (hr.mono (by decide)) (pa_cons (pe_ix (r := rIxT K) ix_tup (pv 0) pe_int (fun _ _ => rfl)) pa_nil)))))))), ?_⟩
  simp only [L2.start, n_law_mail, List.map_cons, List.map_nil, List.length_cons, List.length_nil, List.replicate_succ, List.replicate_zero, Nat.reduceAdd, Nat.reduceSub, Nat.sub_self, List.cons_append, List.nil_append]
  walk_at "wp"
  refine .inl ⟨_, ht, ?_⟩
  refine ⟨_, .inr ht, ?_⟩
  walk_at "wp"
  refine ite2 (fun z => by simp at z) (fun _ => ?_)
  refine ⟨_, _, ht, b_at0, ?_⟩
  walk_at "wp"
  refine ⟨_, _, ht, b_at1, _, rfl, ?_⟩
  walk_at "wp"
  refine ⟨_, _, ht, b_at2, _, rfl, ?_⟩
  walk_at "wp"
  refine ⟨_, _, ht, b_at3, _, rfl, ?_⟩
  walk_at "wp"
  refine ⟨_, _, ht, b_at4, ?_⟩
  cases e : m.m with
  | none =>
    rw [e] at du
    rw [dv_none_of du]
    walk_at "wp"
    exact q
  | some p =>
    rw [e] at du
    obtain ⟨b, rfl, hb⟩ := dv_mark_of (dv_some_of du)
    walk_at "wp"
    exact ⟨_, _, ht, b_at4, _, p, rfl, dv_some_of du, q⟩

def spTold (K : PySem.W.Frag) : Sp := fun vs H Q _ => ∃ x : Str, vs = [.str x] ∧ x.length ≤ 100000 ∧ ∀ v H', Same H H' → Dv K H' v (mailOf x) → Q v H'
abbrev s_law_told : Stmt := top 28
abbrev n_law_told : List Str := ["_law_text_here", "_law_error"]
theorem sc_law_told : FnScope n_law_told ["_law_text_here"] (defScope s_law_told) := ⟨rfl, rfl, rfl, by decide +kernel, rfl, by decide +kernel, by decide +kernel⟩
theorem ok_told {f : Addr} {fd : FuncData} (F : Fun K "_law_told" "_law_told" s_law_told f fd) (B : Bt mg) (T : Tt K w mg d_MARKED C_BellError C_BadCount C_NoHand C_NoLetter C_NoMail C_Twice C_NotOpen C_BadMark C_NoNote) (c_read : Cal P w K mg base (L2N.CX P w) 3 "read" ["text"] (spRead K C_NoNote)) (c_law_only : CalE P w K mg base 1 "_law_only" ["_law_error", "_law_word"] (spOnly K [C_BadCount, C_NoHand, C_NoLetter, C_NoMail, C_Twice, C_NotOpen, C_BadMark, C_NoNote])) : FnOk P w K mg base CX0 4 f fd ["_law_text_here"] (spTold K) := by
  refine F.ok sc_law_told (fun vs H Q E h => by obtain ⟨_, rfl, _⟩ := h; rfl) (fun cdv A outer s H vs Q E hr h => ?_)
  obtain ⟨x, rfl, hz, q⟩ := h
  refine ⟨_, (pss_one (L2N.ps_try_as (i := 1) rfl rfl sc_law_told.nd rfl rfl ⟨rfl, by decide, .inl T.e_BellError.g⟩ takesN0 (fun W pn xe tk _ => (pss_one (ps_ret (pe_callT c_read (hr.mono (by decide)) tk (pa_cons (pv 0) pa_nil)))))
  (fun a oe cls d pn hz hf => (pss_cons (ps_if (pt_val (pe_callE c_law_only (hr.mono (by decide)) hz hf (pa_cons (pv 1) (pa_cons pe_str pa_nil))))
  (pss_one (ps_ret pe_non))
  pss_nil)
  (pss_one (ps_ret pe_str)))))), ?_⟩
  simp only [L2.start, n_law_told, List.map_cons, List.map_nil, List.length_cons, List.length_nil, List.replicate_succ, List.replicate_zero, Nat.reduceAdd, Nat.reduceSub, Nat.sub_self, List.cons_append, List.nil_append]
  walk_at "wp"
  refine ⟨x, rfl, hz, fun m em v H1 s1 dv => ?_, fun en H1 s1 => ?_⟩
  · exact q v H1 s1 (by rw [em]; exact dv_some dv)
  · refine ⟨true, T.x_NoNote_BellError, fun _ a ha => ?_, fun z => nomatch z⟩
    walk_at "wp"
    refine ⟨Str.ofString "NoNote", C_NoNote, _, rfl, rfl, rfl, T.o_NoNote, rfl, fun H2 s2 => ?_⟩
    have e : decide ([false, false, false, false, false, false, false, true] = names8.map fun n => decide (n = Str.ofString "NoNote")) = true := by decide +kernel
    rw [e]
    walk_at "wp"
    exact q .non H2 (s1.trans s2) (by rw [en]; exact dv_none)
def spSign : Sp := fun vs H Q _ => ∃ c : Int, vs = [.int c] ∧ ∀ ch : Nat, Q (.str (S [ch])) H
abbrev s_law_sign : Stmt := top 21
abbrev n_law_sign : List Str := ["_law_cell", "_law_some"]
theorem sc_law_sign : FnScope n_law_sign ["_law_cell"] (defScope s_law_sign) := ⟨rfl, rfl, rfl, by decide +kernel, rfl, by decide +kernel, by decide +kernel⟩
theorem ok_sign {f : Addr} {fd : FuncData} (F : Fun K "_law_sign" "_law_sign" s_law_sign f fd) (B : Bt mg) (T : Tt K w mg d_MARKED C_BellError C_BadCount C_NoHand C_NoLetter C_NoMail C_Twice C_NotOpen C_BadMark C_NoNote)  : FnOk P w K mg base CX0 1 f fd ["_law_cell"] (spSign) := by
  refine F.ok sc_law_sign (fun vs H Q E h => by obtain ⟨_, rfl, _⟩ := h; rfl) (fun cdv A outer s H vs Q E hr h => ?_)
  obtain ⟨c, rfl, q⟩ := h
  refine ⟨_, (pss_cons (ps_set (i := 1) sc_law_sign.nd rfl (Or.inl rfl) pe_str)
  (pss_cons (ps_set (i := 1) sc_law_sign.nd rfl (Or.inl rfl) (pe_op (r := rCatS) op_addSY (pv 1) pe_str))
  (pss_one (ps_ret (pe_ixSY (pv 1) (pe_op op_mod (pv 0) pe_int) (fun _ _ => rfl)))))), ?_⟩
  simp only [L2.start, n_law_sign, List.map_cons, List.map_nil, List.length_cons, List.length_nil, List.replicate_succ, List.replicate_zero, Nat.reduceAdd, Nat.reduceSub, Nat.sub_self, List.cons_append, List.nil_append]
  walk_at "wp"
  refine ⟨by decide +kernel, by decide, ?_⟩
  generalize eA : (_ ++ _ : Str) = A
  have el : A.length = 94 := by rw [← eA]; decide +kernel
  have hi : (c % 94).toNat < A.cps.size := by
    show _ < A.length
    omega
  refine ⟨A.cps[(c % 94).toNat], by omega, by omega, by omega, Array.getElem?_eq_getElem hi, q _⟩
def spNum : Sp := fun vs H Q _ => ∃ c : Int, vs = [.int c] ∧ ∀ z H', Same H H' → z.length ≤ 40 → Q (.str z) H'
def shortV (v : V) : Prop := ∃ z : Str, v = .str z ∧ z.length ≤ 40
theorem short_num {i : Int} (h0 : 0 ≤ i) (h1 : i < 10 ^ 31) : (Str.ofString (toString i)).length ≤ 31 ∧ i.natAbs.log2 < 1920 := by
  obtain ⟨n, rfl⟩ : ∃ n : Nat, i = (n : Int) := ⟨i.toNat, (Int.toNat_of_nonneg h0).symm⟩
  have e : ((10 : Int) ^ 31) = ((10 ^ 31 : Nat) : Int) := by decide +kernel
  rw [e] at h1
  have k := Int.ofNat_lt.mp h1
  refine ⟨?_, Tx.log_lt (Nat.lt_trans k (by decide +kernel))⟩
  rw [TL.len_tl, TL.tl_num]
  exact TL.numL_len (by decide) k
theorem num_mod {i m : Int} (h0 : 0 < m) (h1 : m ≤ 10 ^ 30) : (Str.ofString (toString (i % m))).length ≤ 31 ∧ (i % m).natAbs.log2 < 1920 := by
  have a := Int.emod_nonneg i (show m ≠ 0 by omega)
  have b := Int.emod_lt_of_pos i h0
  have e : (10 : Int) ^ 30 ≤ 10 ^ 31 := by decide +kernel
  exact short_num a (by omega)
abbrev s_law_number : Stmt := top 22
abbrev n_law_number : List Str := ["_law_cell", "_law_more", "_law_some"]
theorem sc_law_number : FnScope n_law_number ["_law_cell"] (defScope s_law_number) := ⟨rfl, rfl, rfl, by decide +kernel, rfl, by decide +kernel, by decide +kernel⟩
theorem ok_num {f : Addr} {fd : FuncData} (F : Fun K "_law_number" "_law_number" s_law_number f fd) (B : Bt mg) (T : Tt K w mg d_MARKED C_BellError C_BadCount C_NoHand C_NoLetter C_NoMail C_Twice C_NotOpen C_BadMark C_NoNote)  : FnOk P w K mg base CX0 1 f fd ["_law_cell"] (spNum) := by
  refine F.ok sc_law_number (fun vs H Q E h => by obtain ⟨_, rfl, _⟩ := h; rfl) (fun cdv A outer s H vs Q E hr h => ?_)
  obtain ⟨c, rfl, q⟩ := h
  refine ⟨_, (pss_cons (ps_set (i := 1) sc_law_number.nd rfl (Or.inl rfl) (pe_op op_fdiv (pv 0) pe_int))
  (pss_cons (ps_set (i := 2) sc_law_number.nd rfl (Or.inl rfl) (pe_lst (pa_cons (pe_callTy call_strIY (by rfl) B.str (by decide +kernel) (pa_cons (pe_op op_mod (pv 1) pe_int) pa_nil)) (pa_cons (pe_callTy call_strIY (by rfl) B.str (by decide +kernel) (pa_cons (pe_op op_mod (pv 1) (pe_op op_pow pe_int pe_int)) pa_nil)) (pa_cons (pe_callTy call_strIY (by rfl) B.str (by decide +kernel) (pa_cons (pe_op op_mod (pv 1) pe_int) pa_nil)) (pa_cons (pe_callTy call_strIY (by rfl) B.str (by decide +kernel) (pa_cons (pe_op op_add (pe_op op_pow pe_int pe_int) (pe_op op_mod (pv 1) pe_int)) pa_nil)) (pa_cons (pe_op (r := rCatS) op_addSY pe_str (pe_callTy call_strIY (by rfl) B.str (by decide +kernel) (pa_cons (pe_op op_mod (pv 1) pe_int) pa_nil))) pa_nil)))))))
  (pss_cons (ps_set (i := 2) sc_law_number.nd rfl (Or.inl rfl) (pe_op op_cat (pv 2) (pe_lst (pa_cons pe_str (pa_cons (pe_op (r := rCatS) op_addSY pe_str (pe_callTy call_strIY (by rfl) B.str (by decide +kernel) (pa_cons (pe_op op_mod (pv 1) pe_int) pa_nil))) (pa_cons (pe_callTy call_strIY (by rfl) B.str (by decide +kernel) (pa_cons (pe_op op_mod (pv 1) pe_int) pa_nil)) (pa_cons pe_str pa_nil)))))))
  (pss_one (ps_ret (pe_ix (r := rIxL K) ix_list (pv 2) (pe_ix (r := rIxL K) ix_list (pe_lst (pa_cons (pe_op op_mod (pv 0) pe_int) (pa_cons pe_int (pa_cons pe_int pa_nil)))) (pe_op op_mod (pe_op op_fdiv (pv 0) pe_int) pe_int) (fun _ _ => rfl)) (fun _ _ => rfl))))))), ?_⟩
  simp only [L2.start, n_law_number, List.map_cons, List.map_nil, List.length_cons, List.length_nil, List.replicate_succ, List.replicate_zero, Nat.reduceAdd, Nat.reduceSub, Nat.sub_self, List.cons_append, List.nil_append]
  walk_at "wp"
  have e30 : Int.toNat 30 = 30 := rfl
  have gz : sizeLine = 16777216 := sizeLine_eq
  rw [e30]
  have p30 : (0 : Int) < 10 ^ 30 := by decide +kernel
  have m12 := num_mod (i := c / 9) (m := 12) (by decide) (by decide +kernel)
  have m30 := num_mod (i := c / 9) (m := 10 ^ 30) p30 (Int.le_refl _)
  have m100 := num_mod (i := c / 9) (m := 100) (by decide) (by decide +kernel)
  have m9 := num_mod (i := c / 9) (m := 9) (by decide) (by decide +kernel)
  have m7 := num_mod (i := c / 9) (m := 7) (by decide) (by decide +kernel)
  have m31 : (Str.ofString (toString (10 ^ 30 + c / 9 % 99))).length ≤ 31 ∧ (10 ^ 30 + c / 9 % 99).natAbs.log2 < 1920 := by
    have a1 : (99 : Int) ≤ 9 * 10 ^ 30 := by decide +kernel
    have a2 : (10 : Int) ^ 31 = 10 ^ 30 + 9 * 10 ^ 30 := by decide +kernel
    exact short_num (by omega) (by omega)
  have z1 : (Str.ofString "0").length = 1 := by decide +kernel
  have z2 : (Str.ofString "-").length = 1 := by decide +kernel
  refine ⟨⟨by decide, by decide⟩, by decide, m12.2, ⟨by decide, by decide, by decide⟩, p30, m30.2, by decide, m100.2, ⟨by decide, by decide, by decide⟩, by decide, m31.2, by decide, m9.2, by omega, by decide, new_o fun l H1 hl s1 h1 => ?_⟩
  walk_at "wp"
  refine ⟨by decide, m12.2, by omega, by decide, m7.2, by decide, new_o fun l2 H2 hl2 s2 h2 => ?_⟩
  walk_at "wp"
  refine ⟨_, _, s2 _ _ h1, h2, sz_of (by simp), new_o fun l3 H3 hl3 s3 h3 => ?_⟩
  walk_at "wp"
  refine ⟨by decide, by decide, new_o fun l4 H4 hl4 s4 h4 => ?_⟩
  walk_at "wp"
  have h3' := s4 _ _ h3
  refine ⟨⟨by decide, by decide⟩, by decide, ?_⟩
  have fin : ∀ i : Int, 0 ≤ i → i < 9 → ∃ xs v, SqL K H4 l3 xs ∧ atI xs i = some v ∧ Q v H4 := by
    intro i hi0 hi9
    obtain ⟨v, hv, hm⟩ := pick_mem (xs := [V.str (Str.ofString (toString (c / 9 % 12))), V.str (Str.ofString (toString (c / 9 % 10 ^ 30))), V.str (Str.ofString (toString (c / 9 % 100))), V.str (Str.ofString (toString (10 ^ 30 + c / 9 % 99))),
      V.str (Str.ofString "0" ++ Str.ofString (toString (c / 9 % 9))), V.str (Str.ofString ""), V.str (Str.ofString "-" ++ Str.ofString (toString (c / 9 % 12))), V.str (Str.ofString (toString (c / 9 % 7))), V.str (Str.ofString "+1")]) hi0 (by simpa using hi9)
    refine ⟨_, v, sqL h3', hv, ?_⟩
    have hs : shortV v := by
      simp only [List.mem_cons, List.mem_nil_iff, or_false] at hm
      rcases hm with h | h | h | h | h | h | h | h | h <;> refine ⟨_, h, ?_⟩
      · omega
      · omega
      · omega
      · omega
      · rw [Str.length_append]; omega
      · decide +kernel
      · rw [Str.length_append]; omega
      · omega
      · decide +kernel
    obtain ⟨z, rfl, hz⟩ := hs
    exact q z _ (((s1.trans s2).trans s3).trans s4) hz
  have h3c : c / 108 % 3 = 0 ∨ c / 108 % 3 = 1 ∨ c / 108 % 3 = 2 := by omega
  rcases h3c with h | h | h <;> rw [h]
  · refine ⟨_, _, sqL h4, b_at0, ?_⟩
    walk_at "wp"
    exact fin _ (by omega) (by omega)
  · refine ⟨_, _, sqL h4, b_at1, ?_⟩
    walk_at "wp"
    exact fin _ (by omega) (by omega)
  · refine ⟨_, _, sqL h4, b_at2, ?_⟩
    walk_at "wp"
    exact fin _ (by omega) (by omega)
def spText (K : PySem.W.Frag) : Sp := fun vs H Q _ => ∃ (a : Addr) (c0 c1 c2 c3 : Int), vs = [.ref a] ∧ SqL K H a ([c0, c1, c2, c3].map V.int) ∧ ∀ z H', Same H H' → 1 ≤ z.length → z.length ≤ 400 → Q (.str z) H'
abbrev s_law_text : Stmt := top 23
abbrev n_law_text : List Str := ["_law_cells", "_law_word", "_law_text_here"]
theorem sc_law_text : FnScope n_law_text ["_law_cells"] (defScope s_law_text) := ⟨rfl, rfl, rfl, by decide +kernel, rfl, by decide +kernel, by decide +kernel⟩
theorem ok_text {f : Addr} {fd : FuncData} (F : Fun K "_law_text" "_law_text" s_law_text f fd) (B : Bt mg) (T : Tt K w mg d_MARKED C_BellError C_BadCount C_NoHand C_NoLetter C_NoMail C_Twice C_NotOpen C_BadMark C_NoNote) (c_law_number : Cal P w K mg base CX0 1 "_law_number" ["_law_cell"] (spNum)) : FnOk P w K mg base CX0 2 f fd ["_law_cells"] (spText K) := by
  refine F.ok sc_law_text (fun vs H Q E h => by obtain ⟨_, _, _, _, _, rfl, _⟩ := h; rfl) (fun cdv A outer s H vs Q E hr h => ?_)
  obtain ⟨a, c0, c1, c2, c3, rfl, hs, q⟩ := h
  have hs : SqL K H a [.int c0, .int c1, .int c2, .int c3] := hs
  refine ⟨_, (pss_cons (ps_set (i := 1) sc_law_text.nd rfl (Or.inl rfl) (pe_ix (r := rIxL K) ix_list (pe_lst (pa_cons pe_str (pa_cons pe_str (pa_cons pe_str (pa_cons pe_str (pa_cons pe_str pa_nil)))))) (pe_ix (r := rIxL K) ix_list (pe_lst (pa_cons (pe_op op_mod (pe_ix (r := rIxL K) ix_list (pv 0) pe_int (fun _ _ => rfl)) pe_int) (pa_cons (pe_op op_mod (pe_ix (r := rIxL K) ix_list (pv 0) pe_int (fun _ _ => rfl)) pe_int) pa_nil))) (pe_op op_fdiv (pe_op op_mod (pe_op op_fdiv (pe_ix (r := rIxL K) ix_list (pv 0) pe_int (fun _ _ => rfl)) pe_int) pe_int) pe_int) (fun _ _ => rfl)) (fun _ _ => rfl)))
  (pss_cons (ps_set (i := 2) sc_law_text.nd rfl (Or.inl rfl) (pe_op (r := rCatS) op_addSY (pe_op (r := rCatS) op_addSY (pe_op (r := rCatS) op_addSY (pv 1) pe_str) (pe_callC c_law_number (hr.mono (by decide)) (pa_cons (pe_op op_fdiv (pe_ix (r := rIxL K) ix_list (pv 0) pe_int (fun _ _ => rfl)) pe_int) pa_nil))) pe_str))
  (pss_cons (ps_set (i := 2) sc_law_text.nd rfl (Or.inl rfl) (pe_op (r := rCatS) op_addSY (pe_op (r := rCatS) op_addSY (pe_op (r := rCatS) op_addSY (pv 2) (pe_callC c_law_number (hr.mono (by decide)) (pa_cons (pe_ix (r := rIxL K) ix_list (pv 0) pe_int (fun _ _ => rfl)) pa_nil))) pe_str) (pe_callC c_law_number (hr.mono (by decide)) (pa_cons (pe_ix (r := rIxL K) ix_list (pv 0) pe_int (fun _ _ => rfl)) pa_nil))))
  (pss_cons (ps_if (pt_cmpR op_ne (pe_cmpR op_eq (pv 1) pe_str (nomark _)) (pe_cmpR op_eq (pe_op op_mod (pe_ix (r := rIxL K) ix_list (pv 0) pe_int (fun _ _ => rfl)) pe_int) pe_int (nomark _)) (nomark _))
  (pss_one (ps_ret (pv 2)))
  pss_nil)
  (pss_cons (ps_set (i := 2) sc_law_text.nd rfl (Or.inl rfl) (pe_op (r := rCatS) op_addSY (pv 2) (pe_ix (r := rIxL K) ix_list (pe_lst (pa_cons pe_str (pa_cons pe_str (pa_cons pe_str pa_nil)))) (pe_op op_mul (pe_op op_fdiv (pe_op op_mod (pe_op op_fdiv (pe_ix (r := rIxL K) ix_list (pv 0) pe_int (fun _ _ => rfl)) pe_int) pe_int) pe_int) (pe_op op_add pe_int (pe_op op_mod (pe_op op_fdiv (pe_ix (r := rIxL K) ix_list (pv 0) pe_int (fun _ _ => rfl)) pe_int) pe_int))) (fun _ _ => rfl))))
  (pss_one (ps_ret (pe_op (r := rCatS) op_addSY (pe_op (r := rCatS) op_addSY (pe_op (r := rCatS) op_addSY (pe_op (r := rCatS) op_addSY (pv 2) pe_str) (pe_callC c_law_number (hr.mono (by decide)) (pa_cons (pe_op op_fdiv (pe_ix (r := rIxL K) ix_list (pv 0) pe_int (fun _ _ => rfl)) pe_int) pa_nil))) pe_str) (pe_callC c_law_number (hr.mono (by decide)) (pa_cons (pe_op op_fdiv (pe_ix (r := rIxL K) ix_list (pv 0) pe_int (fun _ _ => rfl)) pe_int) pa_nil)))))))))), ?_⟩
  simp only [L2.start, n_law_text, List.map_cons, List.map_nil, List.length_cons, List.length_nil, List.replicate_succ, List.replicate_zero, Nat.reduceAdd, Nat.reduceSub, Nat.sub_self, List.cons_append, List.nil_append]
  walk_at "wp"
  refine ⟨by decide, new_o fun l H1 hl s1 h1 => ?_⟩
  have hs1 := s1.seq hs
  refine ⟨_, _, hs1, b_at0, ?_⟩
  walk_at "wp"
  refine ⟨by decide, _, _, hs1, b_at0, ?_⟩
  walk_at "wp"
  refine ⟨by decide, by decide, new_o fun l2 H2 hl2 s2 h2 => ?_⟩
  walk_at "wp"
  have hs2 := s2.seq hs1
  have h1' := s2 _ _ h1
  refine ⟨_, _, hs2, b_at0, ?_⟩
  walk_at "wp"
  obtain ⟨i, hi0, hi5, hat⟩ : ∃ i : Int, 0 ≤ i ∧ i < 5 ∧ atI [V.int (c0 % 3), V.int (c0 % 5)] (c0 / 5 % 5 / 4) = some (.int i) := by
    have h : c0 / 5 % 5 / 4 = 0 ∨ c0 / 5 % 5 / 4 = 1 := by omega
    rcases h with h | h <;> rw [h]
    · exact ⟨_, by omega, by omega, b_at0⟩
    · exact ⟨_, by omega, by omega, b_at1⟩
  obtain ⟨wd, hwd, hw1, hw2⟩ : ∃ wd : Str, atI [V.str (Str.ofString "letter"), V.str (Str.ofString "number"), V.str (Str.ofString "mark"), V.str (Str.ofString "Mark"), V.str (Str.ofString "letters")] i = some (.str wd) ∧ 1 ≤ wd.length ∧ wd.length ≤ 10 := by
    obtain ⟨v, hv, hm⟩ := pick_mem (xs := [V.str (Str.ofString "letter"), V.str (Str.ofString "number"), V.str (Str.ofString "mark"), V.str (Str.ofString "Mark"), V.str (Str.ofString "letters")]) hi0 (by simpa using hi5)
    simp only [List.mem_cons, List.mem_nil_iff, or_false] at hm
    rcases hm with h | h | h | h | h <;> rw [h] at hv <;> exact ⟨_, hv, by decide +kernel, by decide +kernel⟩
  obtain ⟨g1, g2, g3, g4, g5⟩ := Tx.len_c
  have gz : sizeLine = 16777216 := sizeLine_eq
  refine ⟨⟨by decide, by decide⟩, by decide, ⟨by decide, by decide⟩, _, _, sqL h2, hat, ?_⟩
  walk_at "wp"
  refine ⟨_, _, sqL h1', hwd, ?_⟩
  walk_at "wp"
  refine ⟨by omega, _, _, hs2, b_at0, ?_⟩
  walk_at "wp"
  refine ⟨⟨by decide, by decide⟩, _, rfl, fun z1 H3 s3 e1 => ?_⟩
  walk_at "wp"
  have hs3 := s3.seq hs2
  refine ⟨by simp only [Str.length_append, g1]; omega, by simp only [Str.length_append, g1, g2]; omega, _, _, hs3, b_at1, _, rfl, fun z2 H4 s4 e2 => ?_⟩
  walk_at "wp"
  have hs4 := s4.seq hs3
  refine ⟨by simp only [Str.length_append, g1, g2]; omega, by simp only [Str.length_append, g1, g2, g3]; omega, _, _, hs4, b_at2, _, rfl, fun z3 H5 s5 e3 => ?_⟩
  walk_at "wp"
  have hs5 := s5.seq hs4
  refine ⟨by simp only [Str.length_append, g1, g2, g3]; omega, _, _, hs5, b_at3, ?_⟩
  walk_at "wp"
  have s05 := (((s1.trans s2).trans s3).trans s4).trans s5
  generalize eT : (wd ++ Str.ofString " " ++ z1 ++ Str.ofString " from " ++ z2 ++ Str.ofString " to " ++ z3 : Str) = TT
  have eL : 1 ≤ TT.length ∧ TT.length ≤ 150 := by
    rw [← eT]
    simp only [Str.length_append, g1, g2, g3]
    omega
  refine ⟨by decide, ite2 (fun c => q _ _ s05 (by omega) (by omega)) (fun c => ?_)⟩
  refine ⟨by decide, new_o fun l6 H6 hl6 s6 h6 => ?_⟩
  walk_at "wp"
  have hs6 := s6.seq hs5
  refine ⟨_, _, hs6, b_at3, ?_⟩
  walk_at "wp"
  refine ⟨⟨by decide, by decide⟩, by decide, ⟨by decide, by decide⟩, _, _, hs6, b_at3, ?_⟩
  walk_at "wp"
  obtain ⟨co, hco, hcl⟩ : ∃ co : Str, atI [V.str (Str.ofString ":"), V.str (Str.ofString ""), V.str (Str.ofString ";")] (c3 / 7 % 9 / 7 * (1 + c3 / 63 % 2)) = some (.str co) ∧ co.length ≤ 1 := by
    have h1 : c3 / 7 % 9 / 7 = 0 ∨ c3 / 7 % 9 / 7 = 1 := by omega
    have h2 : c3 / 63 % 2 = 0 ∨ c3 / 63 % 2 = 1 := by omega
    rcases h1 with h1 | h1 <;> rcases h2 with h2 | h2 <;> rw [h1, h2]
    · exact ⟨_, b_at0, by decide +kernel⟩
    · exact ⟨_, b_at0, by decide +kernel⟩
    · exact ⟨_, b_at1, by decide +kernel⟩
    · exact ⟨_, b_at2, by decide +kernel⟩
  refine ⟨⟨by decide, by decide⟩, by decide, .inl ⟨by omega, by omega⟩, _, _, sqL h6, hco, ?_⟩
  walk_at "wp"
  refine ⟨by omega, by simp only [Str.length_append, g1]; omega, _, _, hs6, b_at3, ?_⟩
  walk_at "wp"
  refine ⟨⟨by decide, by decide⟩, _, rfl, fun z4 H7 s7 e4 => ?_⟩
  walk_at "wp"
  have hs7 := s7.seq hs6
  refine ⟨by simp only [Str.length_append, g1]; omega, by simp only [Str.length_append, g1, g5]; omega, _, _, hs7, b_at1, ?_⟩
  walk_at "wp"
  refine ⟨⟨by decide, by decide⟩, _, rfl, fun z5 H8 s8 e5 => ?_⟩
  walk_at "wp"
  refine ⟨by simp only [Str.length_append, g1, g5]; omega, ?_⟩
  exact q _ _ (((s05.trans s6).trans s7).trans s8) (by simp only [Str.length_append]; omega) (by simp only [Str.length_append, g1, g5]; omega)
def spBent : Sp := fun vs H Q _ => ∃ (z : Str) (c m : Int), vs = [.str z, .int c, .int m] ∧ 1 ≤ z.length ∧ z.length ≤ 400 ∧ ∀ y H', Same H H' → y.length ≤ 1000 → Q (.str y) H'
abbrev s_law_bent : Stmt := top 24
abbrev n_law_bent : List Str := ["_law_text_here", "_law_cell", "_law_more", "_law_at"]
theorem sc_law_bent : FnScope n_law_bent ["_law_text_here", "_law_cell", "_law_more"] (defScope s_law_bent) := ⟨rfl, rfl, rfl, by decide +kernel, rfl, by decide +kernel, by decide +kernel⟩
theorem ok_bent {f : Addr} {fd : FuncData} (F : Fun K "_law_bent" "_law_bent" s_law_bent f fd) (B : Bt mg) (T : Tt K w mg d_MARKED C_BellError C_BadCount C_NoHand C_NoLetter C_NoMail C_Twice C_NotOpen C_BadMark C_NoNote) (c_law_sign : Cal P w K mg base CX0 1 "_law_sign" ["_law_cell"] (spSign)) : FnOk P w K mg base CX0 2 f fd ["_law_text_here", "_law_cell", "_law_more"] (spBent) := by
  refine F.ok sc_law_bent (fun vs H Q E h => by obtain ⟨_, _, _, rfl, _⟩ := h; rfl) (fun cdv A outer s H vs Q E hr h => ?_)
  obtain ⟨z, c, m, rfl, hz1, hz2, q⟩ := h
  refine ⟨_, (pss_cons (ps_set (i := 3) sc_law_bent.nd rfl (Or.inl rfl) (pe_op op_mod (pe_op op_fdiv (pv 1) pe_int) (pe_callB call_lenSY (by rfl) B.len (by decide +kernel) (pa_cons (pv 0) pa_nil))))
  (pss_cons (ps_if (pt_cmpR op_eq (pe_op op_mod (pv 1) pe_int) pe_int (nomark _))
  (pss_one (ps_ret (pe_op (r := rCatS) op_addSY (pe_op (r := rCatS) op_addSY (pe_slice (r := C8.rSlX) C8.sl_txt (pv 0) po_none (po_some (pv 3))) (pe_callC c_law_sign (hr.mono (by decide)) (pa_cons (pv 2) pa_nil))) (pe_slice (r := C8.rSlX) C8.sl_txt (pv 0) (po_some (pv 3)) po_none))))
  pss_nil)
  (pss_cons (ps_if (pt_cmpR op_eq (pe_op op_mod (pv 1) pe_int) pe_int (nomark _))
  (pss_one (ps_ret (pe_op (r := rCatS) op_addSY (pe_op (r := rCatS) op_addSY (pe_slice (r := C8.rSlX) C8.sl_txt (pv 0) po_none (po_some (pv 3))) (pe_callC c_law_sign (hr.mono (by decide)) (pa_cons (pv 2) pa_nil))) (pe_slice (r := C8.rSlX) C8.sl_txt (pv 0) (po_some (pe_op op_add (pv 3) pe_int)) po_none))))
  pss_nil)
  (pss_cons (ps_if (pt_cmpR op_eq (pe_op op_mod (pv 1) pe_int) pe_int (nomark _))
  (pss_one (ps_ret (pe_op (r := rCatS) op_addSY (pe_slice (r := C8.rSlX) C8.sl_txt (pv 0) po_none (po_some (pv 3))) (pe_slice (r := C8.rSlX) C8.sl_txt (pv 0) (po_some (pe_op op_add (pv 3) pe_int)) po_none))))
  pss_nil)
  (pss_cons (ps_if (pt_cmpR op_eq (pe_op op_mod (pv 1) pe_int) pe_int (nomark _))
  (pss_one (ps_ret (pe_ix (r := rIxL K) ix_list (pe_lst (pa_cons pe_str (pa_cons pe_str (pa_cons pe_str (pa_cons pe_str (pa_cons pe_str (pa_cons pe_str pa_nil))))))) (pe_op op_mod (pv 2) pe_int) (fun _ _ => rfl))))
  pss_nil)
  (pss_one (ps_ret (pv 0)))))))), ?_⟩
  simp only [L2.start, n_law_bent, List.map_cons, List.map_nil, List.length_cons, List.length_nil, List.replicate_succ, List.replicate_zero, Nat.reduceAdd, Nat.reduceSub, Nat.sub_self, List.cons_append, List.nil_append]
  walk_at "wp"
  have gz : sizeLine = 16777216 := sizeLine_eq
  have sl := fun (l u : Option Int) => PyProof.Txt.length_slice_le z l u
  refine ⟨⟨by decide, by decide⟩, by omega, by omega, by decide, ite2 (fun _ => ?_) (fun _ => ?_)⟩
  · refine ⟨by omega, m, rfl, fun ch => ?_⟩
    walk_at "wp"
    generalize z.length = n at *
    have k1 := sl none (some (c / 8 % (n : Int)))
    have k2 := sl (some (c / 8 % (n : Int))) none
    have e1 : (S [ch]).length = 1 := rfl
    refine ⟨by omega, by omega, by simp only [Str.length_append]; omega, q _ _ (Same.refl _) (by simp only [Str.length_append]; omega)⟩
  refine ⟨by decide, ite2 (fun _ => ?_) (fun _ => ?_)⟩
  · refine ⟨by omega, m, rfl, fun ch => ?_⟩
    walk_at "wp"
    generalize z.length = n at *
    have k1 := sl none (some (c / 8 % (n : Int)))
    have k2 := sl (some (c / 8 % (n : Int) + 1)) none
    have e1 : (S [ch]).length = 1 := rfl
    refine ⟨by omega, by omega, by simp only [Str.length_append]; omega, q _ _ (Same.refl _) (by simp only [Str.length_append]; omega)⟩
  refine ⟨by decide, ite2 (fun _ => ?_) (fun _ => ?_)⟩
  · generalize z.length = n at *
    have k1 := sl none (some (c / 8 % (n : Int)))
    have k2 := sl (some (c / 8 % (n : Int) + 1)) none
    refine ⟨by omega, by omega, by omega, q _ _ (Same.refl _) (by simp only [Str.length_append]; omega)⟩
  refine ⟨by decide, ite2 (fun _ => ?_) (fun _ => q _ _ (Same.refl _) (by omega))⟩
  refine ⟨by decide, new_o fun l H1 hl s1 h1 => ?_⟩
  walk_at "wp"
  refine ⟨by decide, ?_⟩
  have gi : m % 6 < 6 := Int.emod_lt_of_pos m (by decide)
  obtain ⟨v, hv, hm⟩ := pick_mem (xs := [V.str (Str.ofString ""), V.str (Str.ofString " "), V.str (Str.ofString "letter"), V.str (Str.ofString "mark 1 from 2 to 3"), V.str (Str.ofString "letter 1 from 2 to 3 "), V.str (Str.ofString " letter 1 from 2 to 3")]) (Int.emod_nonneg m (show (6 : Int) ≠ 0 by decide)) gi
  refine ⟨_, v, sqL h1, hv, ?_⟩
  have hs : shortV v := by
    simp only [List.mem_cons, List.mem_nil_iff, or_false] at hm
    rcases hm with h | h | h | h | h | h <;> exact ⟨_, h, by decide +kernel⟩
  obtain ⟨y, rfl, hy⟩ := hs
  exact q _ _ s1 (by omega)
def spGood : Sp := fun vs H Q _ => ∃ z : List Nat, vs = [.str (S z)] ∧ z.length ≤ 100000 ∧ ∀ H', Same H H' → Q (.bl (num z).isSome) H'
abbrev s_law_good : Stmt := top 25
abbrev n_law_good : List Str := ["_law_word", "_law_sign_here"]
theorem sc_law_good : FnScope n_law_good ["_law_word"] (defScope s_law_good) := ⟨rfl, rfl, rfl, by decide +kernel, rfl, by decide +kernel, by decide +kernel⟩
theorem ok_good {f : Addr} {fd : FuncData} (F : Fun K "_law_good" "_law_good" s_law_good f fd) (B : Bt mg) (T : Tt K w mg d_MARKED C_BellError C_BadCount C_NoHand C_NoLetter C_NoMail C_Twice C_NotOpen C_BadMark C_NoNote)  : FnOk P w K mg base CX0 1 f fd ["_law_word"] (spGood) := by
  refine F.ok sc_law_good (fun vs H Q E h => by obtain ⟨_, rfl, _⟩ := h; rfl) (fun cdv A outer s H vs Q E hr h => ?_)
  obtain ⟨z, rfl, hz, q⟩ := h
  refine ⟨_, (pss_cons (ps_if (PW.pt (pw_or (pt_cmpR op_eq (pv 0) pe_str (nomark _)) (pw_or (pt_cmpR op_gt (pe_callB call_lenSY (by rfl) B.len (by decide +kernel) (pa_cons (pv 0) pa_nil)) pe_int (nomark _)) (pw_or1 (PW.pt (pw_and (pt_cmpR op_gt (pe_callB call_lenSY (by rfl) B.len (by decide +kernel) (pa_cons (pv 0) pa_nil)) pe_int (nomark _)) (pw_and1 (pt_cmpR op_eq (pe_ixSY (pv 0) pe_int (fun _ _ => rfl)) pe_str (nomark _)))))))))
  (pss_one (ps_ret pe_bl))
  pss_nil)
  (pss_one (ps_ret (pe_callB (r := rAll K) (cr_all rfl) (by rfl) B.all (by decide +kernel) (pa_cons (pe_lc (own := [("_law_sign_here", 1)]) (g := gName 1) (tt := tYes) rfl sc_law_good.nd (pi_str (pv 0)) (blkOk_by (N := n_law_good) (sc := defScope s_law_good) (by decide +kernel)) (fun _ _ _ _ _ => pg_name (i := 1) sc_law_good.nd rfl (Or.inl rfl)) (fun _ _ _ _ _ => pts_nil) (fun _ _ _ _ _ => (pe_cmpR op_in_sign (pv 1) pe_str (by rfl)))) pa_nil))))), ?_⟩
  simp only [L2.start, n_law_good, List.map_cons, List.map_nil, List.length_cons, List.length_nil, List.replicate_succ, List.replicate_zero, Nat.reduceAdd, Nat.reduceSub, Nat.sub_self, List.cons_append, List.nil_append]
  walk_at "wp"
  have hl : (S z).length = z.length := SX.S_len z
  have gz := sz_of hz
  rw [hl]
  have e0 : Str.ofString "" = S [] := by decide +kernel
  rw [e0]
  refine ite2 (fun c => ?_) (fun c => ?_)
  · have k := q _ (Same.refl _)
    rw [Tx.num_none (fun h => h.1 (Tx.eqS.mp c))] at k
    exact k
  have hne : z ≠ [] := fun h => c (by rw [h])
  refine ⟨gz, ite2 (fun c2 => ?_) (fun c2 => ?_)⟩
  · have k := q _ (Same.refl _)
    rw [Tx.num_no3 (by omega)] at k
    exact k
  have fin : (z.head? = some 48 → z = [48]) → LoopC (Its (S z)) (gName 1) tYes (tOp (fun x y H Q => ∃ (c : Nat) (z : Str), x = V.str ⟨#[c]⟩ ∧ y = V.str z ∧ Q (V.bl (decide (c ∈ z.cps.toList))) H) (tVar 1) (tC (V.str (Str.ofString "0123456789")))) [1] [some (V.str (S z)), none] (fun x H1 => rAll K [x] H1 Q) H := by
    intro h4
    refine comp_str (K := K) z Tx.dig hz ?_ ?_
    · intro c H1 s1 hc R hR
      walk_at "wp"
      refine ⟨c, _, rfl, rfl, hR _ _ (Same.refl _) ?_⟩
      have e : decide (c ∈ (Str.ofString "0123456789").cps.toList) = Tx.dig c := by
        have e1 : (Str.ofString "0123456789").cps.toList = [48, 49, 50, 51, 52, 53, 54, 55, 56, 57] := by decide +kernel
        rw [e1]
        unfold Tx.dig
        rw [Bool.eq_iff_iff]
        simp only [decide_eq_true_eq, List.mem_cons, List.mem_nil_iff, or_false, Bool.and_eq_true]
        omega
      rw [e]
      exact dv_bl _
    · intro D ys H1 hD s1 h1 hv
      have ey := dvL_bls_of hv
      subst ey
      refine ⟨D, _, rfl, sqL h1, ?_⟩
      have k := q _ s1
      have e : (num z).isSome = (z.map Tx.dig).all id := by
        rw [List.all_map]
        show _ = z.all (fun c => Tx.dig c)
        by_cases ha : z.all Tx.dig = true
        · unfold num
          rw [if_pos ⟨hne, ha, by omega, h4⟩]
          exact ha.symm
        · rw [Tx.num_none fun h => ha h.2.1]
          rw [Bool.not_eq_true] at ha
          exact ha.symm
      rw [e] at k
      exact k
  refine ⟨gz, ite2 (fun c3 => ?_) (fun c3 => ?_)⟩
  · obtain ⟨c0, r, rfl⟩ : ∃ c0 r, z = c0 :: r := by
      cases z with
      | nil => exact absurd rfl hne
      | cons c0 r => exact ⟨c0, r, rfl⟩
    refine ⟨c0, by decide, by decide, by omega, rfl, ite2 (fun c4 => ?_) (fun c4 => ?_)⟩
    · rw [Tx.one0] at c4
      have k := q _ (Same.refl _)
      rw [Tx.num_no4 (by rw [c4]; rfl) (fun h => by rw [h] at c3; simp at c3)] at k
      exact k
    · rw [Tx.one0] at c4
      exact fin fun h => absurd (Option.some.inj h) c4
  · refine fin fun h => ?_
    cases z with
    | nil => exact absurd rfl hne
    | cons c0 r =>
      have hr : r = [] := by
        cases r with
        | nil => rfl
        | cons a b => simp at c3; omega
      rw [hr] at h ⊢
      exact congrArg (fun x => [x]) (Option.some.inj h)
def goodF (x : Str) : Bool := (num (TL.tl x)).isSome
def intF (x : Str) : Int := (num (TL.tl x)).getD 0
theorem allT {α : Type} {l : List α} : l.filter (fun _ => true) = l := List.filter_eq_self.mpr fun _ _ => rfl
theorem nine_of {α : Type} {l : List α} (h : l.length = 9) : ∃ a b c d e f g i j, l = [a, b, c, d, e, f, g, i, j] := by
  match l, h with
  | [a, b, c, d, e, f, g, i, j], _ => exact ⟨a, b, c, d, e, f, g, i, j, rfl⟩
def spDue (K : PySem.W.Frag) : Sp := fun vs H Q _ => ∃ x : Str, vs = [.str x] ∧ x.length ≤ 100000 ∧ ∀ v H', Same H H' → Dv K H' v (mailOf x) → Q v H'
abbrev s_law_due : Stmt := top 26
abbrev n_law_due : List Str := ["_law_text_here", "_law_words", "_law_numbers", "_law_word", "_law_row"]
theorem sc_law_due : FnScope n_law_due ["_law_text_here"] (defScope s_law_due) := ⟨rfl, rfl, rfl, by decide +kernel, rfl, by decide +kernel, by decide +kernel⟩
theorem ok_due {f : Addr} {fd : FuncData} (F : Fun K "_law_due" "_law_due" s_law_due f fd) (B : Bt mg) (T : Tt K w mg d_MARKED C_BellError C_BadCount C_NoHand C_NoLetter C_NoMail C_Twice C_NotOpen C_BadMark C_NoNote) (c_law_good : Cal P w K mg base CX0 1 "_law_good" ["_law_word"] (spGood)) : FnOk P w K mg base CX0 2 f fd ["_law_text_here"] (spDue K) := by
  refine F.ok sc_law_due (fun vs H Q E h => by obtain ⟨_, rfl, _⟩ := h; rfl) (fun cdv A outer s H vs Q E hr h => ?_)
  obtain ⟨x, rfl, hz, q⟩ := h
  refine ⟨_, (pss_cons (ps_set (i := 1) sc_law_due.nd rfl (Or.inl rfl) (pe_m1 PySem.F.slot_str_split PySem.F.type_str_split mt_splitY (pv 0) pe_str))
  (pss_cons (ps_if (PW.pt (pw_or (PW.pt (pw_and (pt_cmpR op_ne (pe_callB (r := rLenQ K) call_lenQ (by rfl) B.len (by decide +kernel) (pa_cons (pv 1) pa_nil)) pe_int (nomark _)) (pw_and1 (pt_cmpR op_ne (pe_callB (r := rLenQ K) call_lenQ (by rfl) B.len (by decide +kernel) (pa_cons (pv 1) pa_nil)) pe_int (nomark _))))) (pw_or (pt_cmpR op_ne (pe_ix (r := rIxL K) ix_list (pv 1) pe_int (fun _ _ => rfl)) pe_str (nomark _)) (pw_or1 (pt_cmpR op_ne (pe_ix (r := rIxL K) ix_list (pv 1) pe_int (fun _ _ => rfl)) pe_str (nomark _))))))
  (pss_one (ps_ret pe_non))
  pss_nil)
  (pss_cons (ps_set (i := 2) sc_law_due.nd rfl (Or.inl rfl) (pe_lst (pa_cons (pe_ix (r := rIxL K) ix_list (pv 1) pe_int (fun _ _ => rfl)) (pa_cons (pe_ix (r := rIxL K) ix_list (pv 1) pe_int (fun _ _ => rfl)) (pa_cons (pe_ix (r := rIxL K) ix_list (pv 1) pe_int (fun _ _ => rfl)) pa_nil)))))
  (pss_cons (ps_if (pt_cmpR op_eq (pe_callB (r := rLenQ K) call_lenQ (by rfl) B.len (by decide +kernel) (pa_cons (pv 1) pa_nil)) pe_int (nomark _))
  (pss_cons (ps_if (PW.pt (pw_or (pt_cmpR (r := rIn K true) op_notIn_seq (pe_ix (r := rIxL K) ix_list (pv 1) pe_int (fun _ _ => rfl)) (pe_tup (pa_cons pe_str (pa_cons pe_str pa_nil))) (by rfl)) (pw_or (pt_cmpR op_ne (pe_slice (r := C8.rSlX) C8.sl_txt (pe_ix (r := rIxL K) ix_list (pv 1) pe_int (fun _ _ => rfl)) (po_some (pe_un un_neg pe_int)) po_none) pe_str (nomark _)) (pw_or (pt_cmpR op_ne (pe_ix (r := rIxL K) ix_list (pv 1) pe_int (fun _ _ => rfl)) pe_str (nomark _)) (pw_or1 (pt_cmpR op_eq (pe_ix (r := rIxL K) ix_list (pv 1) pe_int (fun _ _ => rfl)) pe_str (nomark _)))))))
  (pss_one (ps_ret pe_non))
  pss_nil)
  (pss_one (ps_set (i := 2) sc_law_due.nd rfl (Or.inl rfl) (pe_lst (pa_cons (pe_ix (r := rIxL K) ix_list (pv 1) pe_int (fun _ _ => rfl)) (pa_cons (pe_ix (r := rIxL K) ix_list (pv 1) pe_int (fun _ _ => rfl)) (pa_cons (pe_slice (r := C8.rSlX) C8.sl_txt (pe_ix (r := rIxL K) ix_list (pv 1) pe_int (fun _ _ => rfl)) po_none (po_some (pe_un un_neg pe_int))) (pa_cons (pe_ix (r := rIxL K) ix_list (pv 1) pe_int (fun _ _ => rfl)) (pa_cons (pe_ix (r := rIxL K) ix_list (pv 1) pe_int (fun _ _ => rfl)) pa_nil)))))))))
  (pss_one (ps_if (pt_cmpR op_ne (pe_ix (r := rIxL K) ix_list (pv 1) pe_int (fun _ _ => rfl)) pe_str (nomark _))
  (pss_one (ps_ret pe_non))
  pss_nil)))
  (pss_cons (ps_if (pt_not (pt_val (pe_callB (r := rAll K) (cr_all rfl) (by rfl) B.all (by decide +kernel) (pa_cons (pe_lc (own := [("_law_word", 3)]) (g := gName 3) (tt := tYes) rfl sc_law_due.nd (pi_list (pv 2)) (blkOk_by (N := n_law_due) (sc := defScope s_law_due) (by decide +kernel)) (fun _ _ _ _ _ => pg_name (i := 3) sc_law_due.nd rfl (Or.inl rfl)) (fun _ _ _ _ _ => pts_nil) (fun _ _ _ _ _ => (pe_callC c_law_good (hr.mono (by decide)) (pa_cons (pv 3) pa_nil)))) pa_nil))))
  (pss_one (ps_ret pe_non))
  pss_nil)
  (pss_cons (ps_setLc (i := 4) (own := [("_law_word", 3)]) (g := gName 3) (tt := tYes) rfl sc_law_due.nd rfl rfl (sw_true rfl rfl rfl (by decide +kernel)) (pi_list (pv 2)) (blkOk_by (N := n_law_due) (sc := defScope s_law_due) (by decide +kernel)) (fun _ _ _ _ _ => pg_name (i := 3) sc_law_due.nd rfl (Or.inl rfl)) (fun _ _ _ _ _ => pts_nil) (fun _ _ _ _ _ => (pe_callTy call_intSY (by rfl) B.int (by decide +kernel) (pa_cons (pv 3) pa_nil))))
  (pss_cons (ps_if (pt_cmpR op_eq (pe_callB (r := rLenQ K) call_lenQ (by rfl) B.len (by decide +kernel) (pa_cons (pv 4) pa_nil)) pe_int (nomark _))
  (pss_one (ps_ret (pe_tup (pa_cons (pe_ix (r := rIxL K) ix_list (pv 1) pe_int (fun _ _ => rfl)) (pa_cons (pe_ix (r := rIxL K) ix_list (pv 4) pe_int (fun _ _ => rfl)) (pa_cons (pe_ix (r := rIxL K) ix_list (pv 4) pe_int (fun _ _ => rfl)) (pa_cons (pe_ix (r := rIxL K) ix_list (pv 4) pe_int (fun _ _ => rfl)) (pa_cons (pe_tup (pa_cons (pe_ix (r := rIxL K) ix_list (pv 4) pe_int (fun _ _ => rfl)) (pa_cons (pe_ix (r := rIxL K) ix_list (pv 4) pe_int (fun _ _ => rfl)) pa_nil))) pa_nil))))))))
  pss_nil)
  (pss_one (ps_ret (pe_tup (pa_cons (pe_ix (r := rIxL K) ix_list (pv 1) pe_int (fun _ _ => rfl)) (pa_cons (pe_ix (r := rIxL K) ix_list (pv 4) pe_int (fun _ _ => rfl)) (pa_cons (pe_ix (r := rIxL K) ix_list (pv 4) pe_int (fun _ _ => rfl)) (pa_cons (pe_ix (r := rIxL K) ix_list (pv 4) pe_int (fun _ _ => rfl)) (pa_cons pe_non pa_nil))))))))))))))), ?_⟩
  simp only [L2.start, n_law_due, List.map_cons, List.map_nil, List.length_cons, List.length_nil, List.replicate_succ, List.replicate_zero, Nat.reduceAdd, Nat.reduceSub, Nat.sub_self, List.cons_append, List.nil_append]
  walk_at "wp"
  refine ⟨by decide, Nat.le_trans (show x.length + 2 ≤ 100002 by omega) (by decide), new_o fun l H1 hl1 s1 h1 => ?_⟩
  rw [Tx.split_b, List.map_map] at h1
  generalize eW : sp (TL.tl x) = W at h1
  have hp : ∀ p ∈ W, p.length ≤ 100000 := fun p hp => by
    rw [← eW] at hp
    exact Nat.le_trans (Tx.sp_len _ p hp) (by rw [← TL.len_tl]; exact hz)
  have h1 : H1 l = some (.lst (W.map (V.str ∘ S))) := h1
  walk_at "wp"
  refine ⟨_, .inl (sqL h1), ?_⟩
  rw [List.length_map]
  walk_at "wp"
  by_cases h6 : W.length = 6
  · obtain ⟨w, n1, f, n2, t, n3, rfl⟩ := Tx.six_of h6
    have h1 : H1 l = some (.lst [.str (S w), .str (S n1), .str (S f), .str (S n2), .str (S t), .str (S n3)]) := h1
    rw [Tx.mail_six eW] at q
    refine ite2 (fun c => by simp at c) (fun _ => ?_)
    refine ⟨_, _, sqL h1, b_at2, ?_⟩
    walk_at "wp"
    refine ite2 (fun c => ?_) (fun c => ?_)
    · rw [Bool.not_eq_true', decide_eq_false_iff_not] at c
      rw [if_neg fun z => c z.1] at q
      exact q _ _ s1 dv_none
    rw [Bool.not_eq_true', Bool.not_eq_false, decide_eq_true_eq] at c
    refine ⟨_, _, sqL h1, b_at4, ?_⟩
    walk_at "wp"
    refine ite2 (fun d => ?_) (fun d => ?_)
    · rw [Bool.not_eq_true', decide_eq_false_iff_not] at d
      rw [if_neg fun z => d z.2.1] at q
      exact q _ _ s1 dv_none
    rw [Bool.not_eq_true', Bool.not_eq_false, decide_eq_true_eq] at d
    refine ⟨_, _, sqL h1, b_at1, _, _, sqL h1, b_at3, _, _, sqL h1, b_at5, by decide, new_o fun l2 H2 hl2 s2 h2 => ?_⟩
    walk_at "wp"
    have h1' := s2 _ _ h1
    have s02 := s1.trans s2
    refine ⟨_, .inl (sqL h1'), ite2 (fun z => by simp at z) (fun _ => ?_)⟩
    refine ⟨_, _, sqL h1', b_at0, ?_⟩
    walk_at "wp"
    refine ite2 (fun g => ?_) (fun g => ?_)
    · rw [Bool.not_eq_true', decide_eq_false_iff_not] at g
      rw [if_neg fun z => g z.2.2] at q
      exact q _ _ s02 dv_none
    rw [Bool.not_eq_true', Bool.not_eq_false, decide_eq_true_eq] at g
    rw [if_pos ⟨c, d, g⟩] at q
    refine ⟨⟨_, sqL h2⟩, comp_list (K := K) [S n1, S n2, S n3] goodF (fun _ => true) (sqL h2) (dvL_strs [S n1, S n2, S n3]) (by simp) ?_ ?_⟩
    · intro v y H3 s3 dy hy R R0 hR _
      rw [dv_str_of dy]
      walk_at "wp"
      refine ⟨TL.tl y, rfl, ?_, fun H4 s4 => hR _ _ rfl s4 (dv_bl _)⟩
      simp only [List.mem_cons, List.mem_nil_iff, or_false] at hy
      rcases hy with h | h | h <;> rw [h]
      · exact hp _ (by simp)
      · exact hp _ (by simp)
      · exact hp _ (by simp)
    intro D ys H3 hD s3 h3 hv
    rw [allT] at hv
    have ey := dvL_bls_of hv
    subst ey
    refine ⟨D, _, rfl, sqL h3, ?_⟩
    walk_at "wp"
    have h1n := s3 _ _ h1'
    have h2n := s3 _ _ h2
    refine ite2 (fun z => ?_) (fun z => ?_)
    · have k := q .non _ (s02.trans s3)
      have e : ¬ (∃ i1 i2 i3, num n1 = some i1 ∧ num n2 = some i2 ∧ num n3 = some i3) := fun ⟨i1, i2, i3, e1, e2, e3⟩ => by
        simp [goodF, TL.tl_mk, e1, e2, e3] at z
      refine k ?_
      cases e1 : num n1 with
      | none => exact dv_none
      | some i1 =>
        cases e2 : num n2 with
        | none => exact dv_none
        | some i2 =>
          cases e3 : num n3 with
          | none => exact dv_none
          | some i3 => exact absurd ⟨i1, i2, i3, e1, e2, e3⟩ e
    rw [Bool.not_eq_true', Bool.not_eq_false] at z
    simp only [List.map_cons, List.map_nil, List.all_cons, List.all_nil, Bool.and_true, Bool.and_eq_true, goodF, _root_.id, TL.tl_mk, Option.isSome_iff_exists] at z
    obtain ⟨⟨i1, e1⟩, ⟨i2, e2⟩, ⟨i3, e3⟩⟩ := z
    refine ⟨⟨_, sqL h2n⟩, comp_list (K := K) [S n1, S n2, S n3] intF (fun _ => true) (sqL h2n) (dvL_strs [S n1, S n2, S n3]) (by simp) ?_ ?_⟩
    · intro v y H4 s4 dy hy R R0 hR _
      rw [dv_str_of dy]
      walk_at "wp"
      have ev : ∃ i, num (TL.tl y) = some i := by
        simp only [List.mem_cons, List.mem_nil_iff, or_false] at hy
        rcases hy with h | h | h <;> rw [h]
        · exact ⟨i1, e1⟩
        · exact ⟨i2, e2⟩
        · exact ⟨i3, e3⟩
      obtain ⟨i, ei⟩ := ev
      have ki := Tx.num_int ei
      have ke : S (TL.tl y) = y := TL.mk_tl y
      rw [ke] at ki
      refine ⟨i, ki.1, by rw [TL.len_tl]; omega, hR _ _ rfl (Same.refl _) ?_⟩
      have e : intF y = i := by unfold intF; rw [ei]; rfl
      rw [e]
      exact dv_int _
    intro D2 zs H4 hD2 s4 h4 hz4
    rw [allT] at hz4
    have ez := dvL_ints_of hz4
    subst ez
    have h4 : H4 D2 = some (.lst [.int i1, .int i2, .int i3]) := by
      have e : [S n1, S n2, S n3].map intF = [i1, i2, i3] := by
        simp only [List.map_cons, List.map_nil, intF, TL.tl_mk, e1, e2, e3]
        rfl
      rw [e] at h4
      exact h4
    have s04 := (s02.trans s3).trans s4
    have h1m := s4 _ _ h1n
    walk_at "wp"
    refine ⟨_, .inl (sqL h4), ite2 (fun z => by simp at z) (fun _ => ?_)⟩
    refine ⟨_, _, sqL h1m, b_at0, _, _, sqL h4, b_at0, _, _, sqL h4, b_at1, _, _, sqL h4, b_at2, by decide, new_o fun o H5 ho s5 h5 => ?_⟩
    refine q _ _ (s04.trans s5) ?_
    rw [e1, e2, e3]
    exact dv_some (dv_mail (m := ⟨S w, i1, i2, i3, none⟩) (sqT h5) dv_none)
  by_cases h9 : W.length = 9
  · obtain ⟨w, n1, f, n2, t, b, n4, o, n5, rfl⟩ := nine_of h9
    have h1 : H1 l = some (.lst [.str (S w), .str (S n1), .str (S f), .str (S n2), .str (S t), .str (S b), .str (S n4), .str (S o), .str (S n5)]) := h1
    rw [Tx.mail_nine eW] at q
    refine ite2 (fun _ => ?_) (fun c => by simp at c)
    refine ⟨_, .inl (sqL h1), ite2 (fun c => by simp at c) (fun _ => ?_)⟩
    refine ⟨_, _, sqL h1, b_at2, ?_⟩
    walk_at "wp"
    refine ite2 (fun c => ?_) (fun c => ?_)
    · rw [Bool.not_eq_true', decide_eq_false_iff_not] at c
      rw [if_neg fun z => c z.1] at q
      exact q _ _ s1 dv_none
    rw [Bool.not_eq_true', Bool.not_eq_false, decide_eq_true_eq] at c
    refine ⟨_, _, sqL h1, b_at4, ?_⟩
    walk_at "wp"
    refine ite2 (fun d => ?_) (fun d => ?_)
    · rw [Bool.not_eq_true', decide_eq_false_iff_not] at d
      rw [if_neg fun z => d z.2.1] at q
      exact q _ _ s1 dv_none
    rw [Bool.not_eq_true', Bool.not_eq_false, decide_eq_true_eq] at d
    refine ⟨_, _, sqL h1, b_at1, _, _, sqL h1, b_at3, _, _, sqL h1, b_at5, by decide, new_o fun l2 H2 hl2 s2 h2 => ?_⟩
    walk_at "wp"
    have h1' := s2 _ _ h1
    have s02 := s1.trans s2
    refine ⟨_, .inl (sqL h1'), ite2 (fun _ => ?_) (fun z => by simp at z)⟩
    refine ⟨_, _, sqL h1', b_at0, by decide, new_o fun l3 H3 hl3 s3 h3 => ?_⟩
    walk_at "wp"
    refine ⟨_, _, rfl, .inr (sqT h3), rfl, rfl, ?_⟩
    walk_at "wp"
    have h1u := s3 _ _ h1'
    have s03 := s02.trans s3
    have eIn : (!inV (.str (S w)) [V.str (Str.ofString "number"), V.str (Str.ofString "mark")]) = !decide (S w = Tx.wN ∨ S w = Tx.wM) := by
      congr 1
      show ((eqV (.str (Str.ofString "number")) (.str (S w))) || ((eqV (.str (Str.ofString "mark")) (.str (S w))) || false)) = _
      rw [Bool.or_false, eqV_str, eqV_str, Bool.eq_iff_iff, Bool.or_eq_true, decide_eq_true_eq, decide_eq_true_eq, decide_eq_true_eq]
      exact ⟨fun h => h.imp Eq.symm Eq.symm, fun h => h.imp Eq.symm Eq.symm⟩
    rw [eIn]
    refine ite2 (fun g => ?_) (fun g => ?_)
    · rw [Bool.not_eq_true', decide_eq_false_iff_not] at g
      rw [if_neg fun z => g z.2.2.1] at q
      exact q _ _ s03 dv_none
    rw [Bool.not_eq_true', Bool.not_eq_false, decide_eq_true_eq] at g
    refine ⟨_, _, sqL h1u, b_at5, ?_⟩
    walk_at "wp"
    have hbl := hp b (by simp)
    have hlb : (S b).length = b.length := SX.S_len b
    refine ⟨by rw [hlb]; exact sz_of hbl, ?_⟩
    have e58 : (Txt.slice (S b) (some (-1)) none = Str.ofString ":") ↔ b.getLast? = some 58 := by
      have ec : Str.ofString ":" = S [58] := by decide +kernel
      rw [ec]
      by_cases hb : b = []
      · subst hb
        have e0 : Txt.slice (S []) (some (-1)) none = S [] := by decide +kernel
        rw [e0, Tx.eqS]
        simp
      · obtain ⟨r, y, rfl⟩ : ∃ r y, b = r ++ [y] := ⟨b.dropLast, b.getLast hb, (List.dropLast_concat_getLast hb).symm⟩
        rw [SX.last_snoc, Tx.eqS, List.getLast?_concat]
        simp
    refine ite2 (fun k => ?_) (fun k => ?_)
    · rw [Bool.not_eq_true', decide_eq_false_iff_not, e58] at k
      rw [if_neg fun z => k z.2.2.2.1] at q
      exact q _ _ s03 dv_none
    rw [Bool.not_eq_true', Bool.not_eq_false, decide_eq_true_eq, e58] at k
    refine ⟨_, _, sqL h1u, b_at7, ?_⟩
    walk_at "wp"
    refine ite2 (fun m => ?_) (fun m => ?_)
    · rw [Bool.not_eq_true', decide_eq_false_iff_not] at m
      rw [if_neg fun z => m z.2.2.2.2.1] at q
      exact q _ _ s03 dv_none
    rw [Bool.not_eq_true', Bool.not_eq_false, decide_eq_true_eq] at m
    refine ⟨_, _, sqL h1u, b_at6, ?_⟩
    walk_at "wp"
    have e0 : (S n4 = Str.ofString "0") ↔ n4 = [48] := by rw [Tx.str0, Tx.eqS]
    refine ite2 (fun r => ?_) (fun r => ?_)
    · rw [e0] at r
      rw [if_neg fun z => z.2.2.2.2.2 r] at q
      exact q _ _ s03 dv_none
    rw [e0] at r
    rw [if_pos ⟨c, d, g, k, m, r⟩] at q
    have ecut : Txt.slice (S b) none (some (-1)) = S b.dropLast := by
      have hb : b ≠ [] := fun z => by rw [z] at k; cases k
      obtain ⟨r, y, rfl⟩ : ∃ r y, b = r ++ [y] := ⟨b.dropLast, b.getLast hb, (List.dropLast_concat_getLast hb).symm⟩
      rw [SX.butlast_snoc, List.dropLast_concat]
    refine ⟨_, _, sqL h1u, b_at1, _, _, sqL h1u, b_at3, _, _, sqL h1u, b_at5, ?_⟩
    walk_at "wp"
    rw [ecut]
    refine ⟨by rw [hlb]; exact sz_of hbl, _, _, sqL h1u, b_at6, _, _, sqL h1u, b_at8, by decide, new_o fun l5 H5 hl5 s5 h5 => ?_⟩
    walk_at "wp"
    have h1'' := s5 _ _ h1u
    have s05 := s03.trans s5
    refine ⟨⟨_, sqL h5⟩, comp_list (K := K) [S n1, S n2, S b.dropLast, S n4, S n5] goodF (fun _ => true) (sqL h5) (dvL_strs [S n1, S n2, S b.dropLast, S n4, S n5]) (by simp) ?_ ?_⟩
    · intro v y H6 s6 dy hy R R0 hR _
      rw [dv_str_of dy]
      walk_at "wp"
      refine ⟨TL.tl y, rfl, ?_, fun H7 s7 => hR _ _ rfl s7 (dv_bl _)⟩
      simp only [List.mem_cons, List.mem_nil_iff, or_false] at hy
      rcases hy with h | h | h | h | h <;> rw [h]
      · exact hp _ (by simp)
      · exact hp _ (by simp)
      · rw [show TL.tl (S b.dropLast) = b.dropLast from rfl, List.length_dropLast]
        have := hp b (by simp)
        omega
      · exact hp _ (by simp)
      · exact hp _ (by simp)
    intro D ys H6 hD s6 h6n hv
    rw [allT] at hv
    have ey := dvL_bls_of hv
    subst ey
    refine ⟨D, _, rfl, sqL h6n, ?_⟩
    walk_at "wp"
    have h1n := s6 _ _ h1''
    have h2n := s6 _ _ h5
    refine ite2 (fun z => ?_) (fun z => ?_)
    · have k := q .non _ (s05.trans s6)
      have e : ¬ (∃ i1 i2 i3 i4 i5, num n1 = some i1 ∧ num n2 = some i2 ∧ num b.dropLast = some i3 ∧ num n4 = some i4 ∧ num n5 = some i5) := fun ⟨i1, i2, i3, i4, i5, e1, e2, e3, e4, e5⟩ => by
        simp [goodF, TL.tl_mk, e1, e2, e3, e4, e5] at z
      refine k ?_
      cases e1 : num n1 with
      | none => exact dv_none
      | some i1 =>
        cases e2 : num n2 with
        | none => exact dv_none
        | some i2 =>
          cases e3 : num b.dropLast with
          | none => exact dv_none
          | some i3 =>
            cases e4 : num n4 with
            | none => exact dv_none
            | some i4 =>
              cases e5 : num n5 with
              | none => exact dv_none
              | some i5 => exact absurd ⟨i1, i2, i3, i4, i5, e1, e2, e3, e4, e5⟩ e
    rw [Bool.not_eq_true', Bool.not_eq_false] at z
    simp only [List.map_cons, List.map_nil, List.all_cons, List.all_nil, Bool.and_true, Bool.and_eq_true, goodF, _root_.id, TL.tl_mk, Option.isSome_iff_exists] at z
    obtain ⟨⟨i1, e1⟩, ⟨i2, e2⟩, ⟨i3, e3⟩, ⟨i4, e4⟩, ⟨i5, e5⟩⟩ := z
    refine ⟨⟨_, sqL h2n⟩, comp_list (K := K) [S n1, S n2, S b.dropLast, S n4, S n5] intF (fun _ => true) (sqL h2n) (dvL_strs [S n1, S n2, S b.dropLast, S n4, S n5]) (by simp) ?_ ?_⟩
    · intro v y H7 s7 dy hy R R0 hR _
      rw [dv_str_of dy]
      walk_at "wp"
      have ev : ∃ i, num (TL.tl y) = some i := by
        simp only [List.mem_cons, List.mem_nil_iff, or_false] at hy
        rcases hy with h | h | h | h | h <;> rw [h]
        · exact ⟨i1, e1⟩
        · exact ⟨i2, e2⟩
        · exact ⟨i3, e3⟩
        · exact ⟨i4, e4⟩
        · exact ⟨i5, e5⟩
      obtain ⟨i, ei⟩ := ev
      have ki := Tx.num_int ei
      have ke : S (TL.tl y) = y := TL.mk_tl y
      rw [ke] at ki
      refine ⟨i, ki.1, by rw [TL.len_tl]; omega, hR _ _ rfl (Same.refl _) ?_⟩
      have e : intF y = i := by unfold intF; rw [ei]; rfl
      rw [e]
      exact dv_int _
    intro D2 zs H7 hD2 s7 h7n hz4
    rw [allT] at hz4
    have ez := dvL_ints_of hz4
    subst ez
    have h7n : H7 D2 = some (.lst [.int i1, .int i2, .int i3, .int i4, .int i5]) := by
      have e : [S n1, S n2, S b.dropLast, S n4, S n5].map intF = [i1, i2, i3, i4, i5] := by
        simp only [List.map_cons, List.map_nil, intF, TL.tl_mk, e1, e2, e3, e4, e5]
        rfl
      rw [e] at h7n
      exact h7n
    have s07 := (s05.trans s6).trans s7
    have h1m := s7 _ _ h1n
    walk_at "wp"
    refine ⟨_, .inl (sqL h7n), ite2 (fun _ => ?_) (fun z => by simp at z)⟩
    refine ⟨_, _, sqL h1m, b_at0, _, _, sqL h7n, b_at0, _, _, sqL h7n, b_at1, _, _, sqL h7n, b_at2, _, _, sqL h7n, b_at3, _, _, sqL h7n, b_at4, by decide, new_o fun o1 H8 ho1 s8 h8 => ?_⟩
    walk_at "wp"
    refine ⟨by decide, new_o fun o2 H9 ho2 s9 h9 => ?_⟩
    refine q _ _ ((s07.trans s8).trans s9) ?_
    rw [e1, e2, e3, e4, e5]
    exact dv_some (dv_mail (m := ⟨S w, i1, i2, i3, some (i4, i5)⟩) (sqT h9) (dv_some (dv_pair (sqT (s9 _ _ h8)) (dv_int _) (dv_int _))))
  · rw [Tx.mail_other (by rw [eW]; exact h6) (by rw [eW]; exact h9)] at q
    refine ite2 (fun _ => ?_) (fun c => absurd (by simp only [Bool.not_eq_true', Bool.not_eq_false, decide_eq_true_eq] at c; omega) h6)
    refine ⟨_, .inl (sqL h1), ite2 (fun _ => q _ _ s1 dv_none) (fun c => absurd (by simp only [Bool.not_eq_true', Bool.not_eq_false, decide_eq_true_eq, List.length_map] at c; omega) h9)⟩
theorem four_of {α : Type} {l : List α} (h : l.length = 4) : ∃ a b c d, l = [a, b, c, d] := by
  match l, h with
  | [a, b, c, d], _ => exact ⟨a, b, c, d, rfl⟩
def spLaw (K : PySem.W.Frag) : Sp := fun vs H Q _ => ∃ (a : Addr) (ns : List Int), vs = [.ref a] ∧ SqL K H a (ns.map V.int) ∧ ns.length ≤ 63 ∧ ∀ H', Q (.bl true) H'
abbrev s_law : Stmt := top 29
abbrev n_law : List Str := ["_law_script", "_law_k", "_law_text_here", "_law_due_here", "_law_found"]
theorem sc_law : FnScope n_law ["_law_script"] (defScope s_law) := ⟨rfl, rfl, rfl, by decide +kernel, rfl, by decide +kernel, by decide +kernel⟩
theorem ok_law {f : Addr} {fd : FuncData} (F : Fun K "law" "law" s_law f fd) (B : Bt mg) (T : Tt K w mg d_MARKED C_BellError C_BadCount C_NoHand C_NoLetter C_NoMail C_Twice C_NotOpen C_BadMark C_NoNote) (c_law_text : Cal P w K mg base CX0 2 "_law_text" ["_law_cells"] (spText K)) (c_law_bent : Cal P w K mg base CX0 2 "_law_bent" ["_law_text_here", "_law_cell", "_law_more"] (spBent)) (c_law_due : Cal P w K mg base CX0 2 "_law_due" ["_law_text_here"] (spDue K)) (c_law_told : Cal P w K mg base CX0 4 "_law_told" ["_law_text_here"] (spTold K)) (c_law_mail : Cal P w K mg base CX0 3 "_law_mail" ["_law_found"] (spMail K)) : FnOk P w K mg base CX0 5 f fd ["_law_script"] (spLaw K) := by
  refine F.ok sc_law (fun vs H Q E h => by obtain ⟨_, _, rfl, _⟩ := h; rfl) (fun cdv A outer s H vs Q E hr h => ?_)
  obtain ⟨a, ns, rfl, hs, hlen, q⟩ := h
  refine ⟨_, (pss_cons (ps_for PassesOwn.never rfl (pi_range3 rfl B.range (pa_cons pe_int (pa_cons (pe_op op_sub (pe_callB (r := rLenQ K) call_lenQ (by rfl) B.len (by decide +kernel) (pa_cons (pv 0) pa_nil)) pe_int) (pa_cons pe_int pa_nil)))) (pg_name (i := 1) sc_law.nd rfl (Or.inl rfl))
  (pss_cons (ps_set (i := 2) sc_law.nd rfl (Or.inl rfl) (pe_callC c_law_text (hr.mono (by decide)) (pa_cons (pe_slice (r := rSlL K) sl_list (pv 0) (po_some (pv 1)) (po_some (pe_op op_add (pv 1) pe_int))) pa_nil)))
  (pss_cons (ps_set (i := 2) sc_law.nd rfl (Or.inl rfl) (pe_callC c_law_bent (hr.mono (by decide)) (pa_cons (pv 2) (pa_cons (pe_op op_fdiv (pe_ix (r := rIxL K) ix_list (pv 0) (pe_op op_add (pv 1) pe_int) (fun _ _ => rfl)) pe_int) (pa_cons (pe_ix (r := rIxL K) ix_list (pv 0) (pe_op op_add (pv 1) pe_int) (fun _ _ => rfl)) pa_nil)))))
  (pss_cons (ps_set (i := 3) sc_law.nd rfl (Or.inl rfl) (pe_callC c_law_due (hr.mono (by decide)) (pa_cons (pv 2) pa_nil)))
  (pss_cons (ps_set (i := 4) sc_law.nd rfl (Or.inl rfl) (pe_callC c_law_told (hr.mono (by decide)) (pa_cons (pv 2) pa_nil)))
  (pss_one (ps_if (PW.pt (pw_or (pt_cmpR (r := rNeA (Option Mail) K) (op_neA (by decide) hr.units) (pv 4) (pv 3) (nomark _)) (pw_or1 (PW.pt (pw_and (pt_cmpR op_notN (pv 3) pe_non (nomark _)) (pw_and1 (pt_not (pt_val (pe_callC c_law_mail (hr.mono (by decide)) (pa_cons (pv 4) pa_nil))))))))))
  (pss_one (ps_ret pe_bl))
  pss_nil)))))))
  (pss_one (ps_ret pe_bl))), ?_⟩
  simp only [L2.start, n_law, List.map_cons, List.map_nil, List.length_cons, List.length_nil, List.replicate_succ, List.replicate_zero, Nat.reduceAdd, Nat.reduceSub, Nat.sub_self, List.cons_append, List.nil_append]
  walk_at "wp"
  refine ⟨_, .inl hs, ?_⟩
  rw [List.length_map]
  obtain ⟨n, hrg, hn, hlt⟩ := rgc_of (i := 0) (j := (ns.length : Int) - 3) (c := 4) (by decide) (by decide) (by decide) (by decide) (by omega) (by omega)
  refine ⟨n, hrg, loop_rangeC (fun i σ H2 => Same H H2 ∧ ∃ (v1 v2 v3 v4 : Option V), σ = [some (.ref a), v1, v2, v3, v4]) ⟨Same.refl _, _, _, _, _, rfl⟩ ?_ ?_⟩
  · rintro i σ H2 hi ⟨s2, v1, v2, v3, v4, rfl⟩
    have hs2 := s2.seq hs
    obtain ⟨hk1, hk2⟩ := hlt i hi
    have c3 := cell_at (ns := ns) (k := 0 + (i : Int) * 4 + 3) (by omega) (by omega)
    have c2 := cell_at (ns := ns) (k := 0 + (i : Int) * 4 + 2) (by omega) (by omega)
    have ek : (0 : Int) + (i : Int) * 4 = ((i * 4 : Nat) : Int) := by omega
    have ek4 : (0 : Int) + (i : Int) * 4 + 4 = ((i * 4 + 4 : Nat) : Int) := by omega
    walk_at "wp"
    refine ⟨_, hs2, ?_⟩
    rw [ek4, ek, cutV_mid (by rw [List.length_map]; omega), ← ek]
    refine new_o fun o H3 ho s3 h3 => ?_
    have hs3 := s3.seq hs2
    walk_at "wp"
    rw [← List.map_drop, ← List.map_take] at h3
    obtain ⟨d0, d1, d2, d3, e4⟩ := four_of (l := (ns.drop (i * 4)).take (i * 4 + 4 - i * 4)) (by rw [List.length_take, List.length_drop]; omega)
    rw [e4] at h3
    refine ⟨o, d0, d1, d2, d3, rfl, sqL h3, fun z H4 s4 hz1 hz2 => ?_⟩
    have hs4 := s4.seq hs3
    walk_at "wp"
    refine ⟨_, _, hs4, c3, ?_⟩
    walk_at "wp"
    refine ⟨⟨by decide, by decide⟩, _, _, hs4, c2, z, _, _, rfl, hz1, hz2, fun y H5 s5 hy => ?_⟩
    walk_at "wp"
    refine ⟨y, rfl, by omega, fun v H6 s6 dv => ?_⟩
    walk_at "wp"
    refine ⟨y, rfl, by omega, fun u H7 s7 du => ?_⟩
    walk_at "wp"
    have dv7 := dv.same s7
    refine ⟨_, _, du, dv7, ?_⟩
    have s27 := ((((s2.trans s3).trans s4).trans s5).trans s6).trans s7
    walk_at "wp"
    cases e : mailOf y with
    | none =>
      rw [e] at dv7
      rw [dv_none_of dv7]
      walk_at "wp"
      exact ⟨s27, _, _, _, _, rfl⟩
    | some m =>
      rw [e] at dv7 du
      obtain ⟨b, w', rfl, _⟩ := dv_mail_of (dv_some_of dv7)
      refine ite2 (fun _ => ?_) (fun _ => ⟨s27, _, _, _, _, rfl⟩)
      refine ⟨u, m, rfl, dv_some_of du, ?_⟩
      walk_at "wp"
      exact ⟨s27, _, _, _, _, rfl⟩
  · rintro σ H2 ⟨s2, v1, v2, v3, v4, rfl⟩
    walk_at "wp"
    exact q _
abbrev s_read_number : Stmt := top 15
abbrev n_read_number : List Str := ["figures"]
theorem sc_read_number : FnScope n_read_number ["figures"] (defScope s_read_number) := ⟨rfl, rfl, rfl, by decide +kernel, rfl, by decide +kernel, by decide +kernel⟩
theorem ok_read_number {f : Addr} {fd : FuncData} (F : Fun K "_read_number" "_read_number" s_read_number f fd) (B : Bt mg) (T : Tt K w mg d_MARKED C_BellError C_BadCount C_NoHand C_NoLetter C_NoMail C_Twice C_NotOpen C_BadMark C_NoNote)  : FnOk P w K mg base (L2N.CX P w) 1 f fd ["figures"] (spNumber C_NoNote) := by
  refine okN F sc_read_number (fun vs H Q E h => by obtain ⟨_, rfl, _⟩ := h; rfl) (fun cdv A outer s H vs Q E hr h => ?_)
  obtain ⟨z, rfl, hz, q⟩ := h
  refine ⟨_, (pss_cons (ps_if (PW.pt (pw_or (pt_not (pt_val (pe_bm0 PySem.F.plainAttrs_str PySem.F.slot_str_isascii PySem.F.type_str_isascii mt_isasciiY (pv 0)))) (pw_or1 (pt_not (pt_val (pe_bm0 PySem.F.plainAttrs_str PySem.F.slot_str_isdigit PySem.F.type_str_isdigit mt_isdigitY (pv 0)))))))
  (pss_one (ps_err T.e_NoNote rfl (L2N.takes_of rfl rfl rfl rfl)))
  pss_nil)
  (pss_cons (ps_if (pt_cmpR op_gt (pe_callB call_lenSY (by rfl) B.len (by decide +kernel) (pa_cons (pv 0) pa_nil)) (pe_gl T.m_MOST_FIGURES) (nomark _))
  (pss_one (ps_err T.e_NoNote rfl (L2N.takes_of rfl rfl rfl rfl)))
  pss_nil)
  (pss_cons (ps_if (PW.pt (pw_and (pt_cmpR op_eq (pe_ixSY (pv 0) pe_int (fun _ _ => rfl)) pe_str (nomark _)) (pw_and1 (pt_cmpR op_ne (pv 0) pe_str (nomark _)))))
  (pss_one (ps_err T.e_NoNote rfl (L2N.takes_of rfl rfl rfl rfl)))
  pss_nil)
  (pss_one (ps_ret (pe_callTy call_intSY (by rfl) B.int (by decide +kernel) (pa_cons (pv 0) pa_nil))))))), ?_⟩
  simp only [L2.start, n_read_number, List.map_cons, List.map_nil, List.length_cons, List.length_nil, List.replicate_succ, List.replicate_zero, Nat.reduceAdd, Nat.reduceSub, Nat.sub_self, List.cons_append, List.nil_append]
  walk_at "wp"
  have hl : (S z).length = z.length := SX.S_len z
  have hz0 : z.length ≤ sizeLine := sz_of hz
  rw [hl]
  refine ite2 (fun c => ?_) (fun c => ?_)
  · exact q.2 (Tx.num_no1 (by simpa using c))
  rw [Bool.not_eq_true', Bool.not_eq_false] at c
  refine ite2 (fun d => ?_) (fun d => ?_)
  · exact q.2 (Tx.num_no2 c (by simpa using d))
  rw [Bool.not_eq_true', Bool.not_eq_false] at d
  refine ⟨hz0, ite2 (fun k => ?_) (fun k => ?_)⟩
  · exact q.2 (Tx.num_no3 (by omega))
  have hne : z ≠ [] := by
    rw [Tx.isdig z c, Bool.and_eq_true, decide_eq_true_eq] at d
    exact d.1
  obtain ⟨c0, r, rfl⟩ : ∃ c0 r, z = c0 :: r := by
    cases z with
    | nil => exact absurd rfl hne
    | cons c0 r => exact ⟨c0, r, rfl⟩
  refine ⟨c0, by decide, by decide, by rw [List.length_cons]; omega, rfl, ?_⟩
  have fin : ((c0 :: r).head? = some 48 → c0 :: r = [48]) → ∃ n, intText? (S (c0 :: r)) = some n ∧ (c0 :: r).length ≤ 640 ∧ Q (V.int n) H := fun h4 => by
    have e := Tx.num_yes c d (by omega) h4
    exact ⟨_, (Tx.num_int e).1, by omega, q.1 _ e⟩
  refine ite2 (fun e => ?_) (fun e => ?_)
  · rw [Tx.one0] at e
    subst e
    refine ite2 (fun f => ?_) (fun f => ?_)
    · refine q.2 (Tx.num_no4 rfl fun z => ?_)
      rw [z, Tx.str0] at f
      simp at f
    · refine fin fun _ => ?_
      rw [Tx.str0] at f
      simpa [Tx.eqS] using f
  · rw [Tx.one0] at e
    exact fin fun h => absurd (Option.some.inj h) e
abbrev s_read_mark : Stmt := top 14
abbrev n_read_mark : List Str := ["text", "parts", "number"]
theorem sc_read_mark : FnScope n_read_mark ["text"] (defScope s_read_mark) := ⟨rfl, rfl, rfl, by decide +kernel, rfl, by decide +kernel, by decide +kernel⟩
theorem ok_read_mark {f : Addr} {fd : FuncData} (F : Fun K "_read_mark" "_read_mark" s_read_mark f fd) (B : Bt mg) (T : Tt K w mg d_MARKED C_BellError C_BadCount C_NoHand C_NoLetter C_NoMail C_Twice C_NotOpen C_BadMark C_NoNote) (c_read_number : Cal P w K mg base (L2N.CX P w) 1 "_read_number" ["figures"] (spNumber C_NoNote)) : FnOk P w K mg base (L2N.CX P w) 2 f fd ["text"] (spRMark K C_NoNote) := by
  refine okN F sc_read_mark (fun vs H Q E h => by obtain ⟨_, rfl, _⟩ := h; rfl) (fun cdv A outer s H vs Q E hr h => ?_)
  obtain ⟨z, rfl, hz, q⟩ := h
  refine ⟨_, (pss_cons (ps_set (i := 1) sc_read_mark.nd rfl (Or.inl rfl) (pe_m1 PySem.F.slot_str_split PySem.F.type_str_split mt_splitY (pv 0) pe_str))
  (pss_cons (ps_if (PW.pt (pw_or (pt_cmpR op_ne (pe_callB (r := rLenQ K) call_lenQ (by rfl) B.len (by decide +kernel) (pa_cons (pv 1) pa_nil)) pe_int (nomark _)) (pw_or1 (pt_cmpR op_ne (pe_ix (r := rIxL K) ix_list (pv 1) pe_int (fun _ _ => rfl)) pe_str (nomark _)))))
  (pss_one (ps_err T.e_NoNote rfl (L2N.takes_of rfl rfl rfl rfl)))
  pss_nil)
  (pss_cons (ps_set (i := 2) sc_read_mark.nd rfl (Or.inl rfl) (pe_callN c_read_number (hr.mono (by decide)) passN (pa_cons (pe_ix (r := rIxL K) ix_list (pv 1) pe_int (fun _ _ => rfl)) pa_nil)))
  (pss_cons (ps_if (pt_cmpR op_eq (pv 2) pe_int (nomark _))
  (pss_one (ps_err T.e_NoNote rfl (L2N.takes_of rfl rfl rfl rfl)))
  pss_nil)
  (pss_one (ps_ret (pe_tup (pa_cons (pv 2) (pa_cons (pe_callN c_read_number (hr.mono (by decide)) passN (pa_cons (pe_ix (r := rIxL K) ix_list (pv 1) pe_int (fun _ _ => rfl)) pa_nil)) pa_nil))))))))), ?_⟩
  simp only [L2.start, n_read_mark, List.map_cons, List.map_nil, List.length_cons, List.length_nil, List.replicate_succ, List.replicate_zero, Nat.reduceAdd, Nat.reduceSub, Nat.sub_self, List.cons_append, List.nil_append]
  walk_at "wp"
  have hl : (S z).length = z.length := SX.S_len z
  refine ⟨by decide, Nat.le_trans (show (S z).length + 2 ≤ 100002 by omega) (by decide), new_o fun l H1 hl1 s1 h1 => ?_⟩
  rw [Tx.split_b, List.map_map] at h1
  have h1 : H1 l = some (.lst ((sp z).map (V.str ∘ S))) := h1
  walk_at "wp"
  refine ⟨_, .inl (sqL h1), ?_⟩
  rw [List.length_map]
  by_cases hw : (sp z).length = 3
  · obtain ⟨n, o, h, e⟩ := Tx.three_of hw
    have hp := fun p hp => Nat.le_trans (Tx.sp_len z p hp) hz
    rw [e] at h1 q hp
    have h1 : H1 l = some (.lst [.str (S n), .str (S o), .str (S h)]) := h1
    rw [e]
    refine ite2 (fun c => by simp at c) (fun _ => ?_)
    refine ⟨_, _, sqL h1, b_at1, ?_⟩
    walk_at "wp"
    refine ite2 (fun c => ?_) (fun c => ?_)
    · refine q.2 ?_ _ s1
      rw [Bool.not_eq_true', decide_eq_false_iff_not] at c
      unfold Tx.markOf
      exact if_neg c
    rw [Bool.not_eq_true', Bool.not_eq_false, decide_eq_true_eq] at c
    refine ⟨_, _, sqL h1, b_at0, n, rfl, hp _ (by simp), fun i hi => ?_, fun hi => ?_⟩
    · walk_at "wp"
      refine ite2 (fun d => ?_) (fun d => ?_)
      · refine q.2 ?_ _ s1
        show (if S o = Str.ofString "of" then _ else _) = _
        rw [if_pos c, hi]
        exact if_pos d
      refine ⟨_, _, sqL h1, b_at2, h, rfl, hp _ (by simp), fun j hj => ?_, fun hj => ?_⟩
      · walk_at "wp"
        refine ⟨by decide, new_o fun t H2 ht s2 h2 => ?_⟩
        refine q.1 (i, j) ?_ _ _ (s1.trans s2) (dv_pair (sqT h2) (dv_int _) (dv_int _))
        show (if S o = Str.ofString "of" then _ else _) = _
        rw [if_pos c, hi]
        show (if i = 0 then none else _) = _
        rw [if_neg d, hj]
        rfl
      · refine q.2 ?_ _ s1
        show (if S o = Str.ofString "of" then _ else _) = _
        rw [if_pos c, hi]
        show (if i = 0 then none else _) = _
        rw [if_neg d, hj]
        rfl
    · refine q.2 ?_ _ s1
      show (if S o = Str.ofString "of" then _ else _) = _
      rw [if_pos c, hi]
  · refine ite2 (fun _ => q.2 (Tx.markOf_len hw) _ s1) (fun c => absurd (by simp only [Bool.not_eq_true', Bool.not_eq_false, decide_eq_true_eq] at c; omega) hw)
abbrev s_read : Stmt := top 13
abbrev n_read : List Str := ["text", "head", "colon", "tail", "parts", "word", "mark"]
theorem sc_read : FnScope n_read ["text"] (defScope s_read) := ⟨rfl, rfl, rfl, by decide +kernel, rfl, by decide +kernel, by decide +kernel⟩
theorem ok_read {f : Addr} {fd : FuncData} (F : Fun K "read" "read" s_read f fd) (B : Bt mg) (T : Tt K w mg d_MARKED C_BellError C_BadCount C_NoHand C_NoLetter C_NoMail C_Twice C_NotOpen C_BadMark C_NoNote) (c_read_mark : Cal P w K mg base (L2N.CX P w) 2 "_read_mark" ["text"] (spRMark K C_NoNote)) (c_read_number : Cal P w K mg base (L2N.CX P w) 1 "_read_number" ["figures"] (spNumber C_NoNote)) : FnOk P w K mg base (L2N.CX P w) 3 f fd ["text"] (spRead K C_NoNote) := by
  refine okN F sc_read (fun vs H Q E h => by obtain ⟨_, rfl, _⟩ := h; rfl) (fun cdv A outer s H vs Q E hr h => ?_)
  obtain ⟨x, rfl, hz, q⟩ := h
  refine ⟨_, (pss_cons (ps_asg (pe_m1 PySem.F.slot_str_partition PySem.F.type_str_partition mt_partY (pv 0) pe_str) (pg_tup rfl (pgs_cons (pg_name (i := 1) sc_read.nd rfl (Or.inl rfl)) (pgs_cons (pg_name (i := 2) sc_read.nd rfl (Or.inl rfl)) (pgs_cons (pg_name (i := 3) sc_read.nd rfl (Or.inl rfl)) pgs_nil)))))
  (pss_cons (ps_set (i := 4) sc_read.nd rfl (Or.inl rfl) (pe_m1 PySem.F.slot_str_split PySem.F.type_str_split mt_splitY (pv 1) pe_str))
  (pss_cons (ps_if (PW.pt (pw_or (pt_cmpR op_ne (pe_callB (r := rLenQ K) call_lenQ (by rfl) B.len (by decide +kernel) (pa_cons (pv 4) pa_nil)) pe_int (nomark _)) (pw_or (pt_cmpR op_ne (pe_ix (r := rIxL K) ix_list (pv 4) pe_int (fun _ _ => rfl)) pe_str (nomark _)) (pw_or1 (pt_cmpR op_ne (pe_ix (r := rIxL K) ix_list (pv 4) pe_int (fun _ _ => rfl)) pe_str (nomark _))))))
  (pss_one (ps_err T.e_NoNote rfl (L2N.takes_of rfl rfl rfl rfl)))
  pss_nil)
  (pss_cons (ps_set (i := 5) sc_read.nd rfl (Or.inl rfl) (pe_ix (r := rIxL K) ix_list (pv 4) pe_int (fun _ _ => rfl)))
  (pss_cons (ps_if (pt_cmpR (r := rNotInKD d_MARKED kv_MARKED) (op_notInKD T.k_MARKED) (pv 5) (pe_gl T.m_MARKED) (by rfl))
  (pss_one (ps_err T.e_NoNote rfl (L2N.takes_of rfl rfl rfl rfl)))
  pss_nil)
  (pss_cons (ps_if (pt_cmpR op_ne (pe_ix (ix_KD T.k_MARKED) (pe_gl T.m_MARKED) (pv 5) (fun _ _ => rfl)) (pe_cmpR op_ne (pv 2) pe_str (nomark _)) (nomark _))
  (pss_one (ps_err T.e_NoNote rfl (L2N.takes_of rfl rfl rfl rfl)))
  pss_nil)
  (pss_cons (ps_set (i := 6) sc_read.nd rfl (Or.inl rfl) (pe_ifExp (pt_val (pe_ix (ix_KD T.k_MARKED) (pe_gl T.m_MARKED) (pv 5) (fun _ _ => rfl))) (pe_callN c_read_mark (hr.mono (by decide)) passN (pa_cons (pv 3) pa_nil)) pe_non))
  (pss_one (ps_ret (pe_tup (pa_cons (pv 5) (pa_cons (pe_callN c_read_number (hr.mono (by decide)) passN (pa_cons (pe_ix (r := rIxL K) ix_list (pv 4) pe_int (fun _ _ => rfl)) pa_nil)) (pa_cons (pe_callN c_read_number (hr.mono (by decide)) passN (pa_cons (pe_ix (r := rIxL K) ix_list (pv 4) pe_int (fun _ _ => rfl)) pa_nil)) (pa_cons (pe_callN c_read_number (hr.mono (by decide)) passN (pa_cons (pe_ix (r := rIxL K) ix_list (pv 4) pe_int (fun _ _ => rfl)) pa_nil)) (pa_cons (pv 6) pa_nil))))))))))))))), ?_⟩
  simp only [L2.start, n_read, List.map_cons, List.map_nil, List.length_cons, List.length_nil, List.replicate_succ, List.replicate_zero, Nat.reduceAdd, Nat.reduceSub, Nat.sub_self, List.cons_append, List.nil_append]
  walk_at "wp"
  refine ⟨by decide, sz_of hz, new_o fun t H0 ht s0 h0 => ?_⟩
  walk_at "wp"
  refine ⟨_, sqT h0, rfl, ?_⟩
  obtain ⟨h, tl, ep, em, hk1, hk2⟩ := Tx.part_by x
  rw [ep]
  rw [em] at q
  walk_at "wp"
  refine ⟨by decide, Nat.le_trans (show (S h).length + 2 ≤ 100002 by rw [SX.S_len]; omega) (by decide), new_o fun l H1 hl1 s1 h1 => ?_⟩
  rw [Tx.split_b, List.map_map] at h1
  have h1 : H1 l = some (.lst ((sp h).map (V.str ∘ S))) := h1
  walk_at "wp"
  refine ⟨_, .inl (sqL h1), ?_⟩
  rw [List.length_map]
  have s01 := s0.trans s1
  by_cases hw : (sp h).length = 6
  · obtain ⟨w, n1, fr, n2, to_, n3, e⟩ := Tx.six_of hw
    have hp := fun p hp => Nat.le_trans (Tx.sp_len h p hp) (Nat.le_trans hk1 hz)
    rw [Tx.mailBy_six e] at q
    rw [e] at h1 hp
    have h1 : H1 l = some (.lst [.str (S w), .str (S n1), .str (S fr), .str (S n2), .str (S to_), .str (S n3)]) := h1
    rw [e]
    refine ite2 (fun c => by simp at c) (fun _ => ?_)
    refine ⟨_, _, sqL h1, b_at2, ?_⟩
    walk_at "wp"
    refine ite2 (fun c => ?_) (fun c => ?_)
    · refine q.2 (if_neg fun z => ?_) _ s01
      rw [Bool.not_eq_true', decide_eq_false_iff_not] at c
      exact c z.1
    rw [Bool.not_eq_true', Bool.not_eq_false, decide_eq_true_eq] at c
    refine ⟨_, _, sqL h1, b_at4, ?_⟩
    walk_at "wp"
    refine ite2 (fun d => ?_) (fun d => ?_)
    · refine q.2 (if_neg fun z => ?_) _ s01
      rw [Bool.not_eq_true', decide_eq_false_iff_not] at d
      exact d z.2.1
    rw [Bool.not_eq_true', Bool.not_eq_false, decide_eq_true_eq] at d
    refine ⟨_, _, sqL h1, b_at0, ?_⟩
    walk_at "wp"
    rcases kvM (S w) with ⟨ek, g1, g2, g3⟩ | ⟨mk, ek, hm⟩
    · rw [ek]
      refine ite2 (fun _ => ?_) (fun z => by simp at z)
      refine q.2 (if_neg fun z => ?_) _ s01
      rcases z.2.2 with z | z
      · exact g1 z.1
      · exact z.1.elim g2 g3
    rw [ek]
    refine ite2 (fun z => by simp at z) (fun _ => ?_)
    refine ⟨_, .bl mk, rfl, rfl, ?_⟩
    walk_at "wp"
    rw [Tx.coOf_ne]
    refine ite2 (fun g => ?_) (fun g => ?_)
    · refine q.2 (if_neg fun z => ?_) _ s01
      rw [Bool.not_eq_true', decide_eq_false_iff_not] at g
      rcases z.2.2 with ⟨z1, z2⟩ | ⟨z1, z2⟩ <;> rcases hm with ⟨m1, m2⟩ | ⟨m1, m2⟩
      · exact g (m1.trans z2.symm)
      · rcases m2 with m2 | m2 <;> exact absurd (z1.symm.trans m2) (by decide +kernel)
      · rcases z1 with z1 | z1 <;> exact absurd (m2.symm.trans z1) (by decide +kernel)
      · exact g (m1.trans z2.symm)
    rw [Bool.not_eq_true', Bool.not_eq_false, decide_eq_true_eq] at g
    have cond : S fr = Str.ofString "from" ∧ S to_ = Str.ofString "to" ∧ ((S w = Tx.wL ∧ tl.isSome = false) ∨ ((S w = Tx.wN ∨ S w = Tx.wM) ∧ tl.isSome = true)) := ⟨c, d, hm.elim (fun z => .inl ⟨z.2, g.symm.trans z.1⟩) (fun z => .inr ⟨z.2, g.symm.trans z.1⟩)⟩
    rw [if_pos cond] at q
    refine ⟨_, .bl mk, rfl, rfl, ?_⟩
    walk_at "wp"
    cases tl with
    | none =>
      have g : mk = false := g
      subst g
      have e0 : Tx.markBy none = some none := rfl
      rw [e0] at q
      refine iteF ?_
      refine ⟨_, _, sqL h1, b_at1, n1, rfl, hp _ (by simp), fun i1 e1 => ?_, fun e1 => ?_⟩
      · walk_at "wp"
        refine ⟨_, _, sqL h1, b_at3, n2, rfl, hp _ (by simp), fun i2 e2 => ?_, fun e2 => ?_⟩
        · walk_at "wp"
          refine ⟨_, _, sqL h1, b_at5, n3, rfl, hp _ (by simp), fun i3 e3 => ?_, fun e3 => ?_⟩
          · walk_at "wp"
            refine ⟨by decide, new_o fun o H3 ho s3 h3 => ?_⟩
            refine q.1 ⟨S w, i1, i2, i3, none⟩ ?_ _ _ (s01.trans s3) (dv_mail (sqT h3) (dv_none))
            rw [e1, e2, e3]
          · refine q.2 ?_ _ s01
            rw [e1, e2, e3]
        · refine q.2 ?_ _ s01
          rw [e1, e2]
      · refine q.2 ?_ _ s01
        rw [e1]
    | some tl =>
      have g : mk = true := g
      subst g
      refine iteT ⟨tl, rfl, Nat.le_trans hk2 hz, fun m hm v H2 s2 dm => ?_, fun hm H2 s2 => ?_⟩
      · walk_at "wp"
        have e0 : Tx.markBy (some tl) = some (some m) := by show (markOf (sp tl)).map some = _; rw [hm]; rfl
        rw [e0] at q
        have h2 := s2 _ _ h1
        have s02 := s01.trans s2
        refine ⟨_, _, sqL h2, b_at1, n1, rfl, hp _ (by simp), fun i1 e1 => ?_, fun e1 => ?_⟩
        · walk_at "wp"
          refine ⟨_, _, sqL h2, b_at3, n2, rfl, hp _ (by simp), fun i2 e2 => ?_, fun e2 => ?_⟩
          · walk_at "wp"
            refine ⟨_, _, sqL h2, b_at5, n3, rfl, hp _ (by simp), fun i3 e3 => ?_, fun e3 => ?_⟩
            · walk_at "wp"
              refine ⟨by decide, new_o fun o H3 ho s3 h3 => ?_⟩
              refine q.1 ⟨S w, i1, i2, i3, some m⟩ ?_ _ _ (s02.trans s3) (dv_mail (sqT h3) (dv_some (dm.same s3)))
              rw [e1, e2, e3]
            · refine q.2 ?_ _ s02
              rw [e1, e2, e3]
          · refine q.2 ?_ _ s02
            rw [e1, e2]
        · refine q.2 ?_ _ s02
          rw [e1]
      · refine q.2 ?_ _ (s01.trans s2)
        have e : Tx.markBy (some tl) = none := by show (markOf (sp tl)).map some = _; rw [hm]; rfl
        rw [e]
  · refine ite2 (fun _ => q.2 (Tx.mailBy_len hw) _ s01) (fun c => absurd (by simp only [Bool.not_eq_true', Bool.not_eq_false, decide_eq_true_eq] at c; omega) hw)

end
theorem all_mk {l : PySem.W.OpenLaw} {w : World} {K : PySem.W.Frag} {h : Heap} {mg : Str → Option Value} {fa f1 f2 f3 f4 f5 f6 f7 f8 f9 f10 f11 f12 f13 f14 f15 : Addr} (X : K.In h) (G : h.Ns mainGlobals mg) (hfa : mg "law" = some (.ref fa))
    {t_MOST_FIGURES : Tok}
    {d_MARKED : Addr} {es_MARKED : Array DictEntry} {nn_MARKED : Nat}
    {C_BellError : Addr}
    {C_BadCount : Addr}
    {C_NoHand : Addr}
    {C_NoLetter : Addr}
    {C_NoMail : Addr}
    {C_Twice : Addr}
    {C_NotOpen : Addr}
    {C_BadMark : Addr}
    {C_NoNote : Addr}
    {od1 an1 : Option Addr} {sl1 : Array (Option Value)} {oc1 kV1 dc1 pm1 cd1 ct1 : Value}
    {od2 an2 : Option Addr} {sl2 : Array (Option Value)} {oc2 kV2 dc2 pm2 cd2 ct2 : Value}
    {od3 an3 : Option Addr} {sl3 : Array (Option Value)} {oc3 kV3 dc3 pm3 cd3 ct3 : Value}
    {od4 an4 : Option Addr} {sl4 : Array (Option Value)} {oc4 kV4 dc4 pm4 cd4 ct4 : Value}
    {od5 an5 : Option Addr} {sl5 : Array (Option Value)} {oc5 kV5 dc5 pm5 cd5 ct5 : Value}
    {od6 an6 : Option Addr} {sl6 : Array (Option Value)} {oc6 kV6 dc6 pm6 cd6 ct6 : Value}
    {od7 an7 : Option Addr} {sl7 : Array (Option Value)} {oc7 kV7 dc7 pm7 cd7 ct7 : Value}
    {od8 an8 : Option Addr} {sl8 : Array (Option Value)} {oc8 kV8 dc8 pm8 cd8 ct8 : Value}
    {od9 an9 : Option Addr} {sl9 : Array (Option Value)} {oc9 kV9 dc9 pm9 cd9 ct9 : Value}
    {od10 an10 : Option Addr} {sl10 : Array (Option Value)} {oc10 kV10 dc10 pm10 cd10 ct10 : Value}
    {od11 an11 : Option Addr} {sl11 : Array (Option Value)} {oc11 kV11 dc11 pm11 cd11 ct11 : Value}
    {od12 an12 : Option Addr} {sl12 : Array (Option Value)} {oc12 kV12 dc12 pm12 cd12 ct12 : Value}
    {od13 an13 : Option Addr} {sl13 : Array (Option Value)} {oc13 kV13 dc13 pm13 cd13 ct13 : Value}
    {od14 an14 : Option Addr} {sl14 : Array (Option Value)} {oc14 kV14 dc14 pm14 cd14 ct14 : Value}
    {od15 an15 : Option Addr} {sl15 : Array (Option Value)} {oc15 kV15 dc15 pm15 cd15 ct15 : Value}
    (g_MOST_FIGURES : PySem.W.nsIn K mainGlobals "MOST_FIGURES" = some (some (.int 30 t_MOST_FIGURES)))
    (g_MARKED : PySem.W.nsIn K mainGlobals "MARKED" = some (some (.ref d_MARKED))) (l_MARKED : K.lookup d_MARKED = some ⟨.type "dict", none, .dict es_MARKED nn_MARKED, #[]⟩) (h_MARKED : PySem.W.KeysLit w.params es_MARKED.toList) (s_MARKED : (d_MARKED == sysModules) = false) (v_MARKED : es_MARKED.toList.map (fun e => (keyT e, e.val)) = kv_MARKED.map fun p => (some p.1, p.2))
    (ge_BellError : PySem.W.nsIn K mainGlobals "BellError" = some (some (.ref C_BellError))) (ex_BellError : PySem.W.excIn K C_BellError [.type "ValueError", .type "Exception", .type "BaseException", .type "object"] "ValueError.__new__" = true) (ek_BellError : PySem.W.keepIn K (.ref C_BellError) = true) (eb_BellError : PySem.W.subIn K (.ref C_BellError) (.type "BaseException") = some true) (et_BellError : PySem.W.typeIn K (.ref C_BellError) = some (.type "type"))
    (ge_BadCount : PySem.W.nsIn K mainGlobals "BadCount" = some (some (.ref C_BadCount))) (ex_BadCount : PySem.W.excIn K C_BadCount [.type "ValueError", .type "Exception", .type "BaseException", .type "object"] "ValueError.__new__" = true) (ek_BadCount : PySem.W.keepIn K (.ref C_BadCount) = true) (eb_BadCount : PySem.W.subIn K (.ref C_BadCount) (.type "BaseException") = some true) (et_BadCount : PySem.W.typeIn K (.ref C_BadCount) = some (.type "type"))
    (ge_NoHand : PySem.W.nsIn K mainGlobals "NoHand" = some (some (.ref C_NoHand))) (ex_NoHand : PySem.W.excIn K C_NoHand [.type "ValueError", .type "Exception", .type "BaseException", .type "object"] "ValueError.__new__" = true) (ek_NoHand : PySem.W.keepIn K (.ref C_NoHand) = true) (eb_NoHand : PySem.W.subIn K (.ref C_NoHand) (.type "BaseException") = some true) (et_NoHand : PySem.W.typeIn K (.ref C_NoHand) = some (.type "type"))
    (ge_NoLetter : PySem.W.nsIn K mainGlobals "NoLetter" = some (some (.ref C_NoLetter))) (ex_NoLetter : PySem.W.excIn K C_NoLetter [.type "ValueError", .type "Exception", .type "BaseException", .type "object"] "ValueError.__new__" = true) (ek_NoLetter : PySem.W.keepIn K (.ref C_NoLetter) = true) (eb_NoLetter : PySem.W.subIn K (.ref C_NoLetter) (.type "BaseException") = some true) (et_NoLetter : PySem.W.typeIn K (.ref C_NoLetter) = some (.type "type"))
    (ge_NoMail : PySem.W.nsIn K mainGlobals "NoMail" = some (some (.ref C_NoMail))) (ex_NoMail : PySem.W.excIn K C_NoMail [.type "ValueError", .type "Exception", .type "BaseException", .type "object"] "ValueError.__new__" = true) (ek_NoMail : PySem.W.keepIn K (.ref C_NoMail) = true) (eb_NoMail : PySem.W.subIn K (.ref C_NoMail) (.type "BaseException") = some true) (et_NoMail : PySem.W.typeIn K (.ref C_NoMail) = some (.type "type"))
    (ge_Twice : PySem.W.nsIn K mainGlobals "Twice" = some (some (.ref C_Twice))) (ex_Twice : PySem.W.excIn K C_Twice [.type "ValueError", .type "Exception", .type "BaseException", .type "object"] "ValueError.__new__" = true) (ek_Twice : PySem.W.keepIn K (.ref C_Twice) = true) (eb_Twice : PySem.W.subIn K (.ref C_Twice) (.type "BaseException") = some true) (et_Twice : PySem.W.typeIn K (.ref C_Twice) = some (.type "type"))
    (ge_NotOpen : PySem.W.nsIn K mainGlobals "NotOpen" = some (some (.ref C_NotOpen))) (ex_NotOpen : PySem.W.excIn K C_NotOpen [.type "ValueError", .type "Exception", .type "BaseException", .type "object"] "ValueError.__new__" = true) (ek_NotOpen : PySem.W.keepIn K (.ref C_NotOpen) = true) (eb_NotOpen : PySem.W.subIn K (.ref C_NotOpen) (.type "BaseException") = some true) (et_NotOpen : PySem.W.typeIn K (.ref C_NotOpen) = some (.type "type"))
    (ge_BadMark : PySem.W.nsIn K mainGlobals "BadMark" = some (some (.ref C_BadMark))) (ex_BadMark : PySem.W.excIn K C_BadMark [.type "ValueError", .type "Exception", .type "BaseException", .type "object"] "ValueError.__new__" = true) (ek_BadMark : PySem.W.keepIn K (.ref C_BadMark) = true) (eb_BadMark : PySem.W.subIn K (.ref C_BadMark) (.type "BaseException") = some true) (et_BadMark : PySem.W.typeIn K (.ref C_BadMark) = some (.type "type"))
    (ge_NoNote : PySem.W.nsIn K mainGlobals "NoNote" = some (some (.ref C_NoNote))) (ex_NoNote : PySem.W.excIn K C_NoNote [.type "ValueError", .type "Exception", .type "BaseException", .type "object"] "ValueError.__new__" = true) (ek_NoNote : PySem.W.keepIn K (.ref C_NoNote) = true) (eb_NoNote : PySem.W.subIn K (.ref C_NoNote) (.type "BaseException") = some true) (et_NoNote : PySem.W.typeIn K (.ref C_NoNote) = some (.type "type"))
    (lhg_NoNote : PySem.W.findIn K (.ref C_NoNote) "__getattribute__" = some (some (.builtin "BaseException.__getattribute__")))
    (lhk_NoNote : PySem.W.findIn K (.ref C_NoNote) "__getattr__" = some none)
    (lhd_NoNote : PySem.W.hasDictIn K C_NoNote = true)
    (lha_NoNote : PySem.W.findIn K (.ref C_NoNote) "__class__" = some (some (.builtin "object.__class__")))
    (lhn_NoNote : PySem.W.specialIn K (.builtin "object.__class__") "__get__" = some (some (.builtin "getset_descriptor.__get__")))
    (lht_NoNote : PySem.W.takesIn K (.builtin "object.__class__") = some true)
    (lhm_NoNote : PySem.W.mroIn K C_NoNote (.type "object") = some true)
    (lv_NoNote : PySem.W.subIn K (.ref C_NoNote) (.type "ValueError") = some true)
    (lc_BadCount : PySem.W.isClsIn K C_BadCount = true)
    (lc_NoHand : PySem.W.isClsIn K C_NoHand = true)
    (lc_NoLetter : PySem.W.isClsIn K C_NoLetter = true)
    (lc_NoMail : PySem.W.isClsIn K C_NoMail = true)
    (lc_Twice : PySem.W.isClsIn K C_Twice = true)
    (lc_NotOpen : PySem.W.isClsIn K C_NotOpen = true)
    (lc_BadMark : PySem.W.isClsIn K C_BadMark = true)
    (lc_NoNote : PySem.W.isClsIn K C_NoNote = true)
    (lb_NoNote_BadCount : PySem.W.subIn K (.ref C_NoNote) (.ref C_BadCount) = some false)
    (ln_NoNote_BadCount : C_NoNote ≠ C_BadCount)
    (lb_NoNote_NoHand : PySem.W.subIn K (.ref C_NoNote) (.ref C_NoHand) = some false)
    (ln_NoNote_NoHand : C_NoNote ≠ C_NoHand)
    (lb_NoNote_NoLetter : PySem.W.subIn K (.ref C_NoNote) (.ref C_NoLetter) = some false)
    (ln_NoNote_NoLetter : C_NoNote ≠ C_NoLetter)
    (lb_NoNote_NoMail : PySem.W.subIn K (.ref C_NoNote) (.ref C_NoMail) = some false)
    (ln_NoNote_NoMail : C_NoNote ≠ C_NoMail)
    (lb_NoNote_Twice : PySem.W.subIn K (.ref C_NoNote) (.ref C_Twice) = some false)
    (ln_NoNote_Twice : C_NoNote ≠ C_Twice)
    (lb_NoNote_NotOpen : PySem.W.subIn K (.ref C_NoNote) (.ref C_NotOpen) = some false)
    (ln_NoNote_NotOpen : C_NoNote ≠ C_NotOpen)
    (lb_NoNote_BadMark : PySem.W.subIn K (.ref C_NoNote) (.ref C_BadMark) = some false)
    (ln_NoNote_BadMark : C_NoNote ≠ C_BadMark)
    (lb_NoNote_NoNote : PySem.W.subIn K (.ref C_NoNote) (.ref C_NoNote) = some true)
    (xs_NoNote_BellError : PySem.W.subIn K (.ref C_NoNote) (.ref C_BellError) = some true) (xd_NoNote_BellError : PySem.W.hasDictIn K C_BellError = true)
    (a1 : PySem.W.nsIn K mainGlobals "_read_number" = some (some (.ref f1)))
    (l1 : K.lookup f1 = some ⟨oc1, od1, .func (PySem.W.fnOf "_read_number" "_read_number" (defArgs s_read_number) (defBody s_read_number) (defScope s_read_number) .none kV1 dc1 pm1 an1 cd1 ct1), sl1⟩)
    (c1 : PySem.W.codeIn K cd1 "_read_number" = true) (k1 : PySem.W.keepIn K (.ref f1) = true)
    (a2 : PySem.W.nsIn K mainGlobals "_read_mark" = some (some (.ref f2)))
    (l2 : K.lookup f2 = some ⟨oc2, od2, .func (PySem.W.fnOf "_read_mark" "_read_mark" (defArgs s_read_mark) (defBody s_read_mark) (defScope s_read_mark) .none kV2 dc2 pm2 an2 cd2 ct2), sl2⟩)
    (c2 : PySem.W.codeIn K cd2 "_read_mark" = true) (k2 : PySem.W.keepIn K (.ref f2) = true)
    (a3 : PySem.W.nsIn K mainGlobals "read" = some (some (.ref f3)))
    (l3 : K.lookup f3 = some ⟨oc3, od3, .func (PySem.W.fnOf "read" "read" (defArgs s_read) (defBody s_read) (defScope s_read) .none kV3 dc3 pm3 an3 cd3 ct3), sl3⟩)
    (c3 : PySem.W.codeIn K cd3 "read" = true) (k3 : PySem.W.keepIn K (.ref f3) = true)
    (a4 : PySem.W.nsIn K mainGlobals "_law_whole" = some (some (.ref f4)))
    (l4 : K.lookup f4 = some ⟨oc4, od4, .func (PySem.W.fnOf "_law_whole" "_law_whole" (defArgs s_law_whole) (defBody s_law_whole) (defScope s_law_whole) .none kV4 dc4 pm4 an4 cd4 ct4), sl4⟩)
    (c4 : PySem.W.codeIn K cd4 "_law_whole" = true) (k4 : PySem.W.keepIn K (.ref f4) = true)
    (a5 : PySem.W.nsIn K mainGlobals "_law_mark" = some (some (.ref f5)))
    (l5 : K.lookup f5 = some ⟨oc5, od5, .func (PySem.W.fnOf "_law_mark" "_law_mark" (defArgs s_law_mark) (defBody s_law_mark) (defScope s_law_mark) .none kV5 dc5 pm5 an5 cd5 ct5), sl5⟩)
    (c5 : PySem.W.codeIn K cd5 "_law_mark" = true) (k5 : PySem.W.keepIn K (.ref f5) = true)
    (a6 : PySem.W.nsIn K mainGlobals "_law_mail" = some (some (.ref f6)))
    (l6 : K.lookup f6 = some ⟨oc6, od6, .func (PySem.W.fnOf "_law_mail" "_law_mail" (defArgs s_law_mail) (defBody s_law_mail) (defScope s_law_mail) .none kV6 dc6 pm6 an6 cd6 ct6), sl6⟩)
    (c6 : PySem.W.codeIn K cd6 "_law_mail" = true) (k6 : PySem.W.keepIn K (.ref f6) = true)
    (a7 : PySem.W.nsIn K mainGlobals "_law_sign" = some (some (.ref f7)))
    (l7 : K.lookup f7 = some ⟨oc7, od7, .func (PySem.W.fnOf "_law_sign" "_law_sign" (defArgs s_law_sign) (defBody s_law_sign) (defScope s_law_sign) .none kV7 dc7 pm7 an7 cd7 ct7), sl7⟩)
    (c7 : PySem.W.codeIn K cd7 "_law_sign" = true) (k7 : PySem.W.keepIn K (.ref f7) = true)
    (a8 : PySem.W.nsIn K mainGlobals "_law_number" = some (some (.ref f8)))
    (l8 : K.lookup f8 = some ⟨oc8, od8, .func (PySem.W.fnOf "_law_number" "_law_number" (defArgs s_law_number) (defBody s_law_number) (defScope s_law_number) .none kV8 dc8 pm8 an8 cd8 ct8), sl8⟩)
    (c8 : PySem.W.codeIn K cd8 "_law_number" = true) (k8 : PySem.W.keepIn K (.ref f8) = true)
    (a9 : PySem.W.nsIn K mainGlobals "_law_text" = some (some (.ref f9)))
    (l9 : K.lookup f9 = some ⟨oc9, od9, .func (PySem.W.fnOf "_law_text" "_law_text" (defArgs s_law_text) (defBody s_law_text) (defScope s_law_text) .none kV9 dc9 pm9 an9 cd9 ct9), sl9⟩)
    (c9 : PySem.W.codeIn K cd9 "_law_text" = true) (k9 : PySem.W.keepIn K (.ref f9) = true)
    (a10 : PySem.W.nsIn K mainGlobals "_law_bent" = some (some (.ref f10)))
    (l10 : K.lookup f10 = some ⟨oc10, od10, .func (PySem.W.fnOf "_law_bent" "_law_bent" (defArgs s_law_bent) (defBody s_law_bent) (defScope s_law_bent) .none kV10 dc10 pm10 an10 cd10 ct10), sl10⟩)
    (c10 : PySem.W.codeIn K cd10 "_law_bent" = true) (k10 : PySem.W.keepIn K (.ref f10) = true)
    (a11 : PySem.W.nsIn K mainGlobals "_law_good" = some (some (.ref f11)))
    (l11 : K.lookup f11 = some ⟨oc11, od11, .func (PySem.W.fnOf "_law_good" "_law_good" (defArgs s_law_good) (defBody s_law_good) (defScope s_law_good) .none kV11 dc11 pm11 an11 cd11 ct11), sl11⟩)
    (c11 : PySem.W.codeIn K cd11 "_law_good" = true) (k11 : PySem.W.keepIn K (.ref f11) = true)
    (a12 : PySem.W.nsIn K mainGlobals "_law_due" = some (some (.ref f12)))
    (l12 : K.lookup f12 = some ⟨oc12, od12, .func (PySem.W.fnOf "_law_due" "_law_due" (defArgs s_law_due) (defBody s_law_due) (defScope s_law_due) .none kV12 dc12 pm12 an12 cd12 ct12), sl12⟩)
    (c12 : PySem.W.codeIn K cd12 "_law_due" = true) (k12 : PySem.W.keepIn K (.ref f12) = true)
    (a13 : PySem.W.nsIn K mainGlobals "_law_only" = some (some (.ref f13)))
    (l13 : K.lookup f13 = some ⟨oc13, od13, .func (PySem.W.fnOf "_law_only" "_law_only" (defArgs s_law_only) (defBody s_law_only) (defScope s_law_only) .none kV13 dc13 pm13 an13 cd13 ct13), sl13⟩)
    (c13 : PySem.W.codeIn K cd13 "_law_only" = true) (k13 : PySem.W.keepIn K (.ref f13) = true)
    (a14 : PySem.W.nsIn K mainGlobals "_law_told" = some (some (.ref f14)))
    (l14 : K.lookup f14 = some ⟨oc14, od14, .func (PySem.W.fnOf "_law_told" "_law_told" (defArgs s_law_told) (defBody s_law_told) (defScope s_law_told) .none kV14 dc14 pm14 an14 cd14 ct14), sl14⟩)
    (c14 : PySem.W.codeIn K cd14 "_law_told" = true) (k14 : PySem.W.keepIn K (.ref f14) = true)
    (a15 : PySem.W.nsIn K mainGlobals "law" = some (some (.ref f15)))
    (l15 : K.lookup f15 = some ⟨oc15, od15, .func (PySem.W.fnOf "law" "law" (defArgs s_law) (defBody s_law) (defScope s_law) .none kV15 dc15 pm15 an15 cd15 ct15), sl15⟩)
    (c15 : PySem.W.codeIn K cd15 "law" = true) (k15 : PySem.W.keepIn K (.ref f15) = true)
    (z_len : PySem.W.nsIn K mainGlobals "len" = some none) (z_isinstance : PySem.W.nsIn K mainGlobals "isinstance" = some none) (z_max : PySem.W.nsIn K mainGlobals "max" = some none) (z_min : PySem.W.nsIn K mainGlobals "min" = some none) (z_all : PySem.W.nsIn K mainGlobals "all" = some none) (z_any : PySem.W.nsIn K mainGlobals "any" = some none) (z_sorted : PySem.W.nsIn K mainGlobals "sorted" = some none) (z_int : PySem.W.nsIn K mainGlobals "int" = some none) (z_str : PySem.W.nsIn K mainGlobals "str" = some none) (z_bool : PySem.W.nsIn K mainGlobals "bool" = some none) (z_list : PySem.W.nsIn K mainGlobals "list" = some none) (z_tuple : PySem.W.nsIn K mainGlobals "tuple" = some none) (z_dict : PySem.W.nsIn K mainGlobals "dict" = some none) (z_set : PySem.W.nsIn K mainGlobals "set" = some none) (z_range : PySem.W.nsIn K mainGlobals "range" = some none) (z_zip : PySem.W.nsIn K mainGlobals "zip" = some none) (z_enumerate : PySem.W.nsIn K mainGlobals "enumerate" = some none) (z_ValueError : PySem.W.nsIn K mainGlobals "ValueError" = some none)
    : ∃ fd : FuncData, (∀ (s : Shared) (v : Value), BindsTo s fd ⟨[v], []⟩ [("_law_script", v)]) ∧ ∀ base : Heap, K.In base → base.Ns mainGlobals mg → FnOk l.prog w K mg base CX0 5 fa fd ["_law_script"] (spLaw K) := by
  have e := hfa.symm.trans (PySem.W.mg_of X G a15)
  cases e
  have B : Bt mg := ⟨PySem.W.mg_none_of X G z_len, PySem.W.mg_none_of X G z_isinstance, PySem.W.mg_none_of X G z_max, PySem.W.mg_none_of X G z_min, PySem.W.mg_none_of X G z_all, PySem.W.mg_none_of X G z_any, PySem.W.mg_none_of X G z_sorted, PySem.W.mg_none_of X G z_int, PySem.W.mg_none_of X G z_str, PySem.W.mg_none_of X G z_bool, PySem.W.mg_none_of X G z_list, PySem.W.mg_none_of X G z_tuple, PySem.W.mg_none_of X G z_dict, PySem.W.mg_none_of X G z_set, PySem.W.mg_none_of X G z_range, PySem.W.mg_none_of X G z_zip, PySem.W.mg_none_of X G z_enumerate, PySem.W.mg_none_of X G z_ValueError⟩
  have T : Tt K w mg d_MARKED C_BellError C_BadCount C_NoHand C_NoLetter C_NoMail C_Twice C_NotOpen C_BadMark C_NoNote := { m_MOST_FIGURES := ⟨_, PySem.W.mg_of X G g_MOST_FIGURES, _, rfl⟩, m_MARKED := ⟨_, PySem.W.mg_of X G g_MARKED, rfl⟩, k_MARKED := kd_mk l_MARKED h_MARKED s_MARKED v_MARKED, e_BellError := ⟨PySem.W.mg_of X G ge_BellError, ex_BellError, ek_BellError, eb_BellError, et_BellError⟩, e_BadCount := ⟨PySem.W.mg_of X G ge_BadCount, ex_BadCount, ek_BadCount, eb_BadCount, et_BadCount⟩, e_NoHand := ⟨PySem.W.mg_of X G ge_NoHand, ex_NoHand, ek_NoHand, eb_NoHand, et_NoHand⟩, e_NoLetter := ⟨PySem.W.mg_of X G ge_NoLetter, ex_NoLetter, ek_NoLetter, eb_NoLetter, et_NoLetter⟩, e_NoMail := ⟨PySem.W.mg_of X G ge_NoMail, ex_NoMail, ek_NoMail, eb_NoMail, et_NoMail⟩, e_Twice := ⟨PySem.W.mg_of X G ge_Twice, ex_Twice, ek_Twice, eb_Twice, et_Twice⟩, e_NotOpen := ⟨PySem.W.mg_of X G ge_NotOpen, ex_NotOpen, ek_NotOpen, eb_NotOpen, et_NotOpen⟩, e_BadMark := ⟨PySem.W.mg_of X G ge_BadMark, ex_BadMark, ek_BadMark, eb_BadMark, et_BadMark⟩, e_NoNote := ⟨PySem.W.mg_of X G ge_NoNote, ex_NoNote, ek_NoNote, eb_NoNote, et_NoNote⟩, o_NoNote := ⟨⟨lhg_NoNote, lhk_NoNote, eb_NoNote, lhd_NoNote, lha_NoNote, lhn_NoNote, lht_NoNote, lhm_NoNote⟩, kit_VE lv_NoNote, fun i c b h1 h2 => match i, c, b, h1, h2 with | 0, _, _, rfl, rfl => (kit_own lc_BadCount et_BadCount lb_NoNote_BadCount).trans (if_neg ln_NoNote_BadCount) | 1, _, _, rfl, rfl => (kit_own lc_NoHand et_NoHand lb_NoNote_NoHand).trans (if_neg ln_NoNote_NoHand) | 2, _, _, rfl, rfl => (kit_own lc_NoLetter et_NoLetter lb_NoNote_NoLetter).trans (if_neg ln_NoNote_NoLetter) | 3, _, _, rfl, rfl => (kit_own lc_NoMail et_NoMail lb_NoNote_NoMail).trans (if_neg ln_NoNote_NoMail) | 4, _, _, rfl, rfl => (kit_own lc_Twice et_Twice lb_NoNote_Twice).trans (if_neg ln_NoNote_Twice) | 5, _, _, rfl, rfl => (kit_own lc_NotOpen et_NotOpen lb_NoNote_NotOpen).trans (if_neg ln_NoNote_NotOpen) | 6, _, _, rfl, rfl => (kit_own lc_BadMark et_BadMark lb_NoNote_BadMark).trans (if_neg ln_NoNote_BadMark) | 7, _, _, rfl, rfl => (kit_own lc_NoNote et_NoNote lb_NoNote_NoNote).trans (if_pos rfl) | _ + 8, _, _, z, _ => nomatch z⟩, x_NoNote_BellError := PySem.W.exm_ref eb_BellError xd_NoNote_BellError et_BellError xs_NoNote_BellError }
  have F1 := fun_mk (st := s_read_number) l1 c1 k1
  have F2 := fun_mk (st := s_read_mark) l2 c2 k2
  have F3 := fun_mk (st := s_read) l3 c3 k3
  have F4 := fun_mk (st := s_law_whole) l4 c4 k4
  have F5 := fun_mk (st := s_law_mark) l5 c5 k5
  have F6 := fun_mk (st := s_law_mail) l6 c6 k6
  have F7 := fun_mk (st := s_law_sign) l7 c7 k7
  have F8 := fun_mk (st := s_law_number) l8 c8 k8
  have F9 := fun_mk (st := s_law_text) l9 c9 k9
  have F10 := fun_mk (st := s_law_bent) l10 c10 k10
  have F11 := fun_mk (st := s_law_good) l11 c11 k11
  have F12 := fun_mk (st := s_law_due) l12 c12 k12
  have F13 := fun_mk (st := s_law_only) l13 c13 k13
  have F14 := fun_mk (st := s_law_told) l14 c14 k14
  have F15 := fun_mk (st := s_law) l15 c15 k15
  refine ⟨PySem.W.fnOf "law" "law" (defArgs s_law) (defBody s_law) (defScope s_law) .none kV15 dc15 pm15 an15 cd15 ct15, fun s v => .of_eq rfl, fun base _ _ => ?_⟩
  have b1 := F1.binds (ps := ["figures"]) fun _ _ _ _ _ _ us hl => match us, hl with | [_], _ => rfl
  have c_read_number : Cal l.prog w K mg base (L2N.CX l.prog w) 1 "_read_number" ["figures"] (spNumber C_NoNote) := ⟨_, _, ok_read_number F1 B T , PySem.W.mg_of X G a1, k1, b1⟩
  have b2 := F2.binds (ps := ["text"]) fun _ _ _ _ _ _ us hl => match us, hl with | [_], _ => rfl
  have c_read_mark : Cal l.prog w K mg base (L2N.CX l.prog w) 2 "_read_mark" ["text"] (spRMark K C_NoNote) := ⟨_, _, ok_read_mark F2 B T c_read_number, PySem.W.mg_of X G a2, k2, b2⟩
  have b3 := F3.binds (ps := ["text"]) fun _ _ _ _ _ _ us hl => match us, hl with | [_], _ => rfl
  have c_read : Cal l.prog w K mg base (L2N.CX l.prog w) 3 "read" ["text"] (spRead K C_NoNote) := ⟨_, _, ok_read F3 B T c_read_mark c_read_number, PySem.W.mg_of X G a3, k3, b3⟩
  have b4 := F4.binds (ps := ["_law_found"]) fun _ _ _ _ _ _ us hl => match us, hl with | [_], _ => rfl
  have c_law_whole : Cal l.prog w K mg base CX0 1 "_law_whole" ["_law_found"] (spWhole) := ⟨_, _, ok_whole F4 B T , PySem.W.mg_of X G a4, k4, b4⟩
  have b5 := F5.binds (ps := ["_law_found"]) fun _ _ _ _ _ _ us hl => match us, hl with | [_], _ => rfl
  have c_law_mark : Cal l.prog w K mg base CX0 2 "_law_mark" ["_law_found"] (spMark K) := ⟨_, _, ok_mark F5 B T c_law_whole, PySem.W.mg_of X G a5, k5, b5⟩
  have b6 := F6.binds (ps := ["_law_found"]) fun _ _ _ _ _ _ us hl => match us, hl with | [_], _ => rfl
  have c_law_mail : Cal l.prog w K mg base CX0 3 "_law_mail" ["_law_found"] (spMail K) := ⟨_, _, ok_mail F6 B T c_law_whole c_law_mark, PySem.W.mg_of X G a6, k6, b6⟩
  have b7 := F7.binds (ps := ["_law_cell"]) fun _ _ _ _ _ _ us hl => match us, hl with | [_], _ => rfl
  have c_law_sign : Cal l.prog w K mg base CX0 1 "_law_sign" ["_law_cell"] (spSign) := ⟨_, _, ok_sign F7 B T , PySem.W.mg_of X G a7, k7, b7⟩
  have b8 := F8.binds (ps := ["_law_cell"]) fun _ _ _ _ _ _ us hl => match us, hl with | [_], _ => rfl
  have c_law_number : Cal l.prog w K mg base CX0 1 "_law_number" ["_law_cell"] (spNum) := ⟨_, _, ok_num F8 B T , PySem.W.mg_of X G a8, k8, b8⟩
  have b9 := F9.binds (ps := ["_law_cells"]) fun _ _ _ _ _ _ us hl => match us, hl with | [_], _ => rfl
  have c_law_text : Cal l.prog w K mg base CX0 2 "_law_text" ["_law_cells"] (spText K) := ⟨_, _, ok_text F9 B T c_law_number, PySem.W.mg_of X G a9, k9, b9⟩
  have b10 := F10.binds (ps := ["_law_text_here", "_law_cell", "_law_more"]) fun _ _ _ _ _ _ us hl => match us, hl with | [_, _, _], _ => rfl
  have c_law_bent : Cal l.prog w K mg base CX0 2 "_law_bent" ["_law_text_here", "_law_cell", "_law_more"] (spBent) := ⟨_, _, ok_bent F10 B T c_law_sign, PySem.W.mg_of X G a10, k10, b10⟩
  have b11 := F11.binds (ps := ["_law_word"]) fun _ _ _ _ _ _ us hl => match us, hl with | [_], _ => rfl
  have c_law_good : Cal l.prog w K mg base CX0 1 "_law_good" ["_law_word"] (spGood) := ⟨_, _, ok_good F11 B T , PySem.W.mg_of X G a11, k11, b11⟩
  have b12 := F12.binds (ps := ["_law_text_here"]) fun _ _ _ _ _ _ us hl => match us, hl with | [_], _ => rfl
  have c_law_due : Cal l.prog w K mg base CX0 2 "_law_due" ["_law_text_here"] (spDue K) := ⟨_, _, ok_due F12 B T c_law_good, PySem.W.mg_of X G a12, k12, b12⟩
  have b13 := F13.binds (ps := ["_law_error", "_law_word"]) fun _ _ _ _ _ _ us hl => match us, hl with | [_, _], _ => rfl
  have c_law_only : CalE l.prog w K mg base 1 "_law_only" ["_law_error", "_law_word"] (spOnly K [C_BadCount, C_NoHand, C_NoLetter, C_NoMail, C_Twice, C_NotOpen, C_BadMark, C_NoNote]) := ⟨_, _, ok_only F13 B T , PySem.W.mg_of X G a13, k13, b13⟩
  have b14 := F14.binds (ps := ["_law_text_here"]) fun _ _ _ _ _ _ us hl => match us, hl with | [_], _ => rfl
  have c_law_told : Cal l.prog w K mg base CX0 4 "_law_told" ["_law_text_here"] (spTold K) := ⟨_, _, ok_told F14 B T c_read c_law_only, PySem.W.mg_of X G a14, k14, b14⟩
  exact ok_law F15 B T c_law_text c_law_bent c_law_due c_law_told c_law_mail
end K05
open PySem PySem.W PyProof.Rows
set_option maxRecDepth 100000 in
set_option maxHeartbeats 0 in
theorem PySem.Challenge.cw_onebell_k05_what_writes_no_mail_holds : PySem.Challenge.rw_onebell_k05_what_writes_no_mail.Holds := by
  w_on; o_law; k_head; (case hw => w_witness2)
  k_fill
  refine L2.walk_ofK (l := PySem.Challenge.rw_onebell_k05_what_writes_no_mail) (n := 63) (k := 5) (x := "_law_script") (CX := L2.CX0) (sp := fun K => K05.spLaw K) rfl (by decide) rfl ⟨rfl, by decide, by decide⟩ (fun w h Y => PySem.W.kIn_of Y) ?F (fun K _ a ns hl _ hS => ⟨a, ns, rfl, hS, hl, fun _ => rfl⟩) (fun _ _ _ _ h => h)
  case F =>
    intro w mg fa h KX G hmg
    refine' K05.all_mk KX G hmg ?g_MOST_FIGURES ?g_MARKED ?l_MARKED ?h_MARKED ?s_MARKED ?v_MARKED ?ge_BellError ?ex_BellError ?ek_BellError ?eb_BellError ?et_BellError ?ge_BadCount ?ex_BadCount ?ek_BadCount ?eb_BadCount ?et_BadCount ?ge_NoHand ?ex_NoHand ?ek_NoHand ?eb_NoHand ?et_NoHand ?ge_NoLetter ?ex_NoLetter ?ek_NoLetter ?eb_NoLetter ?et_NoLetter ?ge_NoMail ?ex_NoMail ?ek_NoMail ?eb_NoMail ?et_NoMail ?ge_Twice ?ex_Twice ?ek_Twice ?eb_Twice ?et_Twice ?ge_NotOpen ?ex_NotOpen ?ek_NotOpen ?eb_NotOpen ?et_NotOpen ?ge_BadMark ?ex_BadMark ?ek_BadMark ?eb_BadMark ?et_BadMark ?ge_NoNote ?ex_NoNote ?ek_NoNote ?eb_NoNote ?et_NoNote ?lhg_NoNote ?lhk_NoNote ?lhd_NoNote ?lha_NoNote ?lhn_NoNote ?lht_NoNote ?lhm_NoNote ?lv_NoNote ?lc_BadCount ?lc_NoHand ?lc_NoLetter ?lc_NoMail ?lc_Twice ?lc_NotOpen ?lc_BadMark ?lc_NoNote ?lb_NoNote_BadCount ?ln_NoNote_BadCount ?lb_NoNote_NoHand ?ln_NoNote_NoHand ?lb_NoNote_NoLetter ?ln_NoNote_NoLetter ?lb_NoNote_NoMail ?ln_NoNote_NoMail ?lb_NoNote_Twice ?ln_NoNote_Twice ?lb_NoNote_NotOpen ?ln_NoNote_NotOpen ?lb_NoNote_BadMark ?ln_NoNote_BadMark ?lb_NoNote_NoNote ?xs_NoNote_BellError ?xd_NoNote_BellError ?a1 ?l1 ?c1 ?k1 ?a2 ?l2 ?c2 ?k2 ?a3 ?l3 ?c3 ?k3 ?a4 ?l4 ?c4 ?k4 ?a5 ?l5 ?c5 ?k5 ?a6 ?l6 ?c6 ?k6 ?a7 ?l7 ?c7 ?k7 ?a8 ?l8 ?c8 ?k8 ?a9 ?l9 ?c9 ?k9 ?a10 ?l10 ?c10 ?k10 ?a11 ?l11 ?c11 ?k11 ?a12 ?l12 ?c12 ?k12 ?a13 ?l13 ?c13 ?k13 ?a14 ?l14 ?c14 ?k14 ?a15 ?l15 ?c15 ?k15 ?z_len ?z_isinstance ?z_max ?z_min ?z_all ?z_any ?z_sorted ?z_int ?z_str ?z_bool ?z_list ?z_tuple ?z_dict ?z_set ?z_range ?z_zip ?z_enumerate ?z_ValueError
    (case g_MOST_FIGURES => k_is)
    (case g_MARKED => k_is)
    (case l_MARKED => k_is)
    (case h_MARKED => k_keys)
    (case s_MARKED => rfl)
    (case v_MARKED => rfl)
    (case ge_BellError => k_is)
    (case ex_BellError => k_exc)
    (case ek_BellError => k_is)
    (case eb_BellError => k_is)
    (case et_BellError => k_is)
    (case ge_BadCount => k_is)
    (case ex_BadCount => k_exc)
    (case ek_BadCount => k_is)
    (case eb_BadCount => k_is)
    (case et_BadCount => k_is)
    (case ge_NoHand => k_is)
    (case ex_NoHand => k_exc)
    (case ek_NoHand => k_is)
    (case eb_NoHand => k_is)
    (case et_NoHand => k_is)
    (case ge_NoLetter => k_is)
    (case ex_NoLetter => k_exc)
    (case ek_NoLetter => k_is)
    (case eb_NoLetter => k_is)
    (case et_NoLetter => k_is)
    (case ge_NoMail => k_is)
    (case ex_NoMail => k_exc)
    (case ek_NoMail => k_is)
    (case eb_NoMail => k_is)
    (case et_NoMail => k_is)
    (case ge_Twice => k_is)
    (case ex_Twice => k_exc)
    (case ek_Twice => k_is)
    (case eb_Twice => k_is)
    (case et_Twice => k_is)
    (case ge_NotOpen => k_is)
    (case ex_NotOpen => k_exc)
    (case ek_NotOpen => k_is)
    (case eb_NotOpen => k_is)
    (case et_NotOpen => k_is)
    (case ge_BadMark => k_is)
    (case ex_BadMark => k_exc)
    (case ek_BadMark => k_is)
    (case eb_BadMark => k_is)
    (case et_BadMark => k_is)
    (case ge_NoNote => k_is)
    (case ex_NoNote => k_exc)
    (case ek_NoNote => k_is)
    (case eb_NoNote => k_is)
    (case et_NoNote => k_is)
    (case lhg_NoNote => k_is)
    (case lhk_NoNote => k_is)
    (case lhd_NoNote => k_is)
    (case lha_NoNote => k_is)
    (case lhn_NoNote => k_is)
    (case lht_NoNote => k_is)
    (case lhm_NoNote => k_is)
    (case lv_NoNote => k_is)
    (case lc_BadCount => k_is)
    (case lc_NoHand => k_is)
    (case lc_NoLetter => k_is)
    (case lc_NoMail => k_is)
    (case lc_Twice => k_is)
    (case lc_NotOpen => k_is)
    (case lc_BadMark => k_is)
    (case lc_NoNote => k_is)
    (case lb_NoNote_BadCount => k_is)
    (case ln_NoNote_BadCount => (first | decide | (intro z; revert z; decide)))
    (case lb_NoNote_NoHand => k_is)
    (case ln_NoNote_NoHand => (first | decide | (intro z; revert z; decide)))
    (case lb_NoNote_NoLetter => k_is)
    (case ln_NoNote_NoLetter => (first | decide | (intro z; revert z; decide)))
    (case lb_NoNote_NoMail => k_is)
    (case ln_NoNote_NoMail => (first | decide | (intro z; revert z; decide)))
    (case lb_NoNote_Twice => k_is)
    (case ln_NoNote_Twice => (first | decide | (intro z; revert z; decide)))
    (case lb_NoNote_NotOpen => k_is)
    (case ln_NoNote_NotOpen => (first | decide | (intro z; revert z; decide)))
    (case lb_NoNote_BadMark => k_is)
    (case ln_NoNote_BadMark => (first | decide | (intro z; revert z; decide)))
    (case lb_NoNote_NoNote => k_is)
    (case xs_NoNote_BellError => k_is)
    (case xd_NoNote_BellError => k_is)
    (case a1 => k_is)
    (case l1 => k_is)
    (case c1 => k_is)
    (case k1 => k_is)
    (case a2 => k_is)
    (case l2 => k_is)
    (case c2 => k_is)
    (case k2 => k_is)
    (case a3 => k_is)
    (case l3 => k_is)
    (case c3 => k_is)
    (case k3 => k_is)
    (case a4 => k_is)
    (case l4 => k_is)
    (case c4 => k_is)
    (case k4 => k_is)
    (case a5 => k_is)
    (case l5 => k_is)
    (case c5 => k_is)
    (case k5 => k_is)
    (case a6 => k_is)
    (case l6 => k_is)
    (case c6 => k_is)
    (case k6 => k_is)
    (case a7 => k_is)
    (case l7 => k_is)
    (case c7 => k_is)
    (case k7 => k_is)
    (case a8 => k_is)
    (case l8 => k_is)
    (case c8 => k_is)
    (case k8 => k_is)
    (case a9 => k_is)
    (case l9 => k_is)
    (case c9 => k_is)
    (case k9 => k_is)
    (case a10 => k_is)
    (case l10 => k_is)
    (case c10 => k_is)
    (case k10 => k_is)
    (case a11 => k_is)
    (case l11 => k_is)
    (case c11 => k_is)
    (case k11 => k_is)
    (case a12 => k_is)
    (case l12 => k_is)
    (case c12 => k_is)
    (case k12 => k_is)
    (case a13 => k_is)
    (case l13 => k_is)
    (case c13 => k_is)
    (case k13 => k_is)
    (case a14 => k_is)
    (case l14 => k_is)
    (case c14 => k_is)
    (case k14 => k_is)
    (case a15 => k_is)
    (case l15 => k_is)
    (case c15 => k_is)
    (case k15 => k_is)
    (case z_len => k_is)
    (case z_isinstance => k_is)
    (case z_max => k_is)
    (case z_min => k_is)
    (case z_all => k_is)
    (case z_any => k_is)
    (case z_sorted => k_is)
    (case z_int => k_is)
    (case z_str => k_is)
    (case z_bool => k_is)
    (case z_list => k_is)
    (case z_tuple => k_is)
    (case z_dict => k_is)
    (case z_set => k_is)
    (case z_range => k_is)
    (case z_zip => k_is)
    (case z_enumerate => k_is)
    (case z_ValueError => k_is)
