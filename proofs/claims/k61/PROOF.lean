import PyProof.Rows.All
import Wide.All
import OpenK.AllK
import Wide.FinOn
import HandS.ForMost
import HandS.TupAny
import HandS.TupMul
import HandS.RevRange
import HandS.Wide
import HandS.Style
import HandS.Flow
import HandS.More
import HandS.Text
import HandS.IsInst
import PySem.Challenge.RW_soleway_k61_machines_run
set_option Elab.async false
set_option maxRecDepth 100000
set_option maxHeartbeats 4000000
namespace Sw
open PySem L2 PySem.Spec PyProof.Rows

/-! ### defs of the top -/
section
variable {P : Program} {w : World} {K : PySem.W.Frag} {mg : Str → Option Value} {base : Heap}
/-- a def of the top: it stands under its name, takes its arguments by place -/
structure DefAt (K : PySem.W.Frag) (mg : Str → Option Value) (x : Str) (st : Stmt) (ps : List Str) : Prop where
  ex : ∃ f fd, Fun K x x st f fd ∧ mg x = some (.ref f) ∧ Binds K fd ps []
/-- .. and keeps a promise -/
structure DefOk (P : Program) (w : World) (K : PySem.W.Frag) (mg : Str → Option Value) (base : Heap) (x : Str) (k : Nat) (ps : List Str) (sp : Sp) : Prop where
  ex : ∃ f fd, FnOk P w K mg base CX0 k f fd ps sp ∧ mg x = some (.ref f) ∧ PySem.W.keepIn K (.ref f) = true ∧ Binds K fd ps []
theorem DefOk.mono {x : Str} {j k : Nat} {ps : List Str} {sp : Sp} (F : DefOk P w K mg base x j ps sp) (h : j ≤ k) : DefOk P w K mg base x k ps sp := by
  obtain ⟨f, fd, a, b, c, d⟩ := F.ex
  exact ⟨f, fd, a.mono h, b, c, d⟩
theorem DefOk.imp {x : Str} {k : Nat} {ps : List Str} {sp sp' : Sp} (F : DefOk P w K mg base x k ps sp) (h : ∀ vs H Q E, sp' vs H Q E → sp vs H Q E) : DefOk P w K mg base x k ps sp' := by
  obtain ⟨f, fd, a, b, c, d⟩ := F.ex
  exact ⟨f, fd, a.imp h, b, c, d⟩
theorem DefAt.ok {x : Str} {st : Stmt} {N ps : List Str} {k : Nat} {sp : Sp} (F : DefAt K mg x st ps) (S : FnScope N ps (defScope st)) (len : ∀ vs H Q E, sp vs H Q E → vs.length = ps.length)
    (hbody : ∀ (f : Addr) (cdv : Value) (A : Around) (outer : List Env) (s : Shared) (H : Hp) (vs : List V) (Q : VK) (E : XK), Room k (A.deeper (envOfC x (defScope st) s.heap.objs.size f cdv)) → sp vs H Q E →
      ∃ t, PSs (cxOf CX0 P w K mg base N x (defScope st) f cdv A outer s H E).nox (defBody st) t ∧ t { nx := fun _ H' => Q .non H', rt := Q } (start N vs) H) : DefOk P w K mg base x (k + 1) ps sp := by
  obtain ⟨f, fd, h1, h2, h3⟩ := F.ex
  exact ⟨f, fd, h1.ok S len (fun cdv A outer s H vs Q E hr hs => hbody f cdv A outer s H vs Q E hr hs), h2, h1.kp, h3⟩
end
section
variable {X : Cx} {x : Str} {k : Nat} {ps : List Str} {sp : Sp} {e : Expr} {es : List Expr} {t : TA} {p pos : Pos}
theorem pe_callD (F : DefOk X.prog X.w X.K X.mg X.base x k ps sp) (hr : Room k X.A) (hg : Gl X x) (ha : PA X (e :: es) t) (hx : Passes CX0 X E0 := by exact pass0) (hdb : (x == ("__debug__" : Str)) = false := by decide)
    (he : starEach (e :: es) X.env = (false, eval e X.env) :: starEach es X.env := by rfl) (hpl : (backTo pos (starEach es X.env)).any (·.1) = false := by rfl) : PE X (.Call (.Name x p) (e :: es) [] pos) (tCall sp [] E0 t) := by
  obtain ⟨f, fd, a, b, c, d⟩ := F.ex
  exact pe_call a hr hg b c d .nil hx ha hdb he hpl
end

/-! ### heaps -/
theorem _root_.L2.Same.new {H : Hp} {p : Addr} {o : HO} (h : H p = none) : Same H (upd H p o) := fun b u q => by rw [upd_ne (ne_of_none q h)]; exact q
/-- what was not there may be written again -/
theorem _root_.L2.Same.mut {H H' : Hp} {p : Addr} {o : HO} (e : Same H H') (h : H p = none) : Same H (upd H' p o) := fun a u ha => by
  rw [upd_ne (ne_of_none ha h)]
  exact e a u ha
theorem _root_.L2.Same.rd {H H' : Hp} {a : Addr} {u : HO} (e : Same H H') (h : Rd H a u) : Rd H' a u := by
  rcases h with h | ⟨o, h⟩
  · exact Or.inl (e a _ h)
  · exact Or.inr ⟨o, e a _ h⟩
theorem _root_.L2.Same.sqT {K : PySem.W.Frag} {H H' : Hp} {a : Addr} {xs : List V} (e : Same H H') (h : SqT K H a xs) : SqT K H' a xs := by
  rcases h with h | h
  · exact Or.inl (e.rd h)
  · exact Or.inr h
theorem sT {K : PySem.W.Frag} {H : Hp} {a : Addr} {xs : List V} (h : H a = some (.tup xs)) : SqT K H a xs := Or.inl (Or.inl h)
theorem sL {K : PySem.W.Frag} {H : Hp} {a : Addr} {xs : List V} (h : H a = some (.lst xs)) : SqL K H a xs := Or.inl (Or.inl h)
/-- all but the object at p is as it was -/
def But (p : Addr) (H H' : Hp) : Prop := ∀ b o, H b = some o → b ≠ p → H' b = some o
theorem But.of {p : Addr} {H H' : Hp} (h : Same H H') : But p H H' := fun b o e _ => h b o e
theorem But.trans {p : Addr} {H H1 H2 : Hp} (a : But p H H1) (b : But p H1 H2) : But p H H2 := fun c o e n => b c o (a c o e n) n
theorem But.refl {p : Addr} {H : Hp} : But p H H := fun _ _ e _ => e
theorem But.upd {p : Addr} {H H' : Hp} {o : HO} (a : But p H H') : But p H (upd H' p o) := fun b u e n => by rw [upd_ne n]; exact a b u e n
theorem But.same {p : Addr} {H H' : Hp} (a : But p H H') (h : H p = none) : Same H H' := fun b o e => a b o e (ne_of_none e h)
theorem But.free {p q : Addr} {H H' : Hp} (a : But p H H') (h : H' q = none) (n : q ≠ p) : H q = none := by
  cases e : H q with
  | none => rfl
  | some o =>
    rw [a q o e n] at h
    cases h

/-! ### data in the heap -/
mutual
theorem dpSame {K : PySem.W.Frag} {H H' : Hp} (s : ∀ a u, (∃ xs, u = HO.lst xs ∨ u = HO.tup xs) → Rd H a u → Rd H' a u) : ∀ (d : PyData) (v : V), Dp K H v d → Dp K H' v d
  | .none, _, h => by cases h; exact .non
  | .bool b, _, h => by cases h; exact .bl b
  | .int i, _, h => by cases h; exact .int i
  | .str x, _, h => by cases h; exact .str x
  | .list ds, _, h => by
    cases h with
    | lst h1 h2 =>
      refine .lst ?_ (dpAllSame s ds _ h2)
      rcases h1 with h1 | h1
      · exact .inl (s _ _ ⟨_, .inl rfl⟩ h1)
      · exact .inr h1
  | .tuple ds, _, h => by
    cases h with
    | tup h1 h2 =>
      refine .tup ?_ (dpAllSame s ds _ h2)
      rcases h1 with h1 | h1
      · exact .inl (s _ _ ⟨_, .inr rfl⟩ h1)
      · exact .inr h1
  | .dict _, _, h => by cases h
theorem dpAllSame {K : PySem.W.Frag} {H H' : Hp} (s : ∀ a u, (∃ xs, u = HO.lst xs ∨ u = HO.tup xs) → Rd H a u → Rd H' a u) : ∀ (ds : List PyData) (vs : List V), DpAll K H vs ds → DpAll K H' vs ds
  | [], _, h => by cases h; exact .nil
  | d :: ds, _, h => by
    cases h with
    | cons h1 h2 => exact .cons (dpSame s d _ h1) (dpAllSame s ds _ h2)
end
theorem dpS {K : PySem.W.Frag} {H H' : Hp} (s : Same H H') {d : PyData} {v : V} (h : Dp K H v d) : Dp K H' v d := dpSame (fun _ _ _ r => s.rd r) d v h
theorem dpsS {K : PySem.W.Frag} {H H' : Hp} (s : Same H H') {ds : List PyData} {vs : List V} (h : DpAll K H vs ds) : DpAll K H' vs ds := dpAllSame (fun _ _ _ r => s.rd r) ds vs h
/-- a thing that is no list and no tuple may change -/
theorem dpB {K : PySem.W.Frag} {H H' : Hp} {p : Addr} (s : But p H H') (hp : ∀ u, Rd H p u → ∀ xs, u ≠ .lst xs ∧ u ≠ .tup xs) {d : PyData} {v : V} (h : Dp K H v d) : Dp K H' v d := by
  refine dpSame (fun a u hu r => ?_) d v h
  obtain ⟨xs, hu⟩ := hu
  have n : a ≠ p := by
    rintro rfl
    have := hp u r xs
    rcases hu with e | e
    · exact this.1 e
    · exact this.2 e
  rcases r with r | ⟨o, r⟩
  · exact .inl (s _ _ r n)
  · exact .inr ⟨o, s _ _ r n⟩
theorem dpsLen {K : PySem.W.Frag} {H : Hp} : ∀ {vs : List V} {ds : List PyData}, DpAll K H vs ds → vs.length = ds.length
  | [], _, h => by cases h; rfl
  | _ :: _, _, h => by cases h with | cons _ t => simp [dpsLen t]
theorem dpsAt {K : PySem.W.Frag} {H : Hp} : ∀ {vs : List V} {ds : List PyData} {i : Nat} {d : PyData}, DpAll K H vs ds → ds[i]? = some d → ∃ v, vs[i]? = some v ∧ Dp K H v d
  | [], _, i, d, h, e => by cases h; simp at e
  | v :: vs, _, i, d, h, e => by
    cases h with
    | cons h1 h2 =>
      cases i with
      | zero => simp at e; subst e; exact ⟨v, rfl, h1⟩
      | succ i => simp at e; obtain ⟨u, e1, e2⟩ := dpsAt h2 e; exact ⟨u, by simpa using e1, e2⟩
theorem dpsAtV {K : PySem.W.Frag} {H : Hp} : ∀ {vs : List V} {ds : List PyData} {i : Nat} {v : V}, DpAll K H vs ds → vs[i]? = some v → ∃ d, ds[i]? = some d ∧ Dp K H v d
  | [], _, i, v, h, e => by simp at e
  | v :: vs, _, i, u, h, e => by
    cases h with
    | cons h1 h2 =>
      cases i with
      | zero => simp at e; subst e; exact ⟨_, rfl, h1⟩
      | succ i => simp at e; obtain ⟨u, e1, e2⟩ := dpsAtV h2 e; exact ⟨u, by simpa using e1, e2⟩
theorem dpsApp {K : PySem.W.Frag} {H : Hp} : ∀ {vs us : List V} {ds es : List PyData}, DpAll K H vs ds → DpAll K H us es → DpAll K H (vs ++ us) (ds ++ es)
  | [], _, _, _, h, g => by cases h; exact g
  | _ :: _, _, _, _, h, g => by cases h with | cons h1 h2 => exact .cons h1 (dpsApp h2 g)
/-- a tuple's data by its items -/
theorem dpTup {K : PySem.W.Frag} {H : Hp} {v : V} {ds : List PyData} (h : Dp K H v (.tuple ds)) : ∃ a xs, v = .ref a ∧ SqT K H a xs ∧ DpAll K H xs ds := by
  cases h with
  | tup h1 h2 => exact ⟨_, _, rfl, h1, h2⟩
theorem dpLst {K : PySem.W.Frag} {H : Hp} {v : V} {ds : List PyData} (h : Dp K H v (.list ds)) : ∃ a xs, v = .ref a ∧ SqL K H a xs ∧ DpAll K H xs ds := by
  cases h with
  | lst h1 h2 => exact ⟨_, _, rfl, h1, h2⟩
theorem dpStr {K : PySem.W.Frag} {H : Hp} {v : V} {x : Str} (h : Dp K H v (.str x)) : v = .str x := by cases h; rfl
theorem dpInt {K : PySem.W.Frag} {H : Hp} {v : V} {x : Int} (h : Dp K H v (.int x)) : v = .int x := by cases h; rfl
theorem dpNone {K : PySem.W.Frag} {H : Hp} {v : V} (h : Dp K H v .none) : v = .non := by cases h; rfl
theorem dpNil {K : PySem.W.Frag} {H : Hp} {vs : List V} (h : DpAll K H vs []) : vs = [] := by cases h; rfl
theorem dpCons {K : PySem.W.Frag} {H : Hp} {vs : List V} {d : PyData} {ds : List PyData} (h : DpAll K H vs (d :: ds)) : ∃ v us, vs = v :: us ∧ Dp K H v d ∧ DpAll K H us ds := by
  cases h with
  | cons h1 h2 => exact ⟨_, _, rfl, h1, h2⟩

/-! ### forms -/
inductive Fm where
  | sign (s : Str)
  | row (ps : List Fm)
  | pick (ps : List Fm)
  | times (p : Fm) (low : Nat) (high : Option Nat)
def highD : Option Nat → PyData
  | none => .none
  | some h => .int h
def highV : Option Nat → V
  | none => .non
  | some h => .int h
theorem dpHigh {K : PySem.W.Frag} {H : Hp} {v : V} {o : Option Nat} (h : Dp K H v (highD o)) : v = highV o := by
  cases o with
  | none => exact dpNone h
  | some n => exact dpInt h
theorem highDp {K : PySem.W.Frag} {H : Hp} (o : Option Nat) : Dp K H (highV o) (highD o) := by
  cases o with
  | none => exact .non
  | some n => exact .int _
mutual
def Fm.dat : Fm → PyData
  | .sign s => .tuple [.str "sign", .str s]
  | .row ps => .tuple [.str "row", .tuple (Fm.dats ps)]
  | .pick ps => .tuple [.str "pick", .tuple (Fm.dats ps)]
  | .times p low high => .tuple [.str "times", p.dat, .int low, highD high]
def Fm.dats : List Fm → List PyData
  | [] => []
  | p :: ps => p.dat :: Fm.dats ps
end
theorem Fm.dats_map : ∀ ps : List Fm, Fm.dats ps = ps.map Fm.dat
  | [] => rfl
  | p :: ps => by rw [Fm.dats, Fm.dats_map ps, List.map_cons]
def Fm.kind : Fm → Str
  | .sign _ => "sign"
  | .row _ => "row"
  | .pick _ => "pick"
  | .times _ _ _ => "times"
def Fm.parts : Fm → List Fm
  | .sign _ => []
  | .row ps => ps
  | .pick ps => ps
  | .times p _ _ => [p]
abbrev FmAt (K : PySem.W.Frag) (H : Hp) (v : V) (f : Fm) : Prop := Dp K H v f.dat
abbrev FmsAt (K : PySem.W.Frag) (H : Hp) (vs : List V) (fs : List Fm) : Prop := DpAll K H vs (Fm.dats fs)
/-- every form is a tuple that begins with its kind -/
theorem fmTup {K : PySem.W.Frag} {H : Hp} {v : V} {f : Fm} (h : FmAt K H v f) : ∃ a xs, v = .ref a ∧ SqT K H a (.str f.kind :: xs) := by
  cases f with
  | sign s => obtain ⟨a, xs, rfl, h1, h2⟩ := dpTup h; obtain ⟨v, us, rfl, e, _⟩ := dpCons h2; cases dpStr e; exact ⟨a, us, rfl, h1⟩
  | row s => obtain ⟨a, xs, rfl, h1, h2⟩ := dpTup h; obtain ⟨v, us, rfl, e, _⟩ := dpCons h2; cases dpStr e; exact ⟨a, us, rfl, h1⟩
  | pick s => obtain ⟨a, xs, rfl, h1, h2⟩ := dpTup h; obtain ⟨v, us, rfl, e, _⟩ := dpCons h2; cases dpStr e; exact ⟨a, us, rfl, h1⟩
  | times s l u => obtain ⟨a, xs, rfl, h1, h2⟩ := dpTup h; obtain ⟨v, us, rfl, e, _⟩ := dpCons h2; cases dpStr e; exact ⟨a, us, rfl, h1⟩
theorem fmSign {K : PySem.W.Frag} {H : Hp} {v : V} {s : Str} (h : FmAt K H v (.sign s)) : ∃ a, v = .ref a ∧ SqT K H a [.str "sign", .str s] := by
  obtain ⟨a, xs, rfl, h1, h2⟩ := dpTup h; obtain ⟨v, us, rfl, e, h3⟩ := dpCons h2; cases dpStr e
  obtain ⟨v, us, rfl, e, h4⟩ := dpCons h3; cases dpStr e; cases dpNil h4; exact ⟨a, rfl, h1⟩
theorem fmRow {K : PySem.W.Frag} {H : Hp} {v : V} {ps : List Fm} (h : FmAt K H v (.row ps)) : ∃ a b vs, v = .ref a ∧ SqT K H a [.str "row", .ref b] ∧ SqT K H b vs ∧ FmsAt K H vs ps := by
  obtain ⟨a, xs, rfl, h1, h2⟩ := dpTup h; obtain ⟨v, us, rfl, e, h3⟩ := dpCons h2; cases dpStr e
  obtain ⟨v, us, rfl, e, h4⟩ := dpCons h3; obtain ⟨b, vs, rfl, h5, h6⟩ := dpTup e; cases dpNil h4; exact ⟨a, b, vs, rfl, h1, h5, h6⟩
theorem fmPick {K : PySem.W.Frag} {H : Hp} {v : V} {ps : List Fm} (h : FmAt K H v (.pick ps)) : ∃ a b vs, v = .ref a ∧ SqT K H a [.str "pick", .ref b] ∧ SqT K H b vs ∧ FmsAt K H vs ps := by
  obtain ⟨a, xs, rfl, h1, h2⟩ := dpTup h; obtain ⟨v, us, rfl, e, h3⟩ := dpCons h2; cases dpStr e
  obtain ⟨v, us, rfl, e, h4⟩ := dpCons h3; obtain ⟨b, vs, rfl, h5, h6⟩ := dpTup e; cases dpNil h4; exact ⟨a, b, vs, rfl, h1, h5, h6⟩
theorem fmTimes {K : PySem.W.Frag} {H : Hp} {v : V} {p : Fm} {low : Nat} {high : Option Nat} (h : FmAt K H v (.times p low high)) : ∃ a u, v = .ref a ∧ SqT K H a [.str "times", u, .int low, highV high] ∧ FmAt K H u p := by
  obtain ⟨a, xs, rfl, h1, h2⟩ := dpTup h; obtain ⟨v, us, rfl, e, h3⟩ := dpCons h2; cases dpStr e
  obtain ⟨u, us, rfl, e, h4⟩ := dpCons h3
  obtain ⟨v, us, rfl, e2, h5⟩ := dpCons h4; cases dpInt e2
  obtain ⟨v, us, rfl, e3, h6⟩ := dpCons h5; cases dpHigh e3; cases dpNil h6
  exact ⟨a, u, rfl, h1, e⟩
end Sw
set_option Elab.async false
set_option maxRecDepth 100000
set_option maxHeartbeats 4000000
namespace Sw
open PySem L2 PySem.Spec PyProof.Rows
def top (i : Nat) : Stmt := PySem.Challenge.pw_soleway_k61_machines_run.main.body.getD i (.Pass ⟨0, 0, 0, 0⟩)
abbrev s_runs : Stmt := top 1
abbrev s_law_e_pen : Stmt := top 3
abbrev s_law_e_take : Stmt := top 4
abbrev s_law_e_signs : Stmt := top 5
abbrev s_law_e_machine : Stmt := top 6
abbrev s_law_e_goes : Stmt := top 7
abbrev s_law_e_row : Stmt := top 8
abbrev s_law_e_along : Stmt := top 9
abbrev s_law : Stmt := top 10
end Sw
set_option Elab.async false
set_option maxRecDepth 100000
set_option maxHeartbeats 8000000
namespace Sw
open PySem L2 PySem.Spec PyProof.Rows
theorem szb {n : Nat} (h : n ≤ 16000000) : n < sizeLine := by rw [sizeLine_eq]; omega
theorem szl {n : Nat} (h : n ≤ 16000000) : n ≤ sizeLine := by rw [sizeLine_eq]; omega
theorem take_snoc {α : Type} {l : List α} {i : Nat} {x : α} (h : l[i]? = some x) : l.take (i + 1) = l.take i ++ [x] := by rw [List.take_add_one, h]; rfl
theorem cut_take (xs : List V) (n : Nat) : cutV xs none (some (n : Int)) = xs.take n := by
  unfold cutV
  rw [HT.sIx_nat, HT.sIx_none, List.drop_zero, Nat.sub_zero]
  by_cases h : n ≤ xs.length
  · rw [Nat.min_eq_left h]
  · rw [Nat.min_eq_right (by omega), List.take_of_length_le (by omega), List.take_of_length_le (by omega)]
theorem pairedMap {α β : Type} {F G : α → β → Prop} : ∀ {l₁ : List α} {l₂ : List β}, Paired F l₁ l₂ → (∀ a b, F a b → G a b) → Paired G l₁ l₂
  | _, _, .nil, _ => .nil
  | _, _, .cons r t, f => .cons (f _ _ r) (pairedMap t f)
theorem pairedApp {α β : Type} {F : α → β → Prop} : ∀ {a₁ : List α} {b₁ : List β} {a₂ : List α} {b₂ : List β}, Paired F a₁ b₁ → Paired F a₂ b₂ → Paired F (a₁ ++ a₂) (b₁ ++ b₂)
  | _, _, _, _, .nil, g => g
  | _, _, _, _, .cons r t, g => .cons r (pairedApp t g)
theorem pairedAtL {α β : Type} {F : α → β → Prop} : ∀ {l₁ : List α} {l₂ : List β} {i : Nat} {a : α}, Paired F l₁ l₂ → l₁[i]? = some a → ∃ b, l₂[i]? = some b ∧ F a b
  | _, _, _, _, .nil, h => by simp at h
  | _, _, 0, _, .cons r t, h => by simp at h; subst h; exact ⟨_, rfl, r⟩
  | _, _, i + 1, _, .cons r t, h => by
    simp at h
    obtain ⟨a, h1, h2⟩ := pairedAtL t h
    exact ⟨a, by simpa using h1, h2⟩
theorem keepTup {K : PySem.W.Frag} {H : Hp} {p : Addr} {xs : List V} {o : HO} (h : H p = some (.lst xs)) (a : Addr) (ys : List V) (r : Rd H a (.tup ys)) : Rd (upd H p o) a (.tup ys) := by
  have n : a ≠ p := by
    rintro rfl
    rcases r with r | ⟨o, r⟩ <;> (rw [h] at r; cases r)
  rcases r with r | ⟨o, r⟩
  · exact .inl (by rw [upd_ne n]; exact r)
  · exact .inr ⟨o, by rw [upd_ne n]; exact r⟩
theorem sqTW {K : PySem.W.Frag} {H : Hp} {p a : Addr} {xs ys : List V} {o : HO} (h : H p = some (.lst xs)) (t : SqT K H a ys) : SqT K (upd H p o) a ys := by
  rcases t with t | t
  · exact .inl (keepTup (K := K) h _ _ t)
  · exact .inr t
theorem catA {K : PySem.W.Frag} {H : Hp} {a b : Addr} {xs ys : List V} {Q : VK} (ha : SqT K H a xs) (hb : SqT K H b ys) (hl : xs.length + ys.length ≤ sizeLine) (k : ∀ (H' : Hp) (q : Addr), Same H H' → SqT K H' q (xs ++ ys) → Q (.ref q) H') : rCatA K (.ref a) (.ref b) H Q := by
  refine ⟨a, b, xs, ys, rfl, rfl, ha, hb, hl, fun e => ?_, fun _ e => ?_, fun _ _ p hp => k _ p (.new hp) (sT upd_same)⟩
  · subst e
    exact k H b (Same.refl _) hb
  · subst e
    exact k H a (Same.refl _) (by rw [List.append_nil]; exact ha)
end Sw
set_option Elab.async false
set_option maxRecDepth 100000
set_option maxHeartbeats 8000000
namespace Sw
open PySem L2 PySem.Spec PyProof.Rows
/-! ### the pen: a list of the cells, a place in them, and what is left of a cell -/
def penL (sp : Addr) (i : Nat) (z : Int) : List V := [.ref sp, .int (i : Int), .int z]
def PenAt (H : Hp) (pen sp : Addr) : Prop := ∃ (ns : List Int) (i : Nat) (z : Int), H pen = some (.lst (penL sp i z)) ∧ H sp = some (.lst (ns.map V.int)) ∧ ns.length ≤ 63
theorem penNe {H : Hp} {pen sp : Addr} {i : Nat} {z : Int} {ns : List Int} (h1 : H pen = some (.lst (penL sp i z))) (h2 : H sp = some (.lst (ns.map V.int))) : sp ≠ pen := by
  rintro rfl
  rw [h1] at h2
  injection h2 with h2
  injection h2 with h2
  cases ns with
  | nil => cases h2
  | cons n r => injection h2 with a b; cases a
theorem PenAt.same {H H' : Hp} {pen sp : Addr} (h : PenAt H pen sp) (s : Same H H') : PenAt H' pen sp := by
  obtain ⟨ns, i, z, h1, h2, h3⟩ := h
  exact ⟨ns, i, z, s _ _ h1, s _ _ h2, h3⟩
/-- another list may be written -/
theorem PenAt.w {H0 H : Hp} {pen sp D : Addr} {o : HO} (h : PenAt H pen sp) (h0 : PenAt H0 pen sp) (hD : H0 D = none) : PenAt (upd H D o) pen sp := by
  obtain ⟨ns, i, z, h1, h2, h3⟩ := h
  obtain ⟨_, _, _, h4, h5, _⟩ := h0
  exact ⟨ns, i, z, by rw [upd_ne (ne_of_none h4 hD)]; exact h1, by rw [upd_ne (ne_of_none h5 hD)]; exact h2, h3⟩
theorem butW {H0 H : Hp} {st D : Addr} {o : HO} (b : But st H0 H) (hD : H0 D = none) : But st H0 (upd H D o) := fun x u e n => by
  rw [upd_ne (ne_of_none e hD)]
  exact b x u e n
theorem PenAt.sqT {K : PySem.W.Frag} {H H' : Hp} {pen sp a : Addr} {xs : List V} (h : PenAt H pen sp) (b : But pen H H') (hq : SqT K H a xs) : SqT K H' a xs := by
  obtain ⟨ns, i, z, h1, h2, h3⟩ := h
  have n : ∀ u, H a = some u → (∀ l, u ≠ .lst l) → a ≠ pen := fun u r e hm => by
    rw [hm, h1] at r
    exact e _ (Option.some.inj r).symm
  rcases hq with hq | hq
  · rcases hq with hq | ⟨o, hq⟩
    · exact .inl (.inl (b _ _ hq (n _ hq (fun l e => by cases e))))
    · exact .inl (.inr ⟨o, b _ _ hq (n _ hq (fun l e => by cases e))⟩)
  · exact .inr hq
/-- lists of texts, of addresses stay -/
theorem PenAt.strs {H H' : Hp} {pen sp a : Addr} {ss : List Str} (h : PenAt H pen sp) (b : But pen H H') (hq : H a = some (.lst (ss.map V.str))) : H' a = some (.lst (ss.map V.str)) := by
  obtain ⟨ns, i, z, h1, h2, h3⟩ := h
  refine b _ _ hq ?_
  rintro rfl
  rw [h1] at hq
  injection hq with hq
  injection hq with hq
  cases ss with
  | nil => cases hq
  | cons n r => injection hq with a b; cases a
theorem PenAt.refs {H H' : Hp} {pen sp a : Addr} {as : List Addr} (h : PenAt H pen sp) (b : But pen H H') (hq : H a = some (.lst (as.map V.ref))) : H' a = some (.lst (as.map V.ref)) := by
  obtain ⟨ns, i, z, h1, h2, h3⟩ := h
  refine b _ _ hq ?_
  rintro rfl
  rw [h1] at hq
  injection hq with hq
  injection hq with hq
  match as, hq with
  | [], hq => cases hq
  | [_], hq => injection hq with a b; cases b
  | _ :: _ :: _, hq => injection hq with a b; injection b with c d; cases c
mutual
def noL : PyData → Bool
  | .list _ => false
  | .dict _ => false
  | .tuple ds => noLs ds
  | _ => true
def noLs : List PyData → Bool
  | [] => true
  | d :: ds => noL d && noLs ds
end
mutual
theorem dpSameT {K : PySem.W.Frag} {H H' : Hp} (s : ∀ a xs, SqT K H a xs → SqT K H' a xs) : ∀ (d : PyData) (v : V), noL d = true → Dp K H v d → Dp K H' v d
  | .none, _, _, h => by cases h; exact .non
  | .bool b, _, _, h => by cases h; exact .bl b
  | .int i, _, _, h => by cases h; exact .int i
  | .str x, _, _, h => by cases h; exact .str x
  | .list ds, _, e, h => by cases e
  | .tuple ds, _, e, h => by
    cases h with
    | tup h1 h2 => exact .tup (s _ _ h1) (dpAllSameT s ds _ (by unfold noL at e; exact e) h2)
  | .dict _, _, e, h => by cases e
theorem dpAllSameT {K : PySem.W.Frag} {H H' : Hp} (s : ∀ a xs, SqT K H a xs → SqT K H' a xs) : ∀ (ds : List PyData) (vs : List V), noLs ds = true → DpAll K H vs ds → DpAll K H' vs ds
  | [], _, _, h => by cases h; exact .nil
  | d :: ds, _, e, h => by
    cases h with
    | cons h1 h2 =>
      unfold noLs at e
      rw [Bool.and_eq_true] at e
      exact .cons (dpSameT s d _ e.1 h1) (dpAllSameT s ds _ e.2 h2)
end
theorem PenAt.dp {K : PySem.W.Frag} {H H' : Hp} {pen sp : Addr} {v : V} {d : PyData} (h : PenAt H pen sp) (b : But pen H H') (n : noL d = true) (hd : Dp K H v d) : Dp K H' v d := dpSameT (fun _ _ q => h.sqT b q) d v n hd
theorem PenAt.dps {K : PySem.W.Frag} {H H' : Hp} {pen sp : Addr} {vs : List V} {ds : List PyData} (h : PenAt H pen sp) (b : But pen H H') (n : noLs ds = true) (hd : DpAll K H vs ds) : DpAll K H' vs ds := dpAllSameT (fun _ _ q => h.sqT b q) ds vs n hd
section
variable {P : Program} {w : World} {K : PySem.W.Frag} {mg : Str → Option Value} {base : Heap}
abbrev n_law_e_pen : List Str := ["script"]
theorem sc_law_e_pen : FnScope n_law_e_pen ["script"] (defScope s_law_e_pen) := ⟨rfl, rfl, rfl, by decide +kernel, rfl, by decide +kernel, by decide +kernel⟩
def spPen (K : PySem.W.Frag) : Sp := fun vs H Q _ => ∃ (a : Addr) (ns : List Int), vs = [.ref a] ∧ SqL K H a (ns.map V.int) ∧ ns.length ≤ 63 ∧ ∀ H' pen sp, PenAt H' pen sp → Q (.ref pen) H'
theorem ok_law_e_pen (F : DefAt K mg "_law_e_pen" s_law_e_pen ["script"]) (b_list : mg "list" = none) : DefOk P w K mg base "_law_e_pen" 1 ["script"] (spPen K) := by
  refine F.ok sc_law_e_pen (fun vs H Q E h => ?_) (fun f cdv A outer s H vs Q E hr h => ?_)
  · obtain ⟨_, _, rfl, _⟩ := h
    rfl
  obtain ⟨a, ns, rfl, hS, hlen, k⟩ := h
  refine ⟨_, (pss_one (ps_ret (pe_lst (pa_cons (pe_callTy call_list_of (by rfl) b_list (by decide +kernel) (pa_cons (pe_slice sl_list (pv 0) po_none (po_some pe_int)) pa_nil)) (pa_cons pe_int (pa_cons pe_int pa_nil)))))), ?_⟩
  refine ⟨_, rfl, _, rfl, a, _, rfl, hS, fun p hp => ?_⟩
  have e63 : cutV (ns.map V.int) none (some 63) = ns.map V.int := by
    have := cut_take (ns.map V.int) 63
    rw [show ((63 : Nat) : Int) = 63 from rfl] at this
    rw [this, List.take_of_length_le (by rw [List.length_map]; exact hlen)]
  dsimp only
  rw [e63]
  refine ⟨p, _, rfl, .inl (sL upd_same), fun l hl => ⟨(by show 3 ≤ sizeLine; decide), fun q hq => ?_⟩⟩
  have nl : l ≠ q := ne_of_none upd_same hq
  exact k _ q l ⟨ns, 0, 0, upd_same, by rw [upd_ne nl]; exact upd_same, hlen⟩
end
end Sw
set_option Elab.async false
set_option maxRecDepth 100000
set_option maxHeartbeats 8000000
namespace Sw
open PySem L2 PySem.Spec PyProof.Rows
def thenOf : Stmt → List Stmt
  | .If _ b _ _ => b
  | _ => []
theorem modLt (c : Int) {m : Int} (h : 0 < m) : 0 ≤ c % m ∧ c % m < m := ⟨Int.emod_nonneg _ (by omega), Int.emod_lt_of_pos _ h⟩
section
variable {P : Program} {w : World} {K : PySem.W.Frag} {mg : Str → Option Value} {base : Heap}
abbrev n_law_e_take : List Str := ["pen", "many", "at", "cell", "mixed", "found"]
theorem sc_law_e_take : FnScope n_law_e_take ["pen", "many"] (defScope s_law_e_take) := ⟨rfl, rfl, rfl, by decide +kernel, rfl, by decide +kernel, by decide +kernel⟩
def spTake : Sp := fun vs H Q _ => ∃ (pen sp : Addr) (m : Nat), vs = [.ref pen, .int (m : Int)] ∧ 0 < m ∧ m ≤ 1000 ∧ PenAt H pen sp ∧ ∀ H' (k : Nat), k < m → But pen H H' → PenAt H' pen sp → Q (.int (k : Int)) H'
theorem ok_law_e_take (F : DefAt K mg "_law_e_take" s_law_e_take ["pen", "many"]) (b_len : mg "len" = none) : DefOk P w K mg base "_law_e_take" 1 ["pen", "many"] spTake := by
  refine F.ok sc_law_e_take (fun vs H Q E h => ?_) (fun f cdv A outer s H vs Q E hr h => ?_)
  · obtain ⟨_, _, _, rfl, _⟩ := h
    rfl
  obtain ⟨pen, sp, m, rfl, hm0, hm1, hp, k⟩ := h
  -- the last three
  obtain ⟨t2, h2, f2⟩ : ∃ t2, PSs (cxOf CX0 P w K mg base n_law_e_take "_law_e_take" (defScope s_law_e_take) f cdv A outer s H E).nox ((defBody s_law_e_take).drop 1) t2 ∧
      ∀ (o2 o3 o4 : Option V) (H' : Hp), But pen H H' → PenAt H' pen sp → t2 { nx := fun _ H' => Q .non H', rt := Q } [some (.ref pen), some (.int (m : Int)), o2, o3, o4, none] H' := by
    refine ⟨_, (pss_cons (ps_set (i := 5) sc_law_e_take.nd rfl (Or.inl rfl) (pe_op op_mod (pe_ix ix_list (pv 0) pe_int (fun _ _ => rfl)) (pv 1)))
      (pss_cons (ps_asg (pe_op op_fdiv (pe_ix ix_list (pv 0) pe_int (fun _ _ => rfl)) (pv 1)) (pg_sub (pv 0) pe_int set_list))
      (pss_one (ps_ret (pv 5))))), ?_⟩
    rintro o2 o3 o4 H' b ⟨ns, i, z, h1, hs, hl⟩
    refine ⟨_, rfl, pen, _, 2, _, rfl, rfl, sL h1, atI_nat (j := 2) rfl, _, rfl, _, _, rfl, rfl, (by show (0 : Int) < (m : Int); omega), ?_⟩
    refine ⟨_, rfl, pen, _, 2, _, rfl, rfl, sL h1, atI_nat (j := 2) rfl, _, rfl, _, _, rfl, rfl, ⟨(by show (0 : Int) < (m : Int); omega), (by show (m : Int) < 1073741824; omega)⟩, ?_⟩
    refine ⟨_, rfl, pen, _, 2, 2, rfl, rfl, h1, rfl, _, rfl, ?_⟩
    obtain ⟨q1, q2⟩ := modLt z (m := (m : Int)) (by omega)
    obtain ⟨j, hj⟩ : ∃ j : Nat, z % (m : Int) = (j : Int) := ⟨(z % (m : Int)).toNat, by omega⟩
    have nsp := penNe h1 hs
    show Q (V.int (z % (m : Int))) _
    rw [hj]
    refine k _ j (by omega) b.upd ⟨ns, i, z / (m : Int), upd_same, by rw [upd_ne nsp]; exact hs, hl⟩
  obtain ⟨ns, i, z, h1, hs, hl⟩ := id hp
  have nsp := penNe h1 hs
  -- behind the cell
  obtain ⟨t3, h3, f3⟩ : ∃ t3, PSs (cxOf CX0 P w K mg base n_law_e_take "_law_e_take" (defScope s_law_e_take) f cdv A outer s H E).nox ((thenOf ((defBody s_law_e_take).headD (.Pass ⟨0, 0, 0, 0⟩))).drop 3) t3 ∧
      ∀ (D : Ends), (∀ (o2 o3 o4 : Option V) (H' : Hp), But pen H H' → PenAt H' pen sp → D.nx [some (.ref pen), some (.int (m : Int)), o2, o3, o4, none] H') → ∀ c : Int, t3 D [some (.ref pen), some (.int (m : Int)), some (.int (i : Int)), some (.int c), none, none] H := by
    refine ⟨_, (pss_cons (ps_asg (pe_op op_add (pv 2) pe_int) (pg_sub (pv 0) pe_int set_list))
    (pss_cons (ps_asg (pv 3) (pg_sub (pv 0) pe_int set_list))
    (pss_one (ps_if (pt_cmpR op_lt (pv 3) (pe_op op_pow pe_int pe_int) (nomark _)) (pss_cons (ps_set (i := 4) sc_law_e_take.nd rfl (Or.inl rfl) (pe_op op_mod (pe_op op_add (pe_op op_add (pe_op op_mul (pe_op op_mod (pv 3) pe_int) pe_int) (pe_op op_mul (pv 2) pe_int)) pe_int) pe_int))
    (pss_cons (ps_set (i := 4) sc_law_e_take.nd rfl (Or.inl rfl) (pe_op op_mod (pe_op op_add (pe_op op_add (pe_op op_mul (pv 4) (pv 4)) (pe_op op_mul (pv 2) pe_int)) pe_int) pe_int))
    (pss_one (ps_asg (pe_op op_add (pe_op op_mul (pv 4) pe_int) (pe_op op_mod (pe_op op_add (pe_op op_mul (pv 4) (pv 4)) (pe_op op_mul pe_int (pv 2))) pe_int)) (pg_sub (pv 0) pe_int set_list))))) pss_nil)))), ?_⟩
    intro D f2 c
    have w1 : (upd (upd H pen (.lst ((penL sp i z).set 1 (.int ((i : Int) + 1))))) pen (.lst (((penL sp i z).set 1 (.int ((i : Int) + 1))).set 2 (.int c)))) pen = some (.lst (penL sp (i + 1) c)) := by
      rw [upd_same]
      unfold penL
      rw [Int.natCast_add]
      rfl
    have w2 : PenAt (upd (upd H pen (.lst ((penL sp i z).set 1 (.int ((i : Int) + 1))))) pen (.lst (((penL sp i z).set 1 (.int ((i : Int) + 1))).set 2 (.int c)))) pen sp := ⟨ns, i + 1, c, w1, by rw [upd_ne nsp, upd_ne nsp]; exact hs, hl⟩
    refine ⟨_, rfl, _, _, rfl, rfl, _, rfl, pen, _, 1, 1, rfl, rfl, h1, rfl, ?_⟩
    refine ⟨_, rfl, _, rfl, pen, _, 2, 2, rfl, rfl, upd_same, rfl, ?_⟩
    refine ⟨_, rfl, _, _, rfl, rfl, ⟨by decide, by decide, by decide⟩, _, _, rfl, rfl, _, rfl, ite2 (fun _ => ?_) (fun _ => f2 _ _ _ _ (But.refl.upd.upd) w2)⟩
    refine ⟨_, rfl, _, _, rfl, rfl, (by show (0 : Int) < 2147483629; decide), _, _, rfl, rfl, .inr ⟨by decide, by decide⟩, _, rfl, _, _, rfl, rfl, .inr ⟨by decide, by decide⟩, _, _, rfl, rfl, _, _, rfl, rfl, _, _, rfl, rfl, (by show (0 : Int) < 2147483587; decide), ?_⟩
    dsimp only
    obtain ⟨m1, m2⟩ := modLt (c % 2147483629 * 48271 + (i : Int) * 69621 + 101) (m := 2147483587) (by decide)
    generalize (c % 2147483629 * 48271 + (i : Int) * 69621 + 101) % 2147483587 = x at m1 m2 ⊢
    refine ⟨_, rfl, _, rfl, _, _, rfl, rfl, .inl ⟨by omega, by omega⟩, _, rfl, _, _, rfl, rfl, .inr ⟨by decide, by decide⟩, _, _, rfl, rfl, _, _, rfl, rfl, _, _, rfl, rfl, (by show (0 : Int) < 2147483563; decide), ?_⟩
    dsimp only
    obtain ⟨m3, m4⟩ := modLt (x * x + (i : Int) * 40014 + 7) (m := 2147483563) (by decide)
    generalize (x * x + (i : Int) * 40014 + 7) % 2147483563 = y at m3 m4 ⊢
    refine ⟨_, rfl, _, _, rfl, rfl, .inr ⟨by decide, by decide⟩, _, rfl, _, rfl, _, _, rfl, rfl, .inl ⟨by omega, by omega⟩, _, rfl, _, _, rfl, rfl, .inl ⟨by decide, by decide⟩, _, _, rfl, rfl, _, _, rfl, rfl, (by show (0 : Int) < 2147483549; decide), _, _, rfl, rfl, ?_⟩
    refine ⟨_, rfl, pen, _, 2, 2, rfl, rfl, upd_same, rfl, ?_⟩
    refine f2 _ _ _ _ But.refl.upd.upd.upd ⟨ns, i + 1, _, by rw [upd_same]; unfold penL; rw [Int.natCast_add]; rfl, by rw [upd_ne nsp, upd_ne nsp, upd_ne nsp]; exact hs, hl⟩
  refine ⟨_, (pss_cons (ps_if (pt_cmpR op_lt (pe_ix ix_list (pv 0) pe_int (fun _ _ => rfl)) (pv 1) (nomark _)) (pss_cons (ps_set (i := 2) sc_law_e_take.nd rfl (Or.inl rfl) (pe_ix ix_list (pv 0) pe_int (fun _ _ => rfl)))
    (pss_cons (ps_set (i := 3) sc_law_e_take.nd rfl (Or.inl rfl) pe_int)
    (pss_cons (ps_if (pt_cmpR op_lt (pv 2) (pe_callB call_len_seq (by rfl) b_len PySem.boot_len (pa_cons (pe_ix ix_list (pv 0) pe_int (fun _ _ => rfl)) pa_nil)) (nomark _)) (pss_one (ps_set (i := 3) sc_law_e_take.nd rfl (Or.inl rfl) (pe_ix ix_list (pe_ix ix_list (pv 0) pe_int (fun _ _ => rfl)) (pv 2) (fun _ _ => rfl)))) (pss_one (ps_if (pt_cmpR op_gt (pe_callB call_len_seq (by rfl) b_len PySem.boot_len (pa_cons (pe_ix ix_list (pv 0) pe_int (fun _ _ => rfl)) pa_nil)) pe_int (nomark _)) (pss_one (ps_set (i := 3) sc_law_e_take.nd rfl (Or.inl rfl) (pe_op op_mod (pe_ix ix_list (pe_ix ix_list (pv 0) pe_int (fun _ _ => rfl)) (pe_op op_mod (pe_op op_mul (pv 2) pe_int) (pe_callB call_len_seq (by rfl) b_len PySem.boot_len (pa_cons (pe_ix ix_list (pv 0) pe_int (fun _ _ => rfl)) pa_nil))) (fun _ _ => rfl)) pe_int))) pss_nil)))
    h3))) pss_nil)
    h2), ?_⟩
  refine ⟨_, rfl, pen, _, 2, _, rfl, rfl, sL h1, atI_nat (j := 2) rfl, _, rfl, _, _, rfl, rfl, _, rfl, ite2 (fun _ => ?_) (fun _ => f2 _ _ _ H .refl hp)⟩
  refine ⟨_, rfl, pen, _, 1, _, rfl, rfl, sL h1, atI_nat (j := 1) rfl, ?_⟩
  refine ⟨_, rfl, _, rfl, pen, _, 0, _, rfl, rfl, sL h1, atI_nat (j := 0) rfl, sp, _, rfl, .inl (sL hs), _, _, rfl, rfl, _, rfl, ?_⟩
  rw [List.length_map]
  refine ite2 (fun hlt => ?_) (fun hlt => ?_)
  · have hlt' : (i : Int) < (ns.length : Int) := of_decide_eq_true hlt
    obtain ⟨c, hc⟩ : ∃ c, ns[i]? = some c := ⟨_, List.getElem?_eq_getElem (by omega)⟩
    refine ⟨_, rfl, pen, _, 0, _, rfl, rfl, sL h1, atI_nat (j := 0) rfl, _, rfl, sp, _, _, _, rfl, rfl, sL hs, atI_nat (j := i) (v := V.int c) (by rw [List.getElem?_map, hc]; rfl), ?_⟩
    exact f3 _ (fun o2 o3 o4 H' b q => f2 o2 o3 o4 H' b q) c
  · refine ⟨_, rfl, pen, _, 0, _, rfl, rfl, sL h1, atI_nat (j := 0) rfl, sp, _, rfl, .inl (sL hs), _, _, rfl, rfl, _, rfl, ?_⟩
    rw [List.length_map]
    refine ite2 (fun hpos => ?_) (fun _ => f3 _ (fun o2 o3 o4 H' b q => f2 o2 o3 o4 H' b q) 0)
    have hpos' : (0 : Int) < (ns.length : Int) := of_decide_eq_true hpos
    obtain ⟨q1, q2⟩ := modLt ((i : Int) * 5) hpos'
    obtain ⟨j, hj⟩ : ∃ j : Nat, (i : Int) * 5 % (ns.length : Int) = (j : Int) := ⟨((i : Int) * 5 % (ns.length : Int)).toNat, by omega⟩
    obtain ⟨c, hc⟩ : ∃ c, ns[j]? = some c := ⟨_, List.getElem?_eq_getElem (by omega)⟩
    refine ⟨_, rfl, pen, _, 0, _, rfl, rfl, sL h1, atI_nat (j := 0) rfl, _, rfl, _, _, rfl, rfl, .inr ⟨by decide, by decide⟩, _, rfl, pen, _, 0, _, rfl, rfl, sL h1, atI_nat (j := 0) rfl, sp, _, rfl, .inl (sL hs), _, _, rfl, rfl, ?_⟩
    rw [List.length_map]
    refine ⟨hpos', sp, _, _, _, rfl, rfl, sL hs, at_of (j := j) (v := V.int c) hj (by rw [List.getElem?_map, hc]; rfl), _, _, rfl, rfl, (by show (0 : Int) < 1000000007; decide), ?_⟩
    exact f3 _ (fun o2 o3 o4 H' b q => f2 o2 o3 o4 H' b q) _
end
end Sw
set_option Elab.async false
set_option maxRecDepth 100000
set_option maxHeartbeats 8000000
namespace Sw
open PySem L2 PySem.Spec PyProof.Rows
theorem putKeys {kvs : List (Key × V)} {ks : List Str} {s : Str} {v : V} (h : kvs.map (·.1) = ks.map Sum.inr) : ∃ ks' : List Str, (putK kvs (.inr s) v).map (·.1) = ks'.map Sum.inr ∧ ks'.length ≤ ks.length + 1 ∧ ks' ≠ [] := by
  unfold putK
  split
  · rename_i hany
    refine ⟨ks, ?_, by omega, ?_⟩
    · rw [List.map_map, ← h]
      refine List.map_congr_left fun kv _ => ?_
      dsimp only [Function.comp]
      split <;> rfl
    · rintro rfl
      cases kvs with
      | nil => cases hany
      | cons a b => cases h
  · exact ⟨ks ++ [s], by rw [List.map_append, List.map_append, h]; rfl, by simp, by simp⟩
theorem lettersAt (s : Str) {k : Nat} (h : k < s.cps.toList.length) : ∃ c, atI s.cps.toList (k : Int) = some c := ⟨_, atI_nat (List.getElem?_eq_getElem h)⟩
section
variable {P : Program} {w : World} {K : PySem.W.Frag} {mg : Str → Option Value} {base : Heap}
abbrev n_law_e_signs : List Str := ["pen", "way", "letters", "found", "k", "word", "j"]
theorem sc_law_e_signs : FnScope n_law_e_signs ["pen"] (defScope s_law_e_signs) := ⟨rfl, rfl, rfl, by decide +kernel, rfl, by decide +kernel, by decide +kernel⟩
def spSigns : Sp := fun vs H Q _ => ∃ (pen sp : Addr), vs = [.ref pen] ∧ PenAt H pen sp ∧ ∀ H' sg (ss : List Str), But pen H H' → PenAt H' pen sp → H' sg = some (.lst (ss.map V.str)) → 0 < ss.length → ss.length ≤ 3 → Q (.ref sg) H'
theorem ok_law_e_signs (F : DefAt K mg "_law_e_signs" s_law_e_signs ["pen"]) (d__law_e_take : DefOk P w K mg base "_law_e_take" 1 ["pen", "many"] spTake) (b_range : mg "range" = none) (b_sorted : mg "sorted" = none) : DefOk P w K mg base "_law_e_signs" 2 ["pen"] spSigns := by
  refine F.ok sc_law_e_signs (fun vs H Q E h => ?_) (fun f cdv A outer s H vs Q E hr h => ?_)
  · obtain ⟨_, _, rfl, _⟩ := h
    rfl
  obtain ⟨pen, sp, rfl, hp, k⟩ := h
  have hu := hu_of hr
  refine ⟨_, (pss_cons (ps_set (i := 1) sc_law_e_signs.nd rfl (Or.inl rfl) (pe_callD d__law_e_take (hr.mono (by decide)) rfl (pa_cons (pv 0) (pa_cons pe_int pa_nil))))
    (pss_cons (ps_if (pt_cmpR op_lt (pv 1) pe_int (nomark _)) (pss_one (ps_ret (pe_ix ix_list (pe_lst (pa_cons (pe_lst (pa_cons pe_str (pa_cons pe_str pa_nil))) (pa_cons (pe_lst (pa_cons pe_str (pa_cons pe_str (pa_cons pe_str pa_nil)))) (pa_cons (pe_lst (pa_cons pe_str (pa_cons pe_str (pa_cons pe_str pa_nil)))) (pa_cons (pe_lst (pa_cons pe_str (pa_cons pe_str (pa_cons pe_str pa_nil)))) pa_nil))))) (pv 1) (fun _ _ => rfl)))) pss_nil)
    (pss_cons (ps_set (i := 2) sc_law_e_signs.nd rfl (Or.inr rfl) pe_str)
    (pss_cons (ps_set (i := 3) sc_law_e_signs.nd rfl (Or.inl rfl) pe_dnewK)
    (pss_cons (ps_for PassesOwn.never rfl (pi_range1 rfl b_range (pa_cons (pe_op op_add pe_int (pe_op op_mod (pv 1) pe_int)) pa_nil)) (pg_name (i := 4) sc_law_e_signs.nd rfl (Or.inl rfl))
      (pss_cons (ps_setLc (i := 5) (own := [("j", 6)]) (g := gName 6) rfl sc_law_e_signs.nd rfl rfl (sw_true rfl rfl rfl (by decide +kernel)) (pi_range1 rfl b_range (pa_cons (pe_op op_add pe_int (pe_callD d__law_e_take (hr.mono (by decide)) rfl (pa_cons (pv 0) (pa_cons pe_int pa_nil)))) pa_nil)) (blkOk_by (own := [("j", 6)]) (N := n_law_e_signs) (sc := defScope s_law_e_signs) (by decide +kernel)) (fun _ _ _ _ _ => (pg_name (i := 6) sc_law_e_signs.nd rfl (Or.inl rfl))) (fun _ _ _ _ _ => pts_nil) (fun _ _ _ _ _ => (pe_ix ix_str (pv 2) (pe_callD d__law_e_take (hr.mono (by decide)) rfl (pa_cons (pv 0) (pa_cons pe_int pa_nil))) (fun _ _ => rfl))))
    (pss_one (ps_dput hu (pv 3) (pe_join pe_str (pv 5)) pe_bl rfl))))
    (pss_one (ps_ret (pe_callB (call_sortedD rfl) (by rfl) b_sorted (by decide +kernel) (pa_cons (pv 3) pa_nil))))))))), ?_⟩
  refine ⟨_, rfl, pen, sp, 8, rfl, by decide, by decide, hp, fun H1 y hy b1 p1 => ?_⟩
  refine ⟨_, rfl, _, _, rfl, rfl, _, rfl, ite2 (fun hlt => ?_) (fun _ => ?_)⟩
  · have hy4 : y < 4 := by have := of_decide_eq_true hlt; omega
    refine ⟨(by show 2 ≤ sizeLine; decide), fun l1 n1 => ⟨(by show 3 ≤ sizeLine; decide), fun l2 n2 => ⟨(by show 3 ≤ sizeLine; decide), fun l3 n3 => ⟨(by show 3 ≤ sizeLine; decide), fun l4 n4 => ⟨(by show 4 ≤ sizeLine; decide), fun L nL => ?_⟩⟩⟩⟩⟩
    have q1 : Same H1 (upd H1 l1 (.lst [.str "a", .str "b"])) := .new n1
    have t1 : (upd H1 l1 (.lst [.str "a", .str "b"])) l1 = some (.lst [.str "a", .str "b"]) := upd_same
    generalize upd H1 l1 (.lst [.str "a", .str "b"]) = A1 at *
    have q2 : Same A1 (upd A1 l2 (.lst [.str "a", .str "ab", .str "b"])) := .new n2
    have t2 : (upd A1 l2 (.lst [.str "a", .str "ab", .str "b"])) l2 = some (.lst [.str "a", .str "ab", .str "b"]) := upd_same
    generalize upd A1 l2 (.lst [.str "a", .str "ab", .str "b"]) = A2 at *
    have q3 : Same A2 (upd A2 l3 (.lst [.str "b", .str "ba", .str "c"])) := .new n3
    have t3 : (upd A2 l3 (.lst [.str "b", .str "ba", .str "c"])) l3 = some (.lst [.str "b", .str "ba", .str "c"]) := upd_same
    generalize upd A2 l3 (.lst [.str "b", .str "ba", .str "c"]) = A3 at *
    have q4 : Same A3 (upd A3 l4 (.lst [.str "z", .str "zz", .str "zzzzzz"])) := .new n4
    have t4 : (upd A3 l4 (.lst [.str "z", .str "zz", .str "zzzzzz"])) l4 = some (.lst [.str "z", .str "zz", .str "zzzzzz"]) := upd_same
    generalize upd A3 l4 (.lst [.str "z", .str "zz", .str "zzzzzz"]) = A4 at *
    have q5 : Same A4 (upd A4 L (.lst [.ref l1, .ref l2, .ref l3, .ref l4])) := .new nL
    have tL : (upd A4 L (.lst [.ref l1, .ref l2, .ref l3, .ref l4])) L = some (.lst [.ref l1, .ref l2, .ref l3, .ref l4]) := upd_same
    generalize upd A4 L (.lst [.ref l1, .ref l2, .ref l3, .ref l4]) = A5 at *
    have q15 := ((((q1.trans q2).trans q3).trans q4).trans q5)
    have hall : ∀ m : Nat, m < 4 → ∃ (li : Addr) (ss : List Str), ([.ref l1, .ref l2, .ref l3, .ref l4] : List V)[m]? = some (.ref li) ∧ A5 li = some (.lst (ss.map V.str)) ∧ 0 < ss.length ∧ ss.length ≤ 3 := by
      intro m hm
      match m, hm with
      | 0, _ => exact ⟨l1, ["a", "b"], rfl, q5 _ _ (q4 _ _ (q3 _ _ (q2 _ _ t1))), by decide, by decide⟩
      | 1, _ => exact ⟨l2, ["a", "ab", "b"], rfl, q5 _ _ (q4 _ _ (q3 _ _ t2)), by decide, by decide⟩
      | 2, _ => exact ⟨l3, ["b", "ba", "c"], rfl, q5 _ _ (q4 _ _ t3), by decide, by decide⟩
      | 3, _ => exact ⟨l4, ["z", "zz", "zzzzzz"], rfl, q5 _ _ t4, by decide, by decide⟩
    obtain ⟨li, ss, e1, e2, e3, e4⟩ := hall y hy4
    refine ⟨_, rfl, L, _, _, _, rfl, rfl, sL tL, atI_nat (j := y) e1, ?_⟩
    exact k A5 li ss (b1.trans (.of q15)) (p1.same q15) e2 e3 e4
  · intro d nd
    obtain ⟨r1, r2⟩ := modLt (y : Int) (m := 2) (by decide)
    refine ⟨_, rfl, _, _, rfl, rfl, (by show (0 : Int) < 2; decide), _, _, rfl, rfl, _, rfl, by omega, by omega, ?_⟩
    have hn1 : 0 < (2 + (y : Int) % 2).toNat ∧ (2 + (y : Int) % 2).toNat ≤ 3 := by omega
    refine for_range (lo := 0) (n := (2 + (y : Int) % 2).toNat) (fun i σ H' => ∃ (kvs : List (Key × V)) (ks : List Str) (o4 o5 : Option V), σ = [some (.ref pen), some (.int (y : Int)), some (.str "abcdefghijklmnopqrstuvwxyz"), some (.ref d), o4, o5, none] ∧ But pen H1 H' ∧ PenAt H' pen sp ∧ H' d = some (.dK kvs) ∧ kvs.map (·.1) = ks.map Sum.inr ∧ ks.length ≤ i ∧ (0 < i → ks ≠ []))
      ⟨[], [], none, none, rfl, .of (.new nd), p1.same (.new nd), upd_same, rfl, Nat.zero_le _, fun h => absurd h (by omega)⟩ ?_ ?_
    · rintro i σ H2 hi ⟨kvs, ks, o4, o5, rfl, b2, p2, hd, hk, hl, _⟩
      refine ⟨_, rfl, pen, sp, 6, rfl, by decide, by decide, p2, fun H3 u hu6 b3 p3 => ⟨_, _, rfl, rfl, _, rfl, by omega, by omega, fun D hD => ?_⟩⟩
      have nd' : d ≠ pen := by
        obtain ⟨_, _, _, x1, _⟩ := p2
        rintro rfl
        rw [x1] at hd
        cases hd
      have hd3 := b3 _ _ hd nd'
      have hm : (1 + (u : Int)).toNat ≤ 6 := by omega
      refine lc_range (lo := 0) (n := (1 + (u : Int)).toNat) (fun i H' => ∃ ws : List Str, But pen H3 H' ∧ PenAt H' pen sp ∧ H' D = some (.lst (ws.map V.str)) ∧ ws.length = i ∧ ∀ x, x ∈ ws → x.length = 1)
        ⟨[], .of (.new hD), p3.same (.new hD), upd_same, rfl, fun x h => by cases h⟩ ?_ ?_
      · rintro j H4 hj ⟨ws, b4, p4, hw, hwl, hw1⟩
        refine ⟨rfl, ?_⟩
        refine ⟨_, rfl, _, rfl, pen, sp, 26, rfl, by decide, by decide, p4, fun H5 c hc b5 p5 => ?_⟩
        obtain ⟨ch, hch⟩ := lettersAt "abcdefghijklmnopqrstuvwxyz" (k := c) hc
        refine ⟨_, _, ch, rfl, rfl, by decide +kernel, hch, ?_⟩
        have hw5 := p4.strs b5 hw
        refine ⟨_, hw5, szb (by rw [List.length_map]; omega), ws ++ [⟨#[ch]⟩], butW (b4.trans b5) hD, p5.w p3 hD, by rw [upd_same, List.map_append]; rfl, by rw [List.length_append, hwl]; rfl, ?_⟩
        intro x hx
        rcases List.mem_append.mp hx with hx | hx
        · exact hw1 x hx
        · rw [List.mem_singleton.mp hx]; rfl
      · rintro H4 ⟨ws, b4, p4, hw, hwl, hw1⟩
        have hd4 := b4 _ _ hd3 nd'
        have hsum : (ws.map (·.length)).sum = ws.length := by
          clear hw hwl
          induction ws with
          | nil => rfl
          | cons a l ih => rw [List.map_cons, List.sum_cons, ih (fun x hx => hw1 x (List.mem_cons_of_mem _ hx)), hw1 a List.mem_cons_self, List.length_cons]; omega
        refine ⟨_, rfl, ⟨_, rfl⟩, _, rfl, "", D, ws, rfl, rfl, .inl (sL hw), ?_, d, _, rfl, DPut.k (k := .inr _) hd4 (szb (by have := congrArg List.length hk; rw [List.length_map, List.length_map] at this; omega)), ?_⟩
        · rw [hsum]
          have : ("" : Str).length = 0 := rfl
          rw [this]
          omega
        · obtain ⟨ks', g1, g2, g3⟩ := putKeys (s := Txt.join "" ws) (v := V.bl true) hk
          have nl : ∀ l, (HO.dK kvs) ≠ .lst l := fun l e => by cases e
          obtain ⟨ns, ii, z, x1, x2, x3⟩ := id p4
          have nsd : sp ≠ d := by rintro rfl; rw [hd4] at x2; cases x2
          refine ⟨_, ks', _, _, rfl, ?_, ⟨ns, ii, z, by rw [upd_ne nd'.symm]; exact x1, by rw [upd_ne nsd]; exact x2, x3⟩, upd_same, g1, by omega, fun _ => g3⟩
          exact butW (b2.trans (b3.trans b4)) nd
    · rintro σ H2 ⟨kvs, ks, o4, o5, rfl, b2, p2, hd, hk, hl, hne⟩
      refine ⟨_, rfl, d, kvs, ks, rfl, .inl hd, hk, by omega, fun ys p hperm _ hp' => ?_⟩
      have hlen := hperm.length_eq
      have hpos : 0 < ks.length := by
        cases ks with
        | nil => exact absurd rfl (hne hn1.1)
        | cons a b => simp
      exact k _ p ys (b1.trans (b2.trans (.of (.new hp')))) (p2.same (.new hp')) upd_same (by omega) (by omega)
end
end Sw
set_option Elab.async false
set_option maxRecDepth 100000
set_option maxHeartbeats 8000000
namespace Sw
open PySem L2 PySem.Spec PyProof.Rows
/-! ### machines -/
abbrev Stp := Str × Nat
abbrev Rm := Bool × List Stp
def stD (p : Stp) : PyData := .tuple [.str p.1, .int (p.2 : Int)]
def rmD (r : Rm) : PyData := .tuple [.bool r.1, .tuple (r.2.map stD)]
def maD (M : List Rm) : PyData := .tuple (M.map rmD)
theorem noL_st (p : Stp) : noL (stD p) = true := by simp [stD, noL, noLs]
theorem noLs_st : ∀ l : List Stp, noLs (l.map stD) = true
  | [] => by simp [noLs]
  | p :: l => by rw [List.map_cons, noLs, noL_st, noLs_st l]; rfl
theorem noL_rm (r : Rm) : noL (rmD r) = true := by simp [rmD, noL, noLs, noLs_st]
theorem noLs_rm : ∀ l : List Rm, noLs (l.map rmD) = true
  | [] => by simp [noLs]
  | p :: l => by rw [List.map_cons, noLs, noL_rm, noLs_rm l]; rfl
theorem noL_ma (M : List Rm) : noL (maD M) = true := by rw [maD, noL]; exact noLs_rm M
/-- steps lead to rooms -/
def MOk (n : Nat) (M : List Rm) : Prop := ∀ r, r ∈ M → r.2.length ≤ 3 ∧ ∀ p, p ∈ r.2 → p.2 < n
theorem dpsW {K : PySem.W.Frag} {H : Hp} {R : Addr} {xs : List V} {o : HO} (h : H R = some (.lst xs)) {vs : List V} {ds : List PyData} (n : noLs ds = true) (hd : DpAll K H vs ds) : DpAll K (upd H R o) vs ds := dpAllSameT (fun _ _ q => sqTW h q) ds vs n hd
theorem dpW {K : PySem.W.Frag} {H : Hp} {R : Addr} {xs : List V} {o : HO} (h : H R = some (.lst xs)) {v : V} {d : PyData} (n : noL d = true) (hd : Dp K H v d) : Dp K (upd H R o) v d := dpSameT (fun _ _ q => sqTW h q) d v n hd
section
variable {P : Program} {w : World} {K : PySem.W.Frag} {mg : Str → Option Value} {base : Heap}
abbrev n_law_e_machine : List Str := ["pen", "signs", "most", "many", "rooms", "k", "along", "led", "at"]
theorem sc_law_e_machine : FnScope n_law_e_machine ["pen", "signs", "most"] (defScope s_law_e_machine) := ⟨rfl, rfl, rfl, by decide +kernel, rfl, by decide +kernel, by decide +kernel⟩
def spMachine (K : PySem.W.Frag) : Sp := fun vs H Q _ => ∃ (pen sp sg : Addr) (ss : List Str) (m : Nat), vs = [.ref pen, .ref sg, .int (m : Int)] ∧ 0 < m ∧ m ≤ 900 ∧ PenAt H pen sp ∧ H sg = some (.lst (ss.map V.str)) ∧ 0 < ss.length ∧ ss.length ≤ 3 ∧
  ∀ H' v M, But pen H H' → PenAt H' pen sp → Dp K H' v (maD M) → 0 < M.length → M.length ≤ m → MOk M.length M → Q v H'
theorem ok_law_e_machine (F : DefAt K mg "_law_e_machine" s_law_e_machine ["pen", "signs", "most"]) (d__law_e_take : DefOk P w K mg base "_law_e_take" 1 ["pen", "many"] spTake) (b_len : mg "len" = none) (b_range : mg "range" = none) (b_tuple : mg "tuple" = none) : DefOk P w K mg base "_law_e_machine" 2 ["pen", "signs", "most"] (spMachine K) := by
  refine F.ok sc_law_e_machine (fun vs H Q E h => ?_) (fun f cdv A outer s H vs Q E hr h => ?_)
  · obtain ⟨_, _, _, _, _, rfl, _⟩ := h
    rfl
  obtain ⟨pen, sp, sg, ss, m, rfl, hm0, hm1, hp, hsg, hs0, hs3, k⟩ := h
  refine ⟨_, (pss_cons (ps_set (i := 3) sc_law_e_machine.nd rfl (Or.inl rfl) (pe_op op_add pe_int (pe_callD d__law_e_take (hr.mono (by decide)) rfl (pa_cons (pv 0) (pa_cons (pv 2) pa_nil)))))
    (pss_cons (ps_set (i := 4) sc_law_e_machine.nd rfl (Or.inl rfl) (pe_lst pa_nil))
    (pss_cons (ps_for PassesOwn.never rfl (pi_range1 rfl b_range (pa_cons (pv 3) pa_nil)) (pg_name (i := 5) sc_law_e_machine.nd rfl (Or.inl rfl))
      (pss_cons (ps_set (i := 6) sc_law_e_machine.nd rfl (Or.inl rfl) (pe_callD d__law_e_take (hr.mono (by decide)) rfl (pa_cons (pv 0) (pa_cons (pe_callB call_len_seq (by rfl) b_len PySem.boot_len (pa_cons (pv 1) pa_nil)) pa_nil))))
    (pss_cons (ps_set (i := 7) sc_law_e_machine.nd rfl (Or.inl rfl) (pe_lst pa_nil))
    (pss_cons (ps_for PassesOwn.never rfl (pi_range1 rfl b_range (pa_cons (pe_callB call_len_seq (by rfl) b_len PySem.boot_len (pa_cons (pv 1) pa_nil)) pa_nil)) (pg_name (i := 8) sc_law_e_machine.nd rfl (Or.inl rfl))
      (pss_one (ps_if (PW.pt (pw_and (pt_cmpR op_eq (pv 8) (pv 6) (nomark _)) (pw_and1 (pt_cmpR op_lt (pe_op op_add (pv 5) pe_int) (pv 3) (nomark _))))) (pss_one (ps_expr (pe_bm PySem.F.plainAttrs_list PySem.F.slot_list_append PySem.F.type_list_append mt_append (pv 7) (pa_cons (pe_tup (pa_cons (pe_ix ix_list (pv 1) (pv 8) (fun _ _ => rfl)) (pa_cons (pe_op op_add (pv 5) pe_int) pa_nil))) pa_nil)))) (pss_one (ps_if (pt_cmpR op_eq (pe_callD d__law_e_take (hr.mono (by decide)) rfl (pa_cons (pv 0) (pa_cons pe_int pa_nil))) pe_int (nomark _)) (pss_one (ps_expr (pe_bm PySem.F.plainAttrs_list PySem.F.slot_list_append PySem.F.type_list_append mt_append (pv 7) (pa_cons (pe_tup (pa_cons (pe_ix ix_list (pv 1) (pv 8) (fun _ _ => rfl)) (pa_cons (pe_callD d__law_e_take (hr.mono (by decide)) rfl (pa_cons (pv 0) (pa_cons (pv 3) pa_nil))) pa_nil))) pa_nil)))) pss_nil)))))
    (pss_one (ps_expr (pe_bm PySem.F.plainAttrs_list PySem.F.slot_list_append PySem.F.type_list_append mt_append (pv 4) (pa_cons (pe_tup (pa_cons (pe_or (pe_cmpR op_eq (pe_op op_add (pv 5) pe_int) (pv 3) (nomark _)) (pe_one (pe_cmpR op_eq (pe_callD d__law_e_take (hr.mono (by decide)) rfl (pa_cons (pv 0) (pa_cons pe_int pa_nil))) pe_int (nomark _)))) (pa_cons (pe_callTy call_tuple_of (by rfl) b_tuple (by decide +kernel) (pa_cons (pv 7) pa_nil)) pa_nil))) pa_nil))))))))
    (pss_one (ps_ret (pe_callTy call_tuple_of (by rfl) b_tuple (by decide +kernel) (pa_cons (pv 4) pa_nil))))))), ?_⟩
  refine ⟨_, rfl, _, rfl, pen, sp, m, rfl, hm0, by omega, hp, fun H1 y hy b1 p1 => ?_⟩
  have hsg1 := hp.strs b1 hsg
  refine ⟨_, _, rfl, rfl, (by show 0 ≤ sizeLine; decide), fun R nR => ?_⟩
  have nRp : R ≠ pen := by
    obtain ⟨_, _, _, x1, _⟩ := p1
    exact (ne_of_none x1 nR).symm
  refine ⟨_, rfl, _, rfl, by omega, by omega, ?_⟩
  have emany : (1 + (y : Int)) = ((y + 1 : Nat) : Int) := by omega
  refine for_range (lo := 0) (n := (1 + (y : Int)).toNat) (fun i σ H' => ∃ (rs : List V) (M : List Rm) (o5 o6 o7 o8 : Option V), σ = [some (.ref pen), some (.ref sg), some (.int (m : Int)), some (.int (1 + (y : Int))), some (.ref R), o5, o6, o7, o8] ∧ But pen H1 H' ∧ PenAt H' pen sp ∧ H' R = some (.lst rs) ∧ DpAll K H' rs (M.map rmD) ∧ M.length = i ∧ MOk (y + 1) M)
    ⟨[], [], none, none, none, none, rfl, .of (.new nR), p1.same (.new nR), upd_same, .nil, rfl, fun r h => by cases h⟩ ?_ ?_
  · rintro i σ H2 hi ⟨rs, M, o5, o6, o7, o8, rfl, b2, p2, hR, hrs, hMl, hMo⟩
    have hi' : i < y + 1 := by omega
    have hsg2 := p1.strs b2 hsg1
    refine ⟨_, rfl, _, rfl, sg, _, rfl, .inl (sL hsg2), ?_⟩
    refine ⟨pen, sp, ss.length, by rw [List.length_map]; rfl, hs0, by omega, p2, fun H3 along hal b3 p3 => ⟨(by show 0 ≤ sizeLine; decide), fun D nD => ?_⟩⟩
    have hR3 := b3 _ _ hR nRp
    have hrs3 := p2.dps b3 (noLs_rm M) hrs
    have hsg3 := p2.strs b3 hsg2
    have nDp : D ≠ pen := by
      obtain ⟨_, _, _, x1, _⟩ := p3
      exact (ne_of_none x1 nD).symm
    have nDR : D ≠ R := (ne_of_none hR3 nD).symm
    have sD : Same H3 (upd H3 D (.lst [])) := .new nD
    refine ⟨_, rfl, sg, _, rfl, .inl (sL (sD _ _ hsg3)), _, rfl, by omega, by rw [List.length_map]; omega, ?_⟩
    refine for_range (lo := 0) (n := ((List.map V.str ss).length : Int).toNat) (fun j σ H' => ∃ (ls : List V) (L : List Stp) (o8 : Option V), σ = [some (.ref pen), some (.ref sg), some (.int (m : Int)), some (.int (1 + (y : Int))), some (.ref R), some (.int (0 + (i : Int))), some (.int (along : Int)), some (.ref D), o8] ∧ But pen H3 H' ∧ PenAt H' pen sp ∧ H' D = some (.lst ls) ∧ DpAll K H' ls (L.map stD) ∧ L.length ≤ j ∧ ∀ p, p ∈ L → p.2 < y + 1)
      ⟨[], [], o8, rfl, .of sD, p3.same sD, upd_same, .nil, Nat.le_refl _, fun r h => by cases h⟩ ?_ ?_
    · rintro j σ H4 hj ⟨ls, L, o8, rfl, b4, p4, hD, hls, hLl, hLo⟩
      rw [List.length_map, Int.toNat_natCast] at hj
      have hsg4 := p3.strs b4 hsg3
      obtain ⟨x, hx⟩ : ∃ x, ss[j]? = some x := ⟨_, List.getElem?_eq_getElem hj⟩
      have hx' : (ss.map V.str)[j]? = some (V.str x) := by rw [List.getElem?_map, hx]; rfl
      -- one more step
      have one : ∀ (H5 : Hp) (t : Addr) (n : Nat), n < y + 1 → But pen H4 H5 → PenAt H5 pen sp → H5 t = none → ∃ (ls' : List V) (L' : List Stp) (o8 : Option V), ([some (.ref pen), some (.ref sg), some (.int (m : Int)), some (.int (1 + (y : Int))), some (.ref R), some (.int (0 + (i : Int))), some (.int (along : Int)), some (.ref D), some (.int (0 + (j : Int)))] : L2.St) = [some (.ref pen), some (.ref sg), some (.int (m : Int)), some (.int (1 + (y : Int))), some (.ref R), some (.int (0 + (i : Int))), some (.int (along : Int)), some (.ref D), o8] ∧ But pen H3 (upd (upd H5 t (.tup [.str x, .int (n : Int)])) D (.lst (ls ++ [.ref t]))) ∧ PenAt (upd (upd H5 t (.tup [.str x, .int (n : Int)])) D (.lst (ls ++ [.ref t]))) pen sp ∧ (upd (upd H5 t (.tup [.str x, .int (n : Int)])) D (.lst (ls ++ [.ref t]))) D = some (.lst ls') ∧ DpAll K (upd (upd H5 t (.tup [.str x, .int (n : Int)])) D (.lst (ls ++ [.ref t]))) ls' (L'.map stD) ∧ L'.length ≤ j + 1 ∧ ∀ p, p ∈ L' → p.2 < y + 1 := by
        intro H5 t n hn b5 p5 nt
        have s6 : Same H5 (upd H5 t (.tup [.str x, .int (n : Int)])) := .new nt
        have b46 : But pen H4 (upd H5 t (.tup [.str x, .int (n : Int)])) := b5.trans (.of s6)
        have hD6 := b46 _ _ hD nDp
        have hls6 := p4.dps b46 (noLs_st L) hls
        refine ⟨ls ++ [.ref t], L ++ [(x, n)], some (.int (0 + (j : Int))), rfl, butW (b4.trans b46) nD, (p5.same s6).w p3 nD, upd_same, ?_, by rw [List.length_append, List.length_singleton]; omega, fun p hp => ?_⟩
        · rw [List.map_append]
          refine dpsApp (dpsW hD6 (noLs_st L) hls6) (.cons ?_ .nil)
          exact .tup (sqTW hD6 (sT upd_same)) (.cons (.str _) (.cons (.int _) .nil))
        · rcases List.mem_append.mp hp with hp | hp
          · exact hLo p hp
          · rw [List.mem_singleton.mp hp]; exact hn
      have hlsl : ls.length ≤ j := by rw [dpsLen hls, List.length_map]; exact hLl
      have take1 : ∀ (H4' : Hp) (T : Prop), T → T := fun _ _ h => h
      refine ⟨_, rfl, _, rfl, rfl, _, rfl, ite2 (fun _ => ?_) (fun _ => iteF ?_)⟩
      · refine ⟨_, rfl, _, _, rfl, rfl, _, rfl, _, _, rfl, rfl, _, rfl, ite2 (fun hlt => ?_) (fun _ => ?_)⟩
        · refine ⟨_, rfl, .inl ⟨rfl, _, sL hD⟩, ?_⟩
          refine ⟨_, rfl, _, rfl, sg, _, _, _, rfl, rfl, sL hsg4, at_of (j := j) (by omega) hx', _, rfl, _, _, rfl, rfl, (by show 2 ≤ sizeLine; decide), fun t nt => ?_⟩
          have hlt' := of_decide_eq_true hlt
          have hD5 := (Same.new (o := .tup [.str x, .int ((0 + (i : Int)) + 1)]) nt) _ _ hD
          refine ⟨D, ls, _, rfl, rfl, hD5, szb (by omega), ?_⟩
          have := one H4 t (i + 1) (by omega) .refl p4 nt
          rw [show (((i + 1 : Nat) : Int)) = 0 + (i : Int) + 1 by omega] at this
          exact this
        · refine ⟨_, rfl, pen, sp, 3, rfl, by decide, by decide, p4, fun H5 z hz b5 p5 => ⟨rfl, _, rfl, ite2 (fun _ => ?_) (fun _ => ?_)⟩⟩
          · refine ⟨_, rfl, .inl ⟨rfl, _, sL (b5 _ _ hD nDp)⟩, ?_⟩
            refine ⟨_, rfl, _, rfl, sg, _, _, _, rfl, rfl, sL (p4.strs b5 hsg4), at_of (j := j) (by omega) hx', _, rfl, _, rfl, pen, sp, y + 1, by rw [emany]; rfl, by omega, by omega, p5, fun H6 q hq b6 p6 => ⟨(by show 2 ≤ sizeLine; decide), fun t nt => ?_⟩⟩
            refine ⟨D, ls, _, rfl, rfl, Same.new nt _ _ ((b5.trans b6) _ _ hD nDp), szb (by omega), ?_⟩
            exact one H6 t q hq (b5.trans b6) p6 nt
          · exact ⟨ls, L, _, rfl, b4.trans b5, p5, b5 _ _ hD nDp, p4.dps b5 (noLs_st L) hls, by omega, hLo⟩
      · refine ⟨_, rfl, pen, sp, 3, rfl, by decide, by decide, p4, fun H5 z hz b5 p5 => ⟨rfl, _, rfl, ite2 (fun _ => ?_) (fun _ => ?_)⟩⟩
        · refine ⟨_, rfl, .inl ⟨rfl, _, sL (b5 _ _ hD nDp)⟩, ?_⟩
          refine ⟨_, rfl, _, rfl, sg, _, _, _, rfl, rfl, sL (p4.strs b5 hsg4), at_of (j := j) (by omega) hx', _, rfl, _, rfl, pen, sp, y + 1, by rw [emany]; rfl, by omega, by omega, p5, fun H6 q hq b6 p6 => ⟨(by show 2 ≤ sizeLine; decide), fun t nt => ?_⟩⟩
          refine ⟨D, ls, _, rfl, rfl, Same.new nt _ _ ((b5.trans b6) _ _ hD nDp), szb (by omega), ?_⟩
          exact one H6 t q hq (b5.trans b6) p6 nt
        · exact ⟨ls, L, _, rfl, b4.trans b5, p5, b5 _ _ hD nDp, p4.dps b5 (noLs_st L) hls, by omega, hLo⟩
    · rintro σ H4 ⟨ls, L, o8, rfl, b4, p4, hD, hls, hLl, hLo⟩
      have hR4 := b4 _ _ hR3 nRp
      -- one more room
      have one : ∀ (H5 : Hp) (l t : Addr) (bb : Bool), But pen H4 H5 → PenAt H5 pen sp → H5 l = none → (upd H5 l (.tup ls)) t = none → ∃ (rs' : List V) (M' : List Rm) (o5 o6 o7 o8' : Option V), ([some (.ref pen), some (.ref sg), some (.int (m : Int)), some (.int (1 + (y : Int))), some (.ref R), some (.int (0 + (i : Int))), some (.int (along : Int)), some (.ref D), o8] : L2.St) = [some (.ref pen), some (.ref sg), some (.int (m : Int)), some (.int (1 + (y : Int))), some (.ref R), o5, o6, o7, o8'] ∧
          But pen H1 (upd (upd (upd H5 l (.tup ls)) t (.tup [.bl bb, .ref l])) R (.lst (rs ++ [.ref t]))) ∧ PenAt (upd (upd (upd H5 l (.tup ls)) t (.tup [.bl bb, .ref l])) R (.lst (rs ++ [.ref t]))) pen sp ∧ (upd (upd (upd H5 l (.tup ls)) t (.tup [.bl bb, .ref l])) R (.lst (rs ++ [.ref t]))) R = some (.lst rs') ∧ DpAll K (upd (upd (upd H5 l (.tup ls)) t (.tup [.bl bb, .ref l])) R (.lst (rs ++ [.ref t]))) rs' (M'.map rmD) ∧ M'.length = i + 1 ∧ MOk (y + 1) M' := by
        intro H5 l t bb b5 p5 nl nt
        have s6 : Same H5 (upd H5 l (.tup ls)) := .new nl
        have s7 : Same (upd H5 l (.tup ls)) (upd (upd H5 l (.tup ls)) t (.tup [.bl bb, .ref l])) := .new nt
        have b47 : But pen H4 (upd (upd H5 l (.tup ls)) t (.tup [.bl bb, .ref l])) := b5.trans (.of (s6.trans s7))
        have b37 := b4.trans b47
        have hR7 := b37 _ _ hR3 nRp
        have hls5 := p4.dps b5 (noLs_st L) hls
        refine ⟨rs ++ [.ref t], M ++ [(bb, L)], _, _, _, _, rfl, butW ((b2.trans b3).trans b37) nR, (p5.same (s6.trans s7)).w p1 nR, upd_same, ?_, by rw [List.length_append, List.length_singleton, hMl], fun r hr => ?_⟩
        · rw [List.map_append]
          refine dpsApp (dpsW hR7 (noLs_rm M) (p3.dps b37 (noLs_rm M) hrs3)) (.cons ?_ .nil)
          refine .tup (sqTW hR7 (sT upd_same)) (.cons (.bl _) (.cons ?_ .nil))
          exact dpW hR7 (by rw [noL]; exact noLs_st L) (dpS s7 (.tup (sT upd_same) (dpsS s6 hls5)))
        · rcases List.mem_append.mp hr with hr | hr
          · exact hMo r hr
          · rw [List.mem_singleton.mp hr]; exact ⟨by rw [List.length_map, Int.toNat_natCast] at hLl; show L.length ≤ 3; omega, hLo⟩
      have hrl : rs.length = i := by rw [dpsLen hrs, List.length_map, hMl]
      refine ⟨_, rfl, .inl ⟨rfl, _, sL hR4⟩, ?_⟩
      refine ⟨_, rfl, _, _, rfl, rfl, _, rfl, rfl, _, rfl, ite2 (fun _ => ?_) (fun _ => ?_)⟩
      · refine ⟨_, rfl, D, ls, rfl, .inl ⟨sL hD, fun l nl => ⟨(by show 2 ≤ sizeLine; decide), fun t nt => ?_⟩⟩⟩
        refine ⟨R, rs, _, rfl, rfl, Same.new nt _ _ (Same.new nl _ _ hR4), szb (by omega), ?_⟩
        exact one H4 l t _ .refl p4 nl nt
      · refine ⟨_, rfl, pen, sp, 3, rfl, by decide, by decide, p4, fun H5 z hz b5 p5 => ⟨rfl, ?_⟩⟩
        refine ⟨_, rfl, D, ls, rfl, .inl ⟨sL (b5 _ _ hD nDp), fun l nl => ⟨(by show 2 ≤ sizeLine; decide), fun t nt => ?_⟩⟩⟩
        refine ⟨R, rs, _, rfl, rfl, Same.new nt _ _ (Same.new nl _ _ (b5 _ _ hR4 nRp)), szb (by omega), ?_⟩
        exact one H5 l t _ b5 p5 nl nt
  · rintro σ H2 ⟨rs, M, o5, o6, o7, o8, rfl, b2, p2, hR, hrs, hMl, hMo⟩
    have hMl' : M.length = y + 1 := by omega
    refine ⟨_, rfl, R, rs, rfl, .inl ⟨sL hR, fun l nl => ?_⟩⟩
    refine k _ (.ref l) M (b1.trans (b2.trans (.of (.new nl)))) (p2.same (.new nl)) (.tup (sT upd_same) (dpsS (.new nl) hrs)) (by omega) (by omega) (by rw [hMl']; exact hMo)
end
end Sw
set_option Elab.async false
set_option maxRecDepth 100000
set_option maxHeartbeats 8000000
namespace Sw
open PySem L2 PySem.Spec PyProof.Rows
/-- where steps by a sign lead -/
def ledM (L : List Stp) (s : Str) : List Nat := (L.filter fun p => decide (p.1 = s)).map (·.2)
/-- whether a machine takes a row from a room on -/
def goM (M : List Rm) : Nat → List Str → Bool
  | h, [] => (M.getD h (false, [])).1
  | h, s :: r => match ledM (M.getD h (false, [])).2 s with
    | [] => false
    | n :: _ => goM M n r
theorem ledM_app (L L' : List Stp) (s : Str) : ledM (L ++ L') s = ledM L s ++ ledM L' s := by unfold ledM; rw [List.filter_append, List.map_append]
theorem ledM_len (L : List Stp) (s : Str) : (ledM L s).length ≤ L.length := by unfold ledM; rw [List.length_map]; exact List.length_filter_le _ _
theorem ledM_one {p : Stp} {s : Str} (h : p.1 = s) : ledM [p] s = [p.2] := by unfold ledM; rw [List.filter_cons_of_pos (by simpa using h)]; rfl
theorem ledM_none {p : Stp} {s : Str} (h : ¬ p.1 = s) : ledM [p] s = [] := by unfold ledM; rw [List.filter_cons_of_neg (by simpa using h)]; rfl
theorem drop_at {α : Type} {l : List α} {i : Nat} {x : α} (h : l[i]? = some x) : l.drop i = x :: l.drop (i + 1) := by
  obtain ⟨h1, h2⟩ := List.getElem?_eq_some_iff.mp h
  rw [List.drop_eq_getElem_cons h1, h2]
theorem dpNats {K : PySem.W.Frag} {H : Hp} : ∀ l : List Nat, DpAll K H (l.map fun n : Nat => V.int (n : Int)) (l.map fun n : Nat => PyData.int (n : Int))
  | [] => .nil
  | x :: l => .cons (.int _) (dpNats l)
theorem layNats : ∀ l : List Nat, PyData.canLayAll0 (l.map fun n : Nat => PyData.int (n : Int)) = true
  | [] => rfl
  | x :: l => by
    simp only [List.map_cons, PyData.canLayAll0, PyData.canLay0]
    rw [layNats l]
    rfl
theorem depthNats : ∀ l : List Nat, PyData.depthAll (l.map fun n : Nat => PyData.int (n : Int)) = 0
  | [] => rfl
  | x :: l => by simp [PyData.depthAll, PyData.depth, depthNats l]
theorem shNats (l : List Nat) : SeqAt.shaped (.list (l.map fun n : Nat => PyData.int (n : Int))) = true := by
  unfold SeqAt.shaped
  rw [PyData.canLay0, layNats l, PyData.depth, depthNats]
  rfl
theorem stAt {K : PySem.W.Frag} {H : Hp} {v : V} {p : Stp} (h : Dp K H v (stD p)) : ∃ a, v = .ref a ∧ SqT K H a [.str p.1, .int (p.2 : Int)] := by
  obtain ⟨a, xs, rfl, h1, h2⟩ := dpTup h
  obtain ⟨x, us, rfl, e, h3⟩ := dpCons h2
  cases dpStr e
  obtain ⟨y, us, rfl, e, h4⟩ := dpCons h3
  cases dpInt e
  cases dpNil h4
  exact ⟨a, rfl, h1⟩
theorem rmAt {K : PySem.W.Frag} {H : Hp} {v : V} {r : Rm} (h : Dp K H v (rmD r)) : ∃ a b ls, v = .ref a ∧ SqT K H a [.bl r.1, .ref b] ∧ SqT K H b ls ∧ DpAll K H ls (r.2.map stD) := by
  obtain ⟨a, xs, rfl, h1, h2⟩ := dpTup h
  obtain ⟨x, us, rfl, e, h3⟩ := dpCons h2
  cases e
  obtain ⟨y, us, rfl, e, h4⟩ := dpCons h3
  obtain ⟨b, ls, rfl, h5, h6⟩ := dpTup e
  cases dpNil h4
  exact ⟨a, b, ls, rfl, h1, h5, h6⟩
section
variable {P : Program} {w : World} {K : PySem.W.Frag} {mg : Str → Option Value} {base : Heap}
def spGo (K : PySem.W.Frag) : Sp := fun vs H Q _ => ∃ (v : V) (M : List Rm) (rv : Addr) (r : List Str), vs = [v, .ref rv] ∧ Dp K H v (maD M) ∧ 0 < M.length ∧ MOk M.length M ∧ SqT K H rv (r.map V.str) ∧ ∀ H', Same H H' → Q (.bl (goM M 0 r)) H'

abbrev n_runs : List Str := ["machine", "row", "at", "sign", "led_to", "by", "behind"]
theorem sc_runs : FnScope n_runs ["machine", "row"] (defScope s_runs) := ⟨rfl, rfl, rfl, by decide +kernel, rfl, by decide +kernel, by decide +kernel⟩
theorem ok_runs (F : DefAt K mg "runs" s_runs ["machine", "row"]) : DefOk P w K mg base "runs" 1 ["machine", "row"] (spGo K) := by
  refine F.ok sc_runs (fun vs H Q E h => ?_) (fun f cdv A outer s H vs Q E hr h => ?_)
  · obtain ⟨_, _, _, _, rfl, _⟩ := h
    rfl
  obtain ⟨v, M, rv, r, rfl, hM, h0, hMo, hrow, k⟩ := h
  obtain ⟨ma, rs, rfl, hma, hrs⟩ := dpTup hM
  refine ⟨_, (pss_cons (ps_set (i := 2) sc_runs.nd rfl (Or.inl rfl) pe_int)
    (pss_cons (ps_for PassesOwn.never rfl (pi_tup (pv 1)) (pg_name (i := 3) sc_runs.nd rfl (Or.inr rfl))
      (pss_cons (ps_setLc (i := 4) (own := [("by", 5), ("behind", 6)]) (g := gTup K 2 (gCons (gName 5) (gCons (gName 6) gNil))) rfl sc_runs.nd rfl rfl (sw_true rfl rfl rfl (by decide +kernel)) (pi_tup (pe_ix ix_tup (pe_ix ix_tup (pv 0) (pv 2) (fun _ _ => rfl)) pe_int (fun _ _ => rfl))) (blkOk_by (own := [("by", 5), ("behind", 6)]) (N := n_runs) (sc := defScope s_runs) (by decide +kernel)) (fun _ _ _ _ _ => (pg_tup rfl (pgs_cons (pg_name (i := 5) sc_runs.nd rfl (Or.inl rfl)) (pgs_cons (pg_name (i := 6) sc_runs.nd rfl (Or.inl rfl)) pgs_nil)))) (fun _ _ _ _ _ => (pts_one (pt_cmpR op_eq (pv 5) (pv 3) (nomark _)))) (fun _ _ _ _ _ => (pv 6)))
    (pss_cons (ps_if (pt_not (pt_truth (pv 4) (by intro _; rfl))) (pss_one (ps_ret pe_bl)) pss_nil)
    (pss_one (ps_set (i := 2) sc_runs.nd rfl (Or.inl rfl) (pe_ix ix_list (pv 4) pe_int (fun _ _ => rfl)))))))
    (pss_one (ps_ret (pe_ix ix_tup (pe_ix ix_tup (pv 0) (pv 2) (fun _ _ => rfl)) pe_int (fun _ _ => rfl)))))), ?_⟩
  refine ⟨_, rfl, rv, rfl, ⟨_, hrow⟩, ?_⟩
  refine for_tup (K := K) (a := rv) (xs := r.map V.str) (fun i σ H' => ∃ (here : Nat) (o3 o4 : Option V), σ = [some (.ref ma), some (.ref rv), some (.int (here : Int)), o3, o4, none, none] ∧ Same H H' ∧ here < M.length ∧ goM M here (r.drop i) = goM M 0 r)
    ⟨0, none, none, rfl, Same.refl _, h0, rfl⟩ (fun i σ H' _ ⟨_, _, _, _, g, _⟩ => g.sqT hrow) ?_ ?_
  · rintro i v σ H1 hv ⟨here, o3, o4, rfl, g1, hh, hgo⟩
    rw [List.getElem?_map] at hv
    obtain ⟨sg, hsg, rfl⟩ : ∃ sg, r[i]? = some sg ∧ v = V.str sg := by
      cases e : r[i]? with
      | none => rw [e] at hv; cases hv
      | some sg => rw [e] at hv; exact ⟨sg, rfl, (Option.some.inj hv).symm⟩
    rw [drop_at hsg] at hgo
    obtain ⟨rm, hrm⟩ : ∃ rm, M[here]? = some rm := ⟨_, List.getElem?_eq_getElem hh⟩
    obtain ⟨u, hu1, hu2⟩ := dpsAt (dpsS g1 hrs) (i := here) (d := rmD rm) (by rw [List.getElem?_map, hrm]; rfl)
    obtain ⟨ra, rb, ls, rfl, hra, hb, hls⟩ := rmAt hu2
    have hMr := hMo rm (List.mem_of_getElem? hrm)
    refine ⟨_, rfl, _, rfl, ma, _, _, _, rfl, rfl, g1.sqT hma, atI_nat (j := here) hu1, ra, _, 1, _, rfl, rfl, hra, atI_nat (j := 1) rfl, rb, rfl, ⟨_, hb⟩, fun D nD => ?_⟩
    refine lc_tup (K := K) (a := rb) (xs := ls) (fun j H' => Same H1 H' ∧ H' D = some (.lst ((ledM (rm.2.take j) sg).map fun n : Nat => V.int (n : Int))))
      ⟨.new nD, upd_same⟩ (fun j H' _ ⟨g, _⟩ => g.sqT hb) ?_ ?_
    · rintro j v H2 hv ⟨g2, hD⟩
      obtain ⟨d, hd1, hd2⟩ := dpsAtV hls hv
      rw [List.getElem?_map] at hd1
      obtain ⟨p, hp, rfl⟩ : ∃ p, rm.2[j]? = some p ∧ d = stD p := by
        cases e : rm.2[j]? with
        | none => rw [e] at hd1; cases hd1
        | some p => rw [e] at hd1; exact ⟨p, rfl, (Option.some.inj hd1).symm⟩
      obtain ⟨pa, rfl, hpa⟩ := stAt (dpS g2 hd2)
      refine ⟨pa, _, rfl, hpa, rfl, _, _, rfl, _, _, rfl, rfl, rfl, ?_⟩
      refine ⟨_, rfl, _, rfl, rfl, _, rfl, ?_⟩
      rw [take_snoc hp, ledM_app]
      by_cases he : p.1 = sg
      · rw [show decide (V.str p.1 = V.str sg) = true from decide_eq_true (by rw [he])]
        refine iteT ?_
        refine ⟨_, rfl, _, hD, szb (by rw [List.length_map]; exact Nat.le_trans (ledM_len _ _) (by rw [List.length_take]; omega)), g2.mut nD, ?_⟩
        rw [upd_same, List.map_append, ledM_one he]
        rfl
      · rw [show decide (V.str p.1 = V.str sg) = false from decide_eq_false fun e => he (V.str.inj e)]
        refine iteF ?_
        rw [ledM_none he, List.append_nil]
        exact ⟨g2, hD⟩
    · rintro H2 ⟨g2, hD⟩
      rw [dpsLen hls, List.length_map, List.take_length] at hD
      cases hl : ledM rm.2 sg with
      | nil =>
        rw [hl] at hD
        have hres : goM M 0 r = false := by
          rw [← hgo, goM, List.getD_eq_getElem?_getD, hrm]
          show (match ledM rm.2 sg with | [] => false | n :: _ => goM M n (r.drop (i + 1))) = false
          rw [hl]
        refine ⟨_, rfl, _, .inl ⟨_, sL hD, rfl⟩, iteT ?_⟩
        rw [← hres]
        exact k H2 (g1.trans g2)
      | cons n ns =>
        rw [hl] at hD
        have hn : n < M.length := by
          have : n ∈ ledM rm.2 sg := by rw [hl]; exact List.mem_cons_self
          obtain ⟨p, hp, rfl⟩ := List.mem_map.mp this
          exact hMr.2 p (List.mem_filter.mp hp).1
        have hstep : goM M n (r.drop (i + 1)) = goM M 0 r := by
          rw [← hgo, goM, List.getD_eq_getElem?_getD, hrm]
          show _ = (match ledM rm.2 sg with | [] => false | n :: _ => goM M n (r.drop (i + 1)))
          rw [hl]
        refine ⟨_, rfl, _, .inl ⟨_, sL hD, rfl⟩, iteF ?_⟩
        refine ⟨_, rfl, D, _, 0, _, rfl, rfl, sL hD, atI_nat (j := 0) rfl, ?_⟩
        exact ⟨n, _, _, rfl, g1.trans g2, hn, hstep⟩
  · rintro σ H1 ⟨here, o3, o4, rfl, g1, hh, hgo⟩
    rw [List.length_map, List.drop_length, goM] at hgo
    obtain ⟨rm, hrm⟩ : ∃ rm, M[here]? = some rm := ⟨_, List.getElem?_eq_getElem hh⟩
    obtain ⟨u, hu1, hu2⟩ := dpsAt (dpsS g1 hrs) (i := here) (d := rmD rm) (by rw [List.getElem?_map, hrm]; rfl)
    obtain ⟨ra, rb, ls, rfl, hra, hb, hls⟩ := rmAt hu2
    rw [List.getD_eq_getElem?_getD, hrm] at hgo
    refine ⟨_, rfl, _, rfl, ma, _, _, _, rfl, rfl, g1.sqT hma, atI_nat (j := here) hu1, ra, _, 0, _, rfl, rfl, hra, atI_nat (j := 0) rfl, ?_⟩
    rw [show rm.1 = goM M 0 r from hgo]
    exact k H1 g1

abbrev n_law_e_goes : List Str := ["machine", "row", "here", "sign", "there", "other", "number"]
theorem sc_law_e_goes : FnScope n_law_e_goes ["machine", "row"] (defScope s_law_e_goes) := ⟨rfl, rfl, rfl, by decide +kernel, rfl, by decide +kernel, by decide +kernel⟩
theorem ok_law_e_goes (F : DefAt K mg "_law_e_goes" s_law_e_goes ["machine", "row"]) : DefOk P w K mg base "_law_e_goes" 1 ["machine", "row"] (spGo K) := by
  refine F.ok sc_law_e_goes (fun vs H Q E h => ?_) (fun f cdv A outer s H vs Q E hr h => ?_)
  · obtain ⟨_, _, _, _, rfl, _⟩ := h
    rfl
  obtain ⟨v, M, rv, r, rfl, hM, h0, hMo, hrow, k⟩ := h
  obtain ⟨ma, rs, rfl, hma, hrs⟩ := dpTup hM
  refine ⟨_, (pss_cons (ps_set (i := 2) sc_law_e_goes.nd rfl (Or.inl rfl) pe_int)
    (pss_cons (ps_for PassesOwn.never rfl (pi_tup (pv 1)) (pg_name (i := 3) sc_law_e_goes.nd rfl (Or.inr rfl))
      (pss_cons (ps_setLc (i := 4) (own := [("other", 5), ("number", 6)]) (g := gTup K 2 (gCons (gName 5) (gCons (gName 6) gNil))) rfl sc_law_e_goes.nd rfl rfl (sw_true rfl rfl rfl (by decide +kernel)) (pi_tup (pe_ix ix_tup (pe_ix ix_tup (pv 0) (pv 2) (fun _ _ => rfl)) pe_int (fun _ _ => rfl))) (blkOk_by (own := [("other", 5), ("number", 6)]) (N := n_law_e_goes) (sc := defScope s_law_e_goes) (by decide +kernel)) (fun _ _ _ _ _ => (pg_tup rfl (pgs_cons (pg_name (i := 5) sc_law_e_goes.nd rfl (Or.inl rfl)) (pgs_cons (pg_name (i := 6) sc_law_e_goes.nd rfl (Or.inl rfl)) pgs_nil)))) (fun _ _ _ _ _ => (pts_one (pt_cmpR op_eq (pv 5) (pv 3) (nomark _)))) (fun _ _ _ _ _ => (pv 6)))
    (pss_cons (ps_if (pt_cmpR (op_eqD hr.units) (pv 4) (pe_lst pa_nil) (nomark _)) (pss_one (ps_ret pe_bl)) pss_nil)
    (pss_one (ps_set (i := 2) sc_law_e_goes.nd rfl (Or.inl rfl) (pe_ix ix_list (pv 4) pe_int (fun _ _ => rfl)))))))
    (pss_one (ps_ret (pe_ix ix_tup (pe_ix ix_tup (pv 0) (pv 2) (fun _ _ => rfl)) pe_int (fun _ _ => rfl)))))), ?_⟩
  refine ⟨_, rfl, rv, rfl, ⟨_, hrow⟩, ?_⟩
  refine for_tup (K := K) (a := rv) (xs := r.map V.str) (fun i σ H' => ∃ (here : Nat) (o3 o4 : Option V), σ = [some (.ref ma), some (.ref rv), some (.int (here : Int)), o3, o4, none, none] ∧ Same H H' ∧ here < M.length ∧ goM M here (r.drop i) = goM M 0 r)
    ⟨0, none, none, rfl, Same.refl _, h0, rfl⟩ (fun i σ H' _ ⟨_, _, _, _, g, _⟩ => g.sqT hrow) ?_ ?_
  · rintro i v σ H1 hv ⟨here, o3, o4, rfl, g1, hh, hgo⟩
    rw [List.getElem?_map] at hv
    obtain ⟨sg, hsg, rfl⟩ : ∃ sg, r[i]? = some sg ∧ v = V.str sg := by
      cases e : r[i]? with
      | none => rw [e] at hv; cases hv
      | some sg => rw [e] at hv; exact ⟨sg, rfl, (Option.some.inj hv).symm⟩
    rw [drop_at hsg] at hgo
    obtain ⟨rm, hrm⟩ : ∃ rm, M[here]? = some rm := ⟨_, List.getElem?_eq_getElem hh⟩
    obtain ⟨u, hu1, hu2⟩ := dpsAt (dpsS g1 hrs) (i := here) (d := rmD rm) (by rw [List.getElem?_map, hrm]; rfl)
    obtain ⟨ra, rb, ls, rfl, hra, hb, hls⟩ := rmAt hu2
    have hMr := hMo rm (List.mem_of_getElem? hrm)
    refine ⟨_, rfl, _, rfl, ma, _, _, _, rfl, rfl, g1.sqT hma, atI_nat (j := here) hu1, ra, _, 1, _, rfl, rfl, hra, atI_nat (j := 1) rfl, rb, rfl, ⟨_, hb⟩, fun D nD => ?_⟩
    refine lc_tup (K := K) (a := rb) (xs := ls) (fun j H' => Same H1 H' ∧ H' D = some (.lst ((ledM (rm.2.take j) sg).map fun n : Nat => V.int (n : Int))))
      ⟨.new nD, upd_same⟩ (fun j H' _ ⟨g, _⟩ => g.sqT hb) ?_ ?_
    · rintro j v H2 hv ⟨g2, hD⟩
      obtain ⟨d, hd1, hd2⟩ := dpsAtV hls hv
      rw [List.getElem?_map] at hd1
      obtain ⟨p, hp, rfl⟩ : ∃ p, rm.2[j]? = some p ∧ d = stD p := by
        cases e : rm.2[j]? with
        | none => rw [e] at hd1; cases hd1
        | some p => rw [e] at hd1; exact ⟨p, rfl, (Option.some.inj hd1).symm⟩
      obtain ⟨pa, rfl, hpa⟩ := stAt (dpS g2 hd2)
      refine ⟨pa, _, rfl, hpa, rfl, _, _, rfl, _, _, rfl, rfl, rfl, ?_⟩
      refine ⟨_, rfl, _, rfl, rfl, _, rfl, ?_⟩
      rw [take_snoc hp, ledM_app]
      by_cases he : p.1 = sg
      · rw [show decide (V.str p.1 = V.str sg) = true from decide_eq_true (by rw [he])]
        refine iteT ?_
        refine ⟨_, rfl, _, hD, szb (by rw [List.length_map]; exact Nat.le_trans (ledM_len _ _) (by rw [List.length_take]; omega)), g2.mut nD, ?_⟩
        rw [upd_same, List.map_append, ledM_one he]
        rfl
      · rw [show decide (V.str p.1 = V.str sg) = false from decide_eq_false fun e => he (V.str.inj e)]
        refine iteF ?_
        rw [ledM_none he, List.append_nil]
        exact ⟨g2, hD⟩
    · rintro H2 ⟨g2, hD⟩
      rw [dpsLen hls, List.length_map, List.take_length] at hD
      cases hl : ledM rm.2 sg with
      | nil =>
        rw [hl] at hD
        have hres : goM M 0 r = false := by
          rw [← hgo, goM, List.getD_eq_getElem?_getD, hrm]
          show (match ledM rm.2 sg with | [] => false | n :: _ => goM M n (r.drop (i + 1))) = false
          rw [hl]
        refine ⟨_, rfl, (by show 0 ≤ sizeLine; decide), fun e ne => ?_⟩
        have se : Same H2 (upd H2 e (.lst [])) := .new ne
        refine ⟨.list [], .list [], .lst (sL (se _ _ hD)) .nil, .lst (sL upd_same) .nil, rfl, rfl, _, rfl, iteT ?_⟩
        rw [← hres]
        exact k _ ((g1.trans g2).trans se)
      | cons n ns =>
        rw [hl] at hD
        have hn : n < M.length := by
          have : n ∈ ledM rm.2 sg := by rw [hl]; exact List.mem_cons_self
          obtain ⟨p, hp, rfl⟩ := List.mem_map.mp this
          exact hMr.2 p (List.mem_filter.mp hp).1
        have hstep : goM M n (r.drop (i + 1)) = goM M 0 r := by
          rw [← hgo, goM, List.getD_eq_getElem?_getD, hrm]
          show _ = (match ledM rm.2 sg with | [] => false | n :: _ => goM M n (r.drop (i + 1)))
          rw [hl]
        refine ⟨_, rfl, (by show 0 ≤ sizeLine; decide), fun e ne => ?_⟩
        have se : Same H2 (upd H2 e (.lst [])) := .new ne
        refine ⟨.list ((n :: ns).map fun n : Nat => PyData.int (n : Int)), .list [], .lst (sL (se _ _ hD)) (dpNats _), .lst (sL upd_same) .nil, shNats _, rfl, _, rfl, iteF ?_⟩
        refine ⟨_, rfl, D, _, 0, _, rfl, rfl, sL (se _ _ hD), atI_nat (j := 0) rfl, ?_⟩
        exact ⟨n, _, _, rfl, (g1.trans g2).trans se, hn, hstep⟩
  · rintro σ H1 ⟨here, o3, o4, rfl, g1, hh, hgo⟩
    rw [List.length_map, List.drop_length, goM] at hgo
    obtain ⟨rm, hrm⟩ : ∃ rm, M[here]? = some rm := ⟨_, List.getElem?_eq_getElem hh⟩
    obtain ⟨u, hu1, hu2⟩ := dpsAt (dpsS g1 hrs) (i := here) (d := rmD rm) (by rw [List.getElem?_map, hrm]; rfl)
    obtain ⟨ra, rb, ls, rfl, hra, hb, hls⟩ := rmAt hu2
    rw [List.getD_eq_getElem?_getD, hrm] at hgo
    refine ⟨_, rfl, _, rfl, ma, _, _, _, rfl, rfl, g1.sqT hma, atI_nat (j := here) hu1, ra, _, 0, _, rfl, rfl, hra, atI_nat (j := 0) rfl, ?_⟩
    rw [show rm.1 = goM M 0 r from hgo]
    exact k H1 g1
end
end Sw
set_option Elab.async false
set_option maxRecDepth 100000
set_option maxHeartbeats 8000000
namespace Sw
open PySem L2 PySem.Spec PyProof.Rows
def rLenQ (K : PySem.W.Frag) : List V → Hp → VK → Prop := fun xs H Q => ∃ p ys, xs = [V.ref p] ∧ (SqL K H p ys ∨ SqT K H p ys) ∧ Q (V.int ys.length) H
section
variable {P : Program} {w : World} {K : PySem.W.Frag} {mg : Str → Option Value} {base : Heap}
abbrev n_law_e_row : List Str := ["pen", "signs", "most", "k"]
theorem sc_law_e_row : FnScope n_law_e_row ["pen", "signs", "most"] (defScope s_law_e_row) := ⟨rfl, rfl, rfl, by decide +kernel, rfl, by decide +kernel, by decide +kernel⟩
def spRow (K : PySem.W.Frag) : Sp := fun vs H Q _ => ∃ (pen sp sg : Addr) (ss : List Str) (m : Nat), vs = [.ref pen, .ref sg, .int (m : Int)] ∧ m ≤ 100 ∧ PenAt H pen sp ∧ H sg = some (.lst (ss.map V.str)) ∧ 0 < ss.length ∧ ss.length ≤ 10 ∧
  ∀ H' q (r : List Str), But pen H H' → PenAt H' pen sp → SqT K H' q (r.map V.str) → r.length ≤ m → Q (.ref q) H'
theorem ok_law_e_row (F : DefAt K mg "_law_e_row" s_law_e_row ["pen", "signs", "most"]) (d__law_e_take : DefOk P w K mg base "_law_e_take" 1 ["pen", "many"] spTake) (b_len : mg "len" = none) (b_range : mg "range" = none) (b_tuple : mg "tuple" = none) : DefOk P w K mg base "_law_e_row" 2 ["pen", "signs", "most"] (spRow K) := by
  refine F.ok sc_law_e_row (fun vs H Q E h => ?_) (fun f cdv A outer s H vs Q E hr h => ?_)
  · obtain ⟨_, _, _, _, _, rfl, _⟩ := h
    rfl
  obtain ⟨pen, sp, sg, ss, m, rfl, hm, hp, hsg, hs0, hs1, k⟩ := h
  refine ⟨_, (pss_one (ps_ret (pe_callTy call_tuple_of (by rfl) b_tuple (by decide +kernel) (pa_cons (pe_lc (own := [("k", 3)]) (g := gName 3) rfl sc_law_e_row.nd (pi_range1 rfl b_range (pa_cons (pe_callD d__law_e_take (hr.mono (by decide)) rfl (pa_cons (pv 0) (pa_cons (pe_op op_add (pv 2) pe_int) pa_nil))) pa_nil)) (blkOk_by (own := [("k", 3)]) (N := n_law_e_row) (sc := defScope s_law_e_row) (by decide +kernel)) (fun _ _ _ _ _ => (pg_name (i := 3) sc_law_e_row.nd rfl (Or.inl rfl))) (fun _ _ _ _ _ => pts_nil) (fun _ _ _ _ _ => (pe_ix (r := rIxL K) ix_list (pv 1) (pe_callD d__law_e_take (hr.mono (by decide)) rfl (pa_cons (pv 0) (pa_cons (pe_callB (r := rLenQ K) call_len_seq (by rfl) b_len PySem.boot_len (pa_cons (pv 1) pa_nil)) pa_nil))) (fun _ _ => rfl)))) pa_nil)))), ?_⟩
  refine ⟨_, rfl, _, rfl, _, _, rfl, rfl, pen, sp, m + 1, rfl, by omega, by omega, hp, fun H1 n hn b1 p1 => ⟨_, rfl, by omega, by omega, fun D nD => ?_⟩⟩
  have hsg1 := hp.strs b1 hsg
  refine lc_range (lo := 0) (n := (n : Int).toNat) (fun i H' => ∃ r : List Str, But pen H1 H' ∧ PenAt H' pen sp ∧ H' D = some (.lst (r.map V.str)) ∧ r.length = i)
    ⟨[], .of (.new nD), p1.same (.new nD), upd_same, rfl⟩ ?_ ?_
  · rintro j H4 hj ⟨ws, b4, p4, hw, hwl⟩
    rw [Int.toNat_natCast] at hj
    have hsg4 := p1.strs b4 hsg1
    refine ⟨rfl, ?_⟩
    refine ⟨_, rfl, _, rfl, _, rfl, sg, _, rfl, .inl (sL hsg4), ?_⟩
    refine ⟨pen, sp, ss.length, by rw [List.length_map]; rfl, hs0, by omega, p4, fun H5 c hc b5 p5 => ?_⟩
    obtain ⟨x, hx⟩ : ∃ x, ss[c]? = some x := ⟨_, List.getElem?_eq_getElem hc⟩
    refine ⟨sg, _, _, _, rfl, rfl, sL (p4.strs b5 hsg4), atI_nat (j := c) (v := V.str x) (by rw [List.getElem?_map, hx]; rfl), ?_⟩
    have hw5 := p4.strs b5 hw
    exact ⟨_, hw5, szb (by rw [List.length_map]; omega), ws ++ [x], butW (b4.trans b5) nD, p5.w p1 nD, by rw [upd_same, List.map_append]; rfl, by rw [List.length_append, hwl]; rfl⟩
  · rintro H4 ⟨ws, b4, p4, hw, hwl⟩
    rw [Int.toNat_natCast] at hwl
    refine ⟨D, _, rfl, .inl ⟨sL hw, fun l nl => ?_⟩⟩
    exact k _ l ws (b1.trans (b4.trans (.of (.new nl)))) (p4.same (.new nl)) (sT upd_same) (by omega)
abbrev n_law_e_along : List Str := ["pen", "machine", "most", "here", "found", "turn", "led", "sign"]
theorem sc_law_e_along : FnScope n_law_e_along ["pen", "machine", "most"] (defScope s_law_e_along) := ⟨rfl, rfl, rfl, by decide +kernel, rfl, by decide +kernel, by decide +kernel⟩
def spAlong (K : PySem.W.Frag) : Sp := fun vs H Q _ => ∃ (pen sp : Addr) (v : V) (M : List Rm) (m : Nat), vs = [.ref pen, v, .int (m : Int)] ∧ m ≤ 100 ∧ PenAt H pen sp ∧ Dp K H v (maD M) ∧ 0 < M.length ∧ MOk M.length M ∧
  ∀ H' q (r : List Str), But pen H H' → PenAt H' pen sp → SqT K H' q (r.map V.str) → r.length ≤ m → Q (.ref q) H'
theorem ok_law_e_along (F : DefAt K mg "_law_e_along" s_law_e_along ["pen", "machine", "most"]) (d__law_e_take : DefOk P w K mg base "_law_e_take" 1 ["pen", "many"] spTake) (b_len : mg "len" = none) (b_range : mg "range" = none) : DefOk P w K mg base "_law_e_along" 2 ["pen", "machine", "most"] (spAlong K) := by
  refine F.ok sc_law_e_along (fun vs H Q E h => ?_) (fun f cdv A outer s H vs Q E hr h => ?_)
  · obtain ⟨_, _, _, _, _, rfl, _⟩ := h
    rfl
  obtain ⟨pen, sp, v, M, m, rfl, hm, hp, hM, h0, hMo, k⟩ := h
  obtain ⟨ma, rs, rfl, hma, hrs⟩ := dpTup hM
  refine ⟨_, (pss_cons (ps_set (i := 3) sc_law_e_along.nd rfl (Or.inl rfl) pe_int)
    (pss_cons (ps_set (i := 4) sc_law_e_along.nd rfl (Or.inl rfl) (pe_tup pa_nil))
    (pss_cons (ps_for PassesOwn.never rfl (pi_range1 rfl b_range (pa_cons (pe_callD d__law_e_take (hr.mono (by decide)) rfl (pa_cons (pv 0) (pa_cons (pe_op op_add (pv 2) pe_int) pa_nil))) pa_nil)) (pg_name (i := 5) sc_law_e_along.nd rfl (Or.inl rfl))
      (pss_cons (ps_set (i := 6) sc_law_e_along.nd rfl (Or.inl rfl) (pe_ix ix_tup (pe_ix ix_tup (pv 1) (pv 3) (fun _ _ => rfl)) pe_int (fun _ _ => rfl)))
    (pss_one (ps_if (pt_cmpR op_gt (pe_callB call_len_seq (by rfl) b_len PySem.boot_len (pa_cons (pv 6) pa_nil)) pe_int (nomark _)) (pss_cons (ps_asg (pe_ix ix_tup (pv 6) (pe_callD d__law_e_take (hr.mono (by decide)) rfl (pa_cons (pv 0) (pa_cons (pe_callB call_len_seq (by rfl) b_len PySem.boot_len (pa_cons (pv 6) pa_nil)) pa_nil))) (fun _ _ => rfl)) (pg_tup rfl (pgs_cons (pg_name (i := 7) sc_law_e_along.nd rfl (Or.inl rfl)) (pgs_cons (pg_name (i := 3) sc_law_e_along.nd rfl (Or.inl rfl)) pgs_nil))))
    (pss_one (ps_set (i := 4) sc_law_e_along.nd rfl (Or.inl rfl) (pe_op op_catA (pv 4) (pe_tup (pa_cons (pv 7) pa_nil)))))) pss_nil))))
    (pss_one (ps_ret (pv 4)))))), ?_⟩
  refine ⟨(by show 0 ≤ sizeLine; decide), fun e ne => ?_⟩
  have se : Same H (upd H e (.tup [])) := .new ne
  refine ⟨_, rfl, _, rfl, _, _, rfl, rfl, pen, sp, m + 1, rfl, by omega, by omega, hp.same se, fun H1 n hn b1 p1 => ⟨_, rfl, by omega, by omega, ?_⟩⟩
  have be : But pen H H1 := (But.of se).trans b1
  refine for_range (lo := 0) (n := (n : Int).toNat) (fun i σ H' => ∃ (here : Nat) (fa : Addr) (r : List Str) (o5 o6 o7 : Option V), σ = [some (.ref pen), some (.ref ma), some (.int (m : Int)), some (.int (here : Int)), some (.ref fa), o5, o6, o7] ∧ But pen H1 H' ∧ PenAt H' pen sp ∧ here < M.length ∧ SqT K H' fa (r.map V.str) ∧ r.length ≤ i)
    ⟨0, e, [], none, none, none, rfl, .refl, p1, h0, (hp.same se).sqT b1 (sT upd_same), Nat.le_refl _⟩ ?_ ?_
  · rintro i σ H2 hi ⟨here, fa, r, o5, o6, o7, rfl, b2, p2, hh, hfa, hrl⟩
    rw [Int.toNat_natCast] at hi
    obtain ⟨rm, hrm⟩ : ∃ rm, M[here]? = some rm := ⟨_, List.getElem?_eq_getElem hh⟩
    have b02 := be.trans b2
    obtain ⟨u, hu1, hu2⟩ := dpsAt (hp.dps b02 (noLs_rm M) hrs) (i := here) (d := rmD rm) (by rw [List.getElem?_map, hrm]; rfl)
    obtain ⟨ra, rb, ls, rfl, hra, hb, hls⟩ := rmAt hu2
    have hMr := hMo rm (List.mem_of_getElem? hrm)
    have hll : ls.length = rm.2.length := by rw [dpsLen hls, List.length_map]
    refine ⟨_, rfl, _, rfl, ma, _, _, _, rfl, rfl, hp.sqT b02 hma, atI_nat (j := here) hu1, ra, _, 1, _, rfl, rfl, hra, atI_nat (j := 1) rfl, ?_⟩
    refine ⟨_, rfl, rb, _, rfl, .inr hb, _, _, rfl, rfl, _, rfl, ite2 (fun hpos => ?_) (fun _ => ?_)⟩
    · have hpos' := of_decide_eq_true hpos
      refine ⟨_, rfl, _, rfl, _, rfl, rb, _, rfl, .inr hb, ?_⟩
      refine ⟨pen, sp, ls.length, rfl, by omega, by omega, p2, fun H3 c hc b3 p3 => ?_⟩
      obtain ⟨y, hy⟩ : ∃ y, ls[c]? = some y := ⟨_, List.getElem?_eq_getElem hc⟩
      obtain ⟨d, hd1, hd2⟩ := dpsAtV hls hy
      rw [List.getElem?_map] at hd1
      obtain ⟨p, hpp, rfl⟩ : ∃ p, rm.2[c]? = some p ∧ d = stD p := by
        cases e : rm.2[c]? with
        | none => rw [e] at hd1; cases hd1
        | some p => rw [e] at hd1; exact ⟨p, rfl, (Option.some.inj hd1).symm⟩
      obtain ⟨pa, rfl, hpa⟩ := stAt (p2.dp b3 (noL_st p) hd2)
      refine ⟨rb, _, _, _, rfl, rfl, p2.sqT b3 hb, atI_nat (j := c) hy, ?_⟩
      refine ⟨pa, _, rfl, hpa, rfl, _, _, rfl, _, _, rfl, rfl, ?_⟩
      refine ⟨_, rfl, _, rfl, (by show 1 ≤ sizeLine; decide), fun t nt => ?_⟩
      have st : Same H3 (upd H3 t (.tup [.str p.1])) := .new nt
      refine catA (xs := r.map V.str) (ys := ([p.1] : List Str).map V.str) (st.sqT (p2.sqT b3 hfa)) (sT upd_same) (by rw [List.length_map, List.length_map, List.length_singleton]; exact szl (by omega)) fun H5 q5 s5 hq5 => ?_
      rw [← List.map_append] at hq5
      exact ⟨p.2, q5, r ++ [p.1], _, _, _, rfl, (b2.trans b3).trans (.of (st.trans s5)), p3.same (st.trans s5), hMr.2 p (List.mem_of_getElem? hpp), hq5, by rw [List.length_append, List.length_singleton]; omega⟩
    · exact ⟨here, fa, r, _, _, _, rfl, b2, p2, hh, hfa, by omega⟩
  · rintro σ H2 ⟨here, fa, r, o5, o6, o7, rfl, b2, p2, hh, hfa, hrl⟩
    rw [Int.toNat_natCast] at hrl
    exact ⟨_, rfl, k _ fa r (be.trans b2) p2 hfa (by omega)⟩
end
end Sw
set_option Elab.async false
set_option maxRecDepth 100000
set_option maxHeartbeats 8000000
namespace Sw
open PySem L2 PySem.Spec PyProof.Rows
/-- a list of rows -/
def RowsP (K : PySem.W.Frag) (H : Hp) (as : List Addr) : Prop := ∀ a, a ∈ as → ∃ r : List Str, SqT K H a (r.map V.str)
theorem RowsP.same {K : PySem.W.Frag} {H H' : Hp} {as : List Addr} (h : RowsP K H as) (s : Same H H') : RowsP K H' as := fun a ha => by
  obtain ⟨r, h1⟩ := h a ha
  exact ⟨r, s.sqT h1⟩
theorem RowsP.pen {K : PySem.W.Frag} {H H' : Hp} {pen sp : Addr} {as : List Addr} (h : RowsP K H as) (p : PenAt H pen sp) (b : But pen H H') : RowsP K H' as := fun a ha => by
  obtain ⟨r, h1⟩ := h a ha
  exact ⟨r, p.sqT b h1⟩
theorem neB {x : Bool} : ¬ ((!decide (V.bl x = V.bl x)) = true) := by
  rw [decide_eq_true rfl]
  decide
section
variable {P : Program} {w : World} {K : PySem.W.Frag} {mg : Str → Option Value} {base : Heap}
abbrev n_law : List Str := ["script", "pen", "turn", "signs", "machine", "rows", "one", "found"]
theorem sc_law : FnScope n_law ["script"] (defScope s_law) := ⟨rfl, rfl, rfl, by decide +kernel, rfl, by decide +kernel, by decide +kernel⟩
def spLaw (K : PySem.W.Frag) : Sp := fun vs H Q _ => ∃ (a : Addr) (ns : List Int), vs = [.ref a] ∧ SqL K H a (ns.map V.int) ∧ ns.length ≤ 63 ∧ ∀ H', Q (.bl true) H'
theorem ok_law {f : Addr} {fd : FuncData} (F : Fun K "law" "law" s_law f fd) (d__law_e_pen : DefOk P w K mg base "_law_e_pen" 1 ["script"] (spPen K)) (d__law_e_take : DefOk P w K mg base "_law_e_take" 1 ["pen", "many"] spTake) (d__law_e_signs : DefOk P w K mg base "_law_e_signs" 2 ["pen"] spSigns)
    (d__law_e_machine : DefOk P w K mg base "_law_e_machine" 2 ["pen", "signs", "most"] (spMachine K)) (d__law_e_row : DefOk P w K mg base "_law_e_row" 2 ["pen", "signs", "most"] (spRow K)) (d__law_e_along : DefOk P w K mg base "_law_e_along" 2 ["pen", "machine", "most"] (spAlong K))
    (d_runs : DefOk P w K mg base "runs" 1 ["machine", "row"] (spGo K)) (d__law_e_goes : DefOk P w K mg base "_law_e_goes" 1 ["machine", "row"] (spGo K))
    (b_len : mg "len" = none) (b_range : mg "range" = none) (b_isinstance : mg "isinstance" = none) (b_bool : mg "bool" = none) : FnOk P w K mg base CX0 3 f fd ["script"] (spLaw K) := by
  refine F.ok sc_law (fun vs H Q E h => ?_) (fun cdv A outer s H vs Q E hr h => ?_)
  · obtain ⟨_, _, rfl, _⟩ := h
    rfl
  obtain ⟨a, ns, rfl, hS, hlen, k⟩ := h
  refine ⟨_, (pss_cons (ps_set (i := 1) sc_law.nd rfl (Or.inl rfl) (pe_callD d__law_e_pen (hr.mono (by decide)) rfl (pa_cons (pv 0) pa_nil)))
    (pss_cons (ps_for PassesOwn.never rfl (pi_range1 rfl b_range (pa_cons pe_int pa_nil)) (pg_name (i := 2) sc_law.nd rfl (Or.inl rfl))
      (pss_cons (ps_set (i := 3) sc_law.nd rfl (Or.inl rfl) (pe_callD d__law_e_signs (hr.mono (by decide)) rfl (pa_cons (pv 1) pa_nil)))
    (pss_cons (ps_set (i := 4) sc_law.nd rfl (Or.inl rfl) (pe_callD d__law_e_machine (hr.mono (by decide)) rfl (pa_cons (pv 1) (pa_cons (pv 3) (pa_cons pe_int pa_nil)))))
    (pss_cons (ps_set (i := 5) sc_law.nd rfl (Or.inl rfl) (pe_lst (pa_cons (pe_tup pa_nil) (pa_cons (pe_callD d__law_e_along (hr.mono (by decide)) rfl (pa_cons (pv 1) (pa_cons (pv 4) (pa_cons pe_int pa_nil)))) (pa_cons (pe_callD d__law_e_along (hr.mono (by decide)) rfl (pa_cons (pv 1) (pa_cons (pv 4) (pa_cons pe_int pa_nil)))) (pa_cons (pe_callD d__law_e_row (hr.mono (by decide)) rfl (pa_cons (pv 1) (pa_cons (pv 3) (pa_cons pe_int pa_nil)))) pa_nil))))))
    (pss_cons (ps_set (i := 5) sc_law.nd rfl (Or.inl rfl) (pe_op op_cat (pv 5) (pe_lst (pa_cons (pe_op op_catA (pe_ix ix_list (pv 5) pe_int (fun _ _ => rfl)) (pe_tup (pa_cons (pe_ix ix_list (pv 3) (pe_callD d__law_e_take (hr.mono (by decide)) rfl (pa_cons (pv 1) (pa_cons (pe_callB call_len_seq (by rfl) b_len PySem.boot_len (pa_cons (pv 3) pa_nil)) pa_nil))) (fun _ _ => rfl)) pa_nil))) (pa_cons (pe_callD d__law_e_row (hr.mono (by decide)) rfl (pa_cons (pv 1) (pa_cons (pe_op op_cat (pv 3) (pe_lst (pa_cons pe_str pa_nil))) (pa_cons pe_int pa_nil)))) pa_nil)))))
    (pss_one (ps_for PassesOwn.never rfl (pi_list (pe_op op_cat (pv 5) (pe_revL (pv 5)))) (pg_name (i := 6) sc_law.nd rfl (Or.inl rfl))
      (pss_cons (ps_set (i := 7) sc_law.nd rfl (Or.inl rfl) (pe_callD d_runs (hr.mono (by decide)) rfl (pa_cons (pv 4) (pa_cons (pv 6) pa_nil))))
    (pss_one (ps_if (PW.pt (pw_or (pt_not (pt_val (pe_callB call_isi (by rfl) b_isinstance (by decide +kernel) (pa_cons (pv 7) (pa_cons (pe_bltn (v := .ty "bool") (by rfl) b_bool (by decide +kernel) rfl) pa_nil))))) (pw_or1 (pt_cmpR op_ne (pv 7) (pe_callD d__law_e_goes (hr.mono (by decide)) rfl (pa_cons (pv 4) (pa_cons (pv 6) pa_nil))) (nomark _))))) (pss_one (ps_ret pe_bl)) pss_nil))))))))))
    (pss_one (ps_ret pe_bl)))), ?_⟩
  refine ⟨_, rfl, a, ns, rfl, hS, hlen, fun H1 pen sp p1 => ?_⟩
  refine ⟨6, rfl, by decide, by decide, ?_⟩
  refine for_range (lo := 0) (n := 6) (fun i σ H' => ∃ (o2 o3 o4 o5 o6 o7 : Option V), σ = [some (.ref a), some (.ref pen), o2, o3, o4, o5, o6, o7] ∧ PenAt H' pen sp) ⟨none, none, none, none, none, none, rfl, p1⟩ ?_ ?_
  · rintro i σ H2 hi ⟨o2, o3, o4, o5, o6, o7, rfl, p2⟩
    -- signs, machine
    refine ⟨_, rfl, pen, sp, rfl, p2, fun H3 sg ss b3 p3 hsg hs0 hs3 => ?_⟩
    refine ⟨_, rfl, _, rfl, pen, sp, sg, ss, 6, rfl, by decide, by decide, p3, hsg, hs0, hs3, fun H4 v M b4 p4 hM hM0 hMl hMo => ?_⟩
    have hsg4 := p3.strs b4 hsg
    -- rows
    refine ⟨(by show 0 ≤ sizeLine; decide), fun a0 n0 => ?_⟩
    have r0 : Same H4 (upd H4 a0 (.tup [])) := .new n0
    have ra0 : SqT K (upd H4 a0 (.tup [])) a0 (([] : List Str).map V.str) := sT upd_same
    generalize upd H4 a0 (.tup []) = H5 at r0 ra0 ⊢
    have p5 := p4.same r0
    have hM5 := dpS r0 hM
    have hsg5 := r0 _ _ hsg4
    refine ⟨_, rfl, _, rfl, pen, sp, v, M, 9, rfl, by decide, p5, hM5, hM0, hMo, fun H6 a1 x1 b6 p6 ha1 hl1 => ?_⟩
    have hM6 := p5.dp b6 (noL_ma M) hM5
    refine ⟨_, rfl, _, rfl, pen, sp, v, M, 9, rfl, by decide, p6, hM6, hM0, hMo, fun H7 a2 x2 b7 p7 ha2 hl2 => ?_⟩
    have hM7 := p6.dp b7 (noL_ma M) hM6
    have hsg7 := p6.strs b7 (p5.strs b6 hsg5)
    refine ⟨_, rfl, _, rfl, pen, sp, sg, ss, 6, rfl, by decide, p7, hsg7, hs0, by omega, fun H8 a3 x3 b8 p8 ha3 hl3 => ⟨(by show 4 ≤ sizeLine; decide), fun R nR => ?_⟩⟩
    have hM8 := p7.dp b8 (noL_ma M) hM7
    have hsg8 := p7.strs b8 hsg7
    have h1 : SqT K H8 a1 (x1.map V.str) := p7.sqT b8 (p6.sqT b7 ha1)
    have R8 : RowsP K H8 [a0, a1, a2, a3] := fun b hb => by
      simp at hb
      rcases hb with rfl | rfl | rfl | rfl
      · exact ⟨[], p7.sqT b8 (p6.sqT b7 (p5.sqT b6 ra0))⟩
      · exact ⟨_, h1⟩
      · exact ⟨_, p7.sqT b8 ha2⟩
      · exact ⟨_, ha3⟩
    have sR : Same H8 (upd H8 R (.lst [.ref a0, .ref a1, .ref a2, .ref a3])) := .new nR
    have hR : (upd H8 R (.lst [.ref a0, .ref a1, .ref a2, .ref a3])) R = some (.lst (([a0, a1, a2, a3] : List Addr).map V.ref)) := upd_same
    generalize upd H8 R (.lst [.ref a0, .ref a1, .ref a2, .ref a3]) = H9 at sR hR ⊢
    have p9 := p8.same sR
    have hM9 := dpS sR hM8
    have hsg9 := sR _ _ hsg8
    have R9 := R8.same sR
    have h19 := sR.sqT h1
    -- two more
    refine ⟨_, rfl, _, rfl, R, _, 1, _, rfl, rfl, sL hR, atI_nat (j := 1) rfl, ?_⟩
    refine ⟨_, rfl, _, rfl, _, rfl, sg, _, rfl, .inl (sL hsg9), ?_⟩
    refine ⟨pen, sp, ss.length, by rw [List.length_map]; rfl, hs0, by omega, p9, fun H10 c hc b10 p10 => ?_⟩
    obtain ⟨x, hx⟩ : ∃ x, ss[c]? = some x := ⟨_, List.getElem?_eq_getElem hc⟩
    have hsg10 := p9.strs b10 hsg9
    refine ⟨sg, _, _, _, rfl, rfl, sL hsg10, atI_nat (j := c) (v := V.str x) (by rw [List.getElem?_map, hx]; rfl), (by show 1 ≤ sizeLine; decide), fun t nt => ?_⟩
    have st : Same H10 (upd H10 t (.tup [.str x])) := .new nt
    refine catA (xs := x1.map V.str) (ys := ([x] : List Str).map V.str) (st.sqT (p9.sqT b10 h19)) (sT upd_same) (by rw [List.length_map, List.length_map, List.length_singleton]; exact szl (by omega)) fun H11 a4 s11 ha4 => ?_
    rw [← List.map_append] at ha4
    have s1011 := st.trans s11
    have p11 := p10.same s1011
    have hsg11 := s1011 _ _ hsg10
    have b911 : But pen H9 H11 := b10.trans (.of s1011)
    have hR11 := p9.refs b911 hR
    refine ⟨_, rfl, _, rfl, (by show 1 ≤ sizeLine; decide), fun q nq => ?_⟩
    have sq : Same H11 (upd H11 q (.lst [.str "q"])) := .new nq
    refine ⟨sg, q, _, _, rfl, rfl, sq _ _ hsg11, upd_same, szl (by rw [List.length_map]; show ss.length + 1 ≤ _; omega), fun sq2 nsq2 => ?_⟩
    have s13 : Same H11 (upd (upd H11 q (.lst [.str "q"])) sq2 (.lst (ss.map V.str ++ [.str "q"]))) := sq.trans (.new nsq2)
    have hsq2 : (upd (upd H11 q (.lst [.str "q"])) sq2 (.lst (ss.map V.str ++ [.str "q"]))) sq2 = some (.lst ((ss ++ ([Str.ofString "q"] : List Str)).map V.str)) := by rw [upd_same, List.map_append]; rfl
    generalize upd (upd H11 q (.lst [.str "q"])) sq2 (.lst (ss.map V.str ++ [.str "q"])) = H13 at s13 hsq2 ⊢
    have p13 := p11.same s13
    refine ⟨pen, sp, sq2, ss ++ ([Str.ofString "q"] : List Str), 4, rfl, by decide, p13, hsq2, by rw [List.length_append]; omega, by rw [List.length_append, List.length_singleton]; omega, fun H14 a5 x5 b14 p14 ha5 hl5 => ⟨(by show 2 ≤ sizeLine; decide), fun T nT => ?_⟩⟩
    have b914 : But pen H9 H14 := (b911.trans (.of s13)).trans b14
    have b1114 : But pen H11 H14 := (But.of s13).trans b14
    have hR14 := p9.refs b914 hR
    have sT' : Same H14 (upd H14 T (.lst [.ref a4, .ref a5])) := .new nT
    have R14 : RowsP K H14 [a0, a1, a2, a3, a4, a5] := fun b hb => by
      rcases List.mem_append.mp (show b ∈ ([a0, a1, a2, a3] : List Addr) ++ [a4, a5] from hb) with h4 | h4
      · exact R9.pen p9 b914 b h4
      · simp at h4
        rcases h4 with rfl | rfl
        · exact ⟨_, p11.sqT b1114 ha4⟩
        · exact ⟨_, ha5⟩
    refine ⟨R, T, _, _, rfl, rfl, sT' _ _ hR14, upd_same, szl (by simp), fun R2 nR2 => ?_⟩
    have s15 : Same H14 (upd (upd H14 T (.lst [.ref a4, .ref a5])) R2 (.lst (([a0, a1, a2, a3] : List Addr).map V.ref ++ [.ref a4, .ref a5]))) := sT'.trans (.new nR2)
    have hR2 : (upd (upd H14 T (.lst [.ref a4, .ref a5])) R2 (.lst (([a0, a1, a2, a3] : List Addr).map V.ref ++ [.ref a4, .ref a5]))) R2 = some (.lst (([a0, a1, a2, a3, a4, a5] : List Addr).map V.ref)) := upd_same
    generalize upd (upd H14 T (.lst [.ref a4, .ref a5])) R2 (.lst (([a0, a1, a2, a3] : List Addr).map V.ref ++ [.ref a4, .ref a5])) = H15 at s15 hR2 ⊢
    have p15 := p14.same s15
    have R15 := R14.same s15
    have hM15 := dpS s15 (p9.dp b914 (noL_ma M) hM9)
    -- the rows, and the other way round
    refine ⟨_, rfl, _, rfl, R2, _, rfl, sL hR2, fun V1 nV1 => ?_⟩
    have s16 : Same H15 (upd H15 V1 (.lst (([a0, a1, a2, a3, a4, a5] : List Addr).map V.ref).reverse)) := .new nV1
    refine ⟨R2, V1, _, _, rfl, rfl, s16 _ _ hR2, upd_same, szl (by simp), fun L nL => ?_⟩
    have s17 : Same H15 (upd (upd H15 V1 (.lst (([a0, a1, a2, a3, a4, a5] : List Addr).map V.ref).reverse)) L (.lst (([a0, a1, a2, a3, a4, a5] : List Addr).map V.ref ++ (([a0, a1, a2, a3, a4, a5] : List Addr).map V.ref).reverse))) := s16.trans (.new nL)
    have hL : (upd (upd H15 V1 (.lst (([a0, a1, a2, a3, a4, a5] : List Addr).map V.ref).reverse)) L (.lst (([a0, a1, a2, a3, a4, a5] : List Addr).map V.ref ++ (([a0, a1, a2, a3, a4, a5] : List Addr).map V.ref).reverse))) L = some (.lst (([a0, a1, a2, a3, a4, a5, a5, a4, a3, a2, a1, a0] : List Addr).map V.ref)) := upd_same
    generalize upd (upd H15 V1 (.lst (([a0, a1, a2, a3, a4, a5] : List Addr).map V.ref).reverse)) L (.lst (([a0, a1, a2, a3, a4, a5] : List Addr).map V.ref ++ (([a0, a1, a2, a3, a4, a5] : List Addr).map V.ref).reverse)) = H17 at s17 hL ⊢
    have p17 := p15.same s17
    have R17 : RowsP K H17 [a0, a1, a2, a3, a4, a5, a5, a4, a3, a2, a1, a0] := fun b hb => by
      rcases List.mem_append.mp (show b ∈ ([a0, a1, a2, a3, a4, a5] : List Addr) ++ ([a0, a1, a2, a3, a4, a5] : List Addr).reverse from hb) with h | h
      · exact R15.same s17 b h
      · exact R15.same s17 b (List.mem_reverse.mp h)
    have hM17 := dpS s17 hM15
    refine ⟨L, rfl, ⟨_, sL hL⟩, ?_⟩
    refine for_list (K := K) (a := L) (xs := ([a0, a1, a2, a3, a4, a5, a5, a4, a3, a2, a1, a0] : List Addr).map V.ref) (fun j σ H' => ∃ (o6 o7 : Option V), σ = [some (.ref a), some (.ref pen), some (.int (0 + (i : Int))), some (.ref sg), some v, some (.ref R2), o6, o7] ∧ Same H17 H')
      ⟨o6, o7, rfl, Same.refl _⟩ (fun j σ H' _ ⟨_, _, _, g⟩ => sL (g _ _ hL)) ?_ ?_
    · rintro j u σ H18 hu ⟨o6, o7, rfl, g18⟩
      rw [List.getElem?_map] at hu
      obtain ⟨b, hb, rfl⟩ : ∃ b, ([a0, a1, a2, a3, a4, a5, a5, a4, a3, a2, a1, a0] : List Addr)[j]? = some b ∧ u = V.ref b := by
        cases e : ([a0, a1, a2, a3, a4, a5, a5, a4, a3, a2, a1, a0] : List Addr)[j]? with
        | none => rw [e] at hu; cases hu
        | some b => rw [e] at hu; exact ⟨b, rfl, (Option.some.inj hu).symm⟩
      obtain ⟨r, hrow⟩ := R17 b (List.mem_of_getElem? hb)
      refine ⟨_, rfl, _, rfl, v, M, b, r, rfl, dpS g18 hM17, hM0, hMo, g18.sqT hrow, fun H19 g19 => ?_⟩
      refine ⟨_, rfl, .bl (goM M 0 r), .ty "bool", _, _, true, rfl, .ty _, .base (.bl _), kit_ty (by decide +kernel), ?_⟩
      refine ⟨_, rfl, iteF ?_⟩
      refine ⟨_, rfl, _, rfl, _, rfl, v, M, b, r, rfl, dpS g19 (dpS g18 hM17), hM0, hMo, g19.sqT (g18.sqT hrow), fun H20 g20 => ?_⟩
      refine ⟨rfl, _, rfl, ?_⟩
      rw [show (!decide (V.bl (goM M 0 r) = V.bl (goM M 0 r))) = false by rw [decide_eq_true rfl]; rfl]
      refine iteF ?_
      exact ⟨_, _, rfl, (g18.trans g19).trans g20⟩
    · rintro σ H18 ⟨o6, o7, rfl, g18⟩
      exact ⟨_, _, _, _, _, _, rfl, p17.same g18⟩
  · rintro σ H2 ⟨o2, o3, o4, o5, o6, o7, rfl, p2⟩
    exact k H2
end
end Sw
set_option Elab.async false
set_option maxRecDepth 100000
set_option maxHeartbeats 8000000
namespace Sw
open PySem L2 PySem.Spec PyProof.Rows
theorem defAt_mk {K : PySem.W.Frag} {h : Heap} {mg : Str → Option Value} {x : Str} {st : Stmt} {ps : List Str} {f : Addr} {od an : Option Addr} {sl : Array (Option Value)} {oc kV dc pm cd ct : Value} (X : K.In h) (G : h.Ns mainGlobals mg)
    (a : PySem.W.nsIn K mainGlobals x = some (some (.ref f))) (l : K.lookup f = some ⟨oc, od, .func (PySem.W.fnOf x x (defArgs st) (defBody st) (defScope st) .none kV dc pm an cd ct), sl⟩) (c : PySem.W.codeIn K cd x = true) (k : PySem.W.keepIn K (.ref f) = true)
    (b : Binds K (PySem.W.fnOf x x (defArgs st) (defBody st) (defScope st) .none kV dc pm an cd ct) ps []) : DefAt K mg x st ps :=
  ⟨f, _, fun_mk (st := st) l c k, PySem.W.mg_of X G a, b⟩

theorem all_mk {l : PySem.W.OpenLaw} {w : World} {K : PySem.W.Frag} {h : Heap} {mg : Str → Option Value} {f1 f2 f3 f4 f5 f6 f7 f8 f9 fa : Addr} {od1 an1 od2 an2 od3 an3 od4 an4 od5 an5 od6 an6 od7 an7 od8 an8 od9 an9 : Option Addr} {sl1 sl2 sl3 sl4 sl5 sl6 sl7 sl8 sl9 : Array (Option Value)} {oc1 kV1 dc1 pm1 cd1 ct1 oc2 kV2 dc2 pm2 cd2 ct2 oc3 kV3 dc3 pm3 cd3 ct3 oc4 kV4 dc4 pm4 cd4 ct4 oc5 kV5 dc5 pm5 cd5 ct5 oc6 kV6 dc6 pm6 cd6 ct6 oc7 kV7 dc7 pm7 cd7 ct7 oc8 kV8 dc8 pm8 cd8 ct8 oc9 kV9 dc9 pm9 cd9 ct9 : Value} (X : K.In h) (G : h.Ns mainGlobals mg) (hfa : mg "law" = some (.ref fa))
    (a1 : PySem.W.nsIn K mainGlobals "runs" = some (some (.ref f1))) (l1 : K.lookup f1 = some ⟨oc1, od1, .func (PySem.W.fnOf "runs" "runs" (defArgs s_runs) (defBody s_runs) (defScope s_runs) .none kV1 dc1 pm1 an1 cd1 ct1), sl1⟩) (c1 : PySem.W.codeIn K cd1 "runs" = true) (k1 : PySem.W.keepIn K (.ref f1) = true)
    (a2 : PySem.W.nsIn K mainGlobals "_law_e_pen" = some (some (.ref f2))) (l2 : K.lookup f2 = some ⟨oc2, od2, .func (PySem.W.fnOf "_law_e_pen" "_law_e_pen" (defArgs s_law_e_pen) (defBody s_law_e_pen) (defScope s_law_e_pen) .none kV2 dc2 pm2 an2 cd2 ct2), sl2⟩) (c2 : PySem.W.codeIn K cd2 "_law_e_pen" = true) (k2 : PySem.W.keepIn K (.ref f2) = true)
    (a3 : PySem.W.nsIn K mainGlobals "_law_e_take" = some (some (.ref f3))) (l3 : K.lookup f3 = some ⟨oc3, od3, .func (PySem.W.fnOf "_law_e_take" "_law_e_take" (defArgs s_law_e_take) (defBody s_law_e_take) (defScope s_law_e_take) .none kV3 dc3 pm3 an3 cd3 ct3), sl3⟩) (c3 : PySem.W.codeIn K cd3 "_law_e_take" = true) (k3 : PySem.W.keepIn K (.ref f3) = true)
    (a4 : PySem.W.nsIn K mainGlobals "_law_e_signs" = some (some (.ref f4))) (l4 : K.lookup f4 = some ⟨oc4, od4, .func (PySem.W.fnOf "_law_e_signs" "_law_e_signs" (defArgs s_law_e_signs) (defBody s_law_e_signs) (defScope s_law_e_signs) .none kV4 dc4 pm4 an4 cd4 ct4), sl4⟩) (c4 : PySem.W.codeIn K cd4 "_law_e_signs" = true) (k4 : PySem.W.keepIn K (.ref f4) = true)
    (a5 : PySem.W.nsIn K mainGlobals "_law_e_machine" = some (some (.ref f5))) (l5 : K.lookup f5 = some ⟨oc5, od5, .func (PySem.W.fnOf "_law_e_machine" "_law_e_machine" (defArgs s_law_e_machine) (defBody s_law_e_machine) (defScope s_law_e_machine) .none kV5 dc5 pm5 an5 cd5 ct5), sl5⟩) (c5 : PySem.W.codeIn K cd5 "_law_e_machine" = true) (k5 : PySem.W.keepIn K (.ref f5) = true)
    (a6 : PySem.W.nsIn K mainGlobals "_law_e_goes" = some (some (.ref f6))) (l6 : K.lookup f6 = some ⟨oc6, od6, .func (PySem.W.fnOf "_law_e_goes" "_law_e_goes" (defArgs s_law_e_goes) (defBody s_law_e_goes) (defScope s_law_e_goes) .none kV6 dc6 pm6 an6 cd6 ct6), sl6⟩) (c6 : PySem.W.codeIn K cd6 "_law_e_goes" = true) (k6 : PySem.W.keepIn K (.ref f6) = true)
    (a7 : PySem.W.nsIn K mainGlobals "_law_e_row" = some (some (.ref f7))) (l7 : K.lookup f7 = some ⟨oc7, od7, .func (PySem.W.fnOf "_law_e_row" "_law_e_row" (defArgs s_law_e_row) (defBody s_law_e_row) (defScope s_law_e_row) .none kV7 dc7 pm7 an7 cd7 ct7), sl7⟩) (c7 : PySem.W.codeIn K cd7 "_law_e_row" = true) (k7 : PySem.W.keepIn K (.ref f7) = true)
    (a8 : PySem.W.nsIn K mainGlobals "_law_e_along" = some (some (.ref f8))) (l8 : K.lookup f8 = some ⟨oc8, od8, .func (PySem.W.fnOf "_law_e_along" "_law_e_along" (defArgs s_law_e_along) (defBody s_law_e_along) (defScope s_law_e_along) .none kV8 dc8 pm8 an8 cd8 ct8), sl8⟩) (c8 : PySem.W.codeIn K cd8 "_law_e_along" = true) (k8 : PySem.W.keepIn K (.ref f8) = true)
    (a9 : PySem.W.nsIn K mainGlobals "law" = some (some (.ref f9))) (l9 : K.lookup f9 = some ⟨oc9, od9, .func (PySem.W.fnOf "law" "law" (defArgs s_law) (defBody s_law) (defScope s_law) .none kV9 dc9 pm9 an9 cd9 ct9), sl9⟩) (c9 : PySem.W.codeIn K cd9 "law" = true) (k9 : PySem.W.keepIn K (.ref f9) = true)
    (z_len : PySem.W.nsIn K mainGlobals "len" = some none)
    (z_range : PySem.W.nsIn K mainGlobals "range" = some none)
    (z_tuple : PySem.W.nsIn K mainGlobals "tuple" = some none)
    (z_list : PySem.W.nsIn K mainGlobals "list" = some none)
    (z_sorted : PySem.W.nsIn K mainGlobals "sorted" = some none)
    (z_isinstance : PySem.W.nsIn K mainGlobals "isinstance" = some none)
    (z_bool : PySem.W.nsIn K mainGlobals "bool" = some none)
    : ∃ fd : FuncData, (∀ (s : Shared) (v : Value), BindsTo s fd ⟨[v], []⟩ [("script", v)]) ∧ ∀ base : Heap, K.In base → base.Ns mainGlobals mg → FnOk l.prog w K mg base CX0 3 fa fd ["script"] (spLaw K) := by
  have e := hfa.symm.trans (PySem.W.mg_of X G a9)
  cases e
  have b_len := PySem.W.mg_none_of X G z_len
  have b_range := PySem.W.mg_none_of X G z_range
  have b_tuple := PySem.W.mg_none_of X G z_tuple
  have b_list := PySem.W.mg_none_of X G z_list
  have b_sorted := PySem.W.mg_none_of X G z_sorted
  have b_isinstance := PySem.W.mg_none_of X G z_isinstance
  have b_bool := PySem.W.mg_none_of X G z_bool
  have D1 : DefAt K mg "runs" s_runs ["machine", "row"] := defAt_mk X G a1 l1 c1 k1 ((fun_mk (st := s_runs) l1 c1 k1).binds (ps := ["machine", "row"]) fun _ _ _ _ _ _ us hl => match us, hl with | [_, _], _ => rfl)
  have D2 : DefAt K mg "_law_e_pen" s_law_e_pen ["script"] := defAt_mk X G a2 l2 c2 k2 ((fun_mk (st := s_law_e_pen) l2 c2 k2).binds (ps := ["script"]) fun _ _ _ _ _ _ us hl => match us, hl with | [_], _ => rfl)
  have D3 : DefAt K mg "_law_e_take" s_law_e_take ["pen", "many"] := defAt_mk X G a3 l3 c3 k3 ((fun_mk (st := s_law_e_take) l3 c3 k3).binds (ps := ["pen", "many"]) fun _ _ _ _ _ _ us hl => match us, hl with | [_, _], _ => rfl)
  have D4 : DefAt K mg "_law_e_signs" s_law_e_signs ["pen"] := defAt_mk X G a4 l4 c4 k4 ((fun_mk (st := s_law_e_signs) l4 c4 k4).binds (ps := ["pen"]) fun _ _ _ _ _ _ us hl => match us, hl with | [_], _ => rfl)
  have D5 : DefAt K mg "_law_e_machine" s_law_e_machine ["pen", "signs", "most"] := defAt_mk X G a5 l5 c5 k5 ((fun_mk (st := s_law_e_machine) l5 c5 k5).binds (ps := ["pen", "signs", "most"]) fun _ _ _ _ _ _ us hl => match us, hl with | [_, _, _], _ => rfl)
  have D6 : DefAt K mg "_law_e_goes" s_law_e_goes ["machine", "row"] := defAt_mk X G a6 l6 c6 k6 ((fun_mk (st := s_law_e_goes) l6 c6 k6).binds (ps := ["machine", "row"]) fun _ _ _ _ _ _ us hl => match us, hl with | [_, _], _ => rfl)
  have D7 : DefAt K mg "_law_e_row" s_law_e_row ["pen", "signs", "most"] := defAt_mk X G a7 l7 c7 k7 ((fun_mk (st := s_law_e_row) l7 c7 k7).binds (ps := ["pen", "signs", "most"]) fun _ _ _ _ _ _ us hl => match us, hl with | [_, _, _], _ => rfl)
  have D8 : DefAt K mg "_law_e_along" s_law_e_along ["pen", "machine", "most"] := defAt_mk X G a8 l8 c8 k8 ((fun_mk (st := s_law_e_along) l8 c8 k8).binds (ps := ["pen", "machine", "most"]) fun _ _ _ _ _ _ us hl => match us, hl with | [_, _, _], _ => rfl)
  refine ⟨PySem.W.fnOf "law" "law" (defArgs s_law) (defBody s_law) (defScope s_law) .none kV9 dc9 pm9 an9 cd9 ct9, fun s v => .of_eq rfl, fun base _ _ => ?_⟩
  have o_pen := ok_law_e_pen (P := l.prog) (w := w) (base := base) D2 b_list
  have o_take := ok_law_e_take (P := l.prog) (w := w) (base := base) D3 b_len
  have o_signs := ok_law_e_signs D4 o_take b_range b_sorted
  have o_machine := ok_law_e_machine D5 o_take b_len b_range b_tuple
  have o_runs := ok_runs (P := l.prog) (w := w) (base := base) D1
  have o_goes := ok_law_e_goes (P := l.prog) (w := w) (base := base) D6
  have o_row := ok_law_e_row D7 o_take b_len b_range b_tuple
  have o_along := ok_law_e_along D8 o_take b_len b_range
  exact ok_law (fun_mk (st := s_law) l9 c9 k9) o_pen o_take o_signs o_machine o_row o_along o_runs o_goes b_len b_range b_isinstance b_bool
theorem walk {l : PySem.W.OpenLaw} {q : Program} {loose : List Str} {XP : (Str → Option Value) → Heap → Prop} {YP : World → Heap → Prop} {d : DefRec} {K : Params → PySem.W.Frag} (hn : l.most = some 63) (hdf : d.params.defaults = [])
    (hY : ∀ (w : World) (h : Heap), YP w h → (K w.params).In h)
    (F : ∀ (w : World) (mg : Str → Option Value) (fa : Addr) (h : Heap), (K w.params).In h → h.Ns mainGlobals mg → mg d.name = some (.ref fa) →
      ∃ fd : FuncData, (∀ (s : Shared) (u : Value), BindsTo s fd ⟨[u], []⟩ [("script", u)]) ∧ ∀ base : Heap, (K w.params).In base → base.Ns mainGlobals mg → FnOk l.prog w (K w.params) mg base CX0 3 fa fd ["script"] (spLaw (K w.params))) :
    PySem.W.WalkO q loose XP YP l.row.toRowW d [] (fun f vs => PySem.call f vs) :=
  L2.walk_of (n := 63) (k := 3) (x := "script") (CX := fun _ => CX0) (sp := fun w => spLaw (K w.params)) hn (by decide) hdf ⟨rfl, by decide, by decide⟩ hY F (fun _ _ a ns hl _ hS => ⟨a, ns, rfl, hS, hl, fun _ => rfl⟩) fun _ _ _ _ _ z => z
end Sw
set_option Elab.async false
open PySem PySem.W PyProof.Rows
set_option maxRecDepth 100000 in
set_option maxHeartbeats 0 in
theorem PySem.Challenge.cw_soleway_k61_machines_run_holds : PySem.Challenge.rw_soleway_k61_machines_run.Holds := by
  w_on; o_law; k_head; (case hw => w_witness2)
  k_fill
  refine Sw.walk (l := PySem.Challenge.rw_soleway_k61_machines_run) rfl rfl (fun w h Y => PySem.W.kIn_of Y) ?F
  case F =>
    intro w mg fa h KX G hmg
    refine' Sw.all_mk KX G hmg ?a1 ?l1 ?c1 ?k1 ?a2 ?l2 ?c2 ?k2 ?a3 ?l3 ?c3 ?k3 ?a4 ?l4 ?c4 ?k4 ?a5 ?l5 ?c5 ?k5 ?a6 ?l6 ?c6 ?k6 ?a7 ?l7 ?c7 ?k7 ?a8 ?l8 ?c8 ?k8 ?a9 ?l9 ?c9 ?k9 ?z_len ?z_range ?z_tuple ?z_list ?z_sorted ?z_isinstance ?z_bool
    (case a1 => k_is)
    (case l1 => k_is)
    (case c1 => k_is)
    (case k1 => k_is)
    (case a2 => k_is)
    (case l2 => k_is)
    (case c2 => k_is)
    (case k2 => k_is)
    (case a3 => k_is)
    (case l3 => k_is)
    (case c3 => k_is)
    (case k3 => k_is)
    (case a4 => k_is)
    (case l4 => k_is)
    (case c4 => k_is)
    (case k4 => k_is)
    (case a5 => k_is)
    (case l5 => k_is)
    (case c5 => k_is)
    (case k5 => k_is)
    (case a6 => k_is)
    (case l6 => k_is)
    (case c6 => k_is)
    (case k6 => k_is)
    (case a7 => k_is)
    (case l7 => k_is)
    (case c7 => k_is)
    (case k7 => k_is)
    (case a8 => k_is)
    (case l8 => k_is)
    (case c8 => k_is)
    (case k8 => k_is)
    (case a9 => k_is)
    (case l9 => k_is)
    (case c9 => k_is)
    (case k9 => k_is)
    (case z_len => k_is)
    (case z_range => k_is)
    (case z_tuple => k_is)
    (case z_list => k_is)
    (case z_sorted => k_is)
    (case z_isinstance => k_is)
    (case z_bool => k_is)
#print axioms PySem.Challenge.cw_soleway_k61_machines_run_holds
