import PyProof.Rows.All
import Wide.All
import OpenK.AllK
import Wide.FinOn
import HandS.Call
import PyProof.Rows.MatchSeqLen
import HandS.ForMost
import HandS.IsInst
import HandS.Conv
import HandS.AnyAll
import PyProof.TupleOfGen
import KE.GoesEnum
import HandS.TupAny
import HandS.EndOwn
import PySem.Challenge.RW_pagewake_k00_templates_in_order
set_option Elab.async false
set_option linter.all false
set_option maxRecDepth 100000
set_option maxHeartbeats 4000000
namespace Pw
open PySem PySem.Spec PyProof.Rows L2

/-- what a pattern binds: the slot, the value -/
abbrev Bnd := List (Nat × V)
def BndOk (X : Cx) (p : Nat × V) (q : Str × Value) : Prop := X.N[p.1]? = some q.1 ∧ X.env.scope.names.lookup q.1 = some .local ∧ RelV p.2 q.2
def RelB (X : Cx) : Option Bnd → Option (List (Str × Value)) → Prop
  | none, none => True
  | some bs, some us => Paired (BndOk X) bs us
  | _, _ => False
abbrev TPat := V → Hp → (Option Bnd → Prop) → Prop
abbrev TPats := List V → Hp → (Option Bnd → Prop) → Prop
structure PPat (X : Cx) (p : Pattern) (t : TPat) : Prop where
  run : ∀ (pins : List (Addr × Obj)) (s : Shared) (σ : L2.St) (H : Hp) (v : V) (u : Value) (Q : Option Bnd → Prop), Inv X pins σ H s → RelV v u → t v H Q →
    wpAny (model X.prog X.w) X.A (matchPattern p X.env u) (fun r s' => ∃ b, Inv X pins σ H s' ∧ RelB X b r ∧ Q b) X.xe s
structure PPats (X : Cx) (ps : List Pattern) (t : TPats) : Prop where
  run : ∀ (pins : List (Addr × Obj)) (s : Shared) (σ : L2.St) (H : Hp) (vs : List V) (us : List Value) (Q : Option Bnd → Prop), Inv X pins σ H s → Vals vs us → t vs H Q →
    wpAny (model X.prog X.w) X.A (matchEach ps X.env us) (fun r s' => ∃ b, Inv X pins σ H s' ∧ RelB X b r ∧ Q b) X.xe s
theorem Paired.appendP {α β : Type} {F : α → β → Prop} : ∀ {a : List α} {b : List β} {c : List α} {d : List β}, Paired F a b → Paired F c d → Paired F (a ++ c) (b ++ d)
  | _, _, _, _, .nil, q => q
  | _, _, _, _, .cons r t, q => .cons r (Paired.appendP t q)
section
variable {X : Cx}
def tPName (i : Nat) : TPat := fun v _ Q => Q (some [(i, v)])
theorem pp_name (i : Nat) {x : Str} {pos : Pos} (hN : X.N[i]? = some x := by rfl) (hx : X.env.scope.names.lookup x = some .local := by rfl) : PPat X (.MatchAs none (some x) pos) (tPName i) := by
  refine ⟨fun pins s σ H v u Q I r h => ?_⟩
  exact wpAny_matchPattern_Capture ⟨some [(i, v)], I, (show Paired (BndOk X) [(i, v)] [(x, u)] from .cons ⟨hN, hx, r⟩ .nil), h⟩
def tPAny : TPat := fun _ _ Q => Q (some [])
theorem pp_any {pos : Pos} : PPat X (.MatchAs none none pos) tPAny := by
  refine ⟨fun pins s σ H v u Q I r h => ?_⟩
  exact wpAny_matchPattern_Capture ⟨some [], I, (show Paired (BndOk X) [] [] from .nil), h⟩
/-- a written text -/
def tPStr (x : Str) : TPat := fun v _ Q => ∃ z, v = .str z ∧ Q (if z = x then some [] else none)
theorem pp_str {x : Str} {j : Nat} {p1 pos : Pos} : PPat X (.MatchValue (.Constant (.str x) j p1) pos) (tPStr x) := by
  refine ⟨fun pins s σ H v u Q I r h => ?_⟩
  obtain ⟨z, rfl, q⟩ := h
  obtain ⟨t, rfl⟩ := r
  refine wpAny_matchPattern_Value (Calls.Constant_str (PyProof.Rows.eq_str (wpAny_truthy_bool ?_)))
  have I' := I.tok (s.toks + 1)
  by_cases e : z = x
  · subst e
    have e2 : (z == z) = true := by simp
    rw [if_pos e2]
    rw [if_pos rfl] at q
    exact ⟨some [], I', (show Paired (BndOk X) [] [] from .nil), q⟩
  · have e2 : ¬ (z == x) = true := fun h => e (by simpa using h)
    rw [if_neg e2]
    rw [if_neg e] at q
    exact ⟨none, I', trivial, q⟩
def tPNil : TPats := fun _ _ Q => Q (some [])
theorem pps_nil' : PPats X [] tPNil := ⟨fun pins s σ H vs us Q I r h => wpAny_matchEach_nil ⟨some [], I, (show Paired (BndOk X) [] [] from .nil), h⟩⟩
def tPCons (t : TPat) (u : TPats) : TPats := fun vs H Q => ∃ v r, vs = v :: r ∧ t v H fun b => match b with
  | none => Q none
  | some bs => u r H fun c => match c with
    | none => Q none
    | some cs => Q (some (bs ++ cs))
theorem pps_cons' {p : Pattern} {ps : List Pattern} {t : TPat} {u : TPats} (h1 : PPat X p t) (h2 : PPats X ps u) (hp : p.isStar = false := by rfl) : PPats X (p :: ps) (tPCons t u) := by
  refine ⟨fun pins s σ H vs us Q I r h => ?_⟩
  obtain ⟨v, w, rfl, h⟩ := h
  cases r with
  | cons r rr =>
    refine wpAny_matchEach_cons (thn (h1.run pins s σ H _ _ _ I r h) fun a s1 ⟨b, I1, rb, q⟩ => ?_) hp
    cases b with
    | none =>
      cases a with
      | none => exact ⟨none, I1, trivial, q⟩
      | some us => exact rb.elim
    | some bs =>
      cases a with
      | none => exact rb.elim
      | some us =>
        refine thn (h2.run pins s1 σ H _ _ _ I1 rr q) fun a2 s2 ⟨c, I2, rc, q2⟩ => ?_
        cases c with
        | none =>
          cases a2 with
          | none => exact ⟨none, I2, trivial, q2⟩
          | some _ => exact rc.elim
        | some cs =>
          cases a2 with
          | none => exact rc.elim
          | some ws => exact ⟨some (bs ++ cs), I2, Paired.appendP rb rc, q2⟩
/-- a sequence pattern at a tuple -/
def tPSeq (K : PySem.W.Frag) (n : Nat) (t : TPats) : TPat := fun v H Q => ∃ a xs, v = .ref a ∧ SqT K H a xs ∧ if xs.length = n then t xs H Q else Q none
theorem pp_seq {ps : List Pattern} {pos : Pos} {t : TPats} {n : Nat} (hc : X.calm = true) (h : PPats X ps t) (hn : ps.length = n := by rfl) (hstar : ps.findIdx? (·.isStar) = none := by rfl)
    (hwild : (ps.all fun p => p.isWildcard || (p.isStar && p.names.isEmpty)) = false := by rfl) : PPat X (.MatchSequence ps pos) (tPSeq X.K n t) := by
  refine ⟨fun pins s σ H v u Q I r hw => ?_⟩
  obtain ⟨a, xs, rfl, hq, hw⟩ := hw
  obtain rfl : u = Value.ref a := r
  obtain ⟨its, rv, ht, hz⟩ := I.tuple hq
  have el := rv.length
  have hfit : ((its.toArray.size : Nat) : Int) < 2 ^ 63 := by
    have hs : sizeLine ≤ 2 ^ 62 := by decide
    simp only [List.size_toArray]
    omega
  by_cases e : xs.length = n
  · rw [if_pos e] at hw
    have e2 : its.toArray.size = ps.length := by simp only [List.size_toArray]; omega
    refine matchSeq_tuple_hit ht hfit e2 ?_ hstar hwild
    rw [← e2]
    refine unpackItems_tuple (I.ok.hd hc) (by exact ht) fun h' hx => ?_
    have I1 : Inv X pins σ H { s with heap := h', toks := s.toks + 1 + 1 } := I.kept fun b o q => hx b o (Nat.ne_of_lt (Heap.lt_size q)) q
    exact h.run pins _ σ H xs _ Q I1 (by simpa using rv) hw
  · rw [if_neg e] at hw
    have e2 : its.toArray.size ≠ ps.length := by simp only [List.size_toArray]; omega
    exact matchSeq_tuple_miss ht hfit e2 ⟨none, I.tok _, trivial, hw⟩ hstar hwild
/-! ### cases -/
abbrev TCs := V → Ends → L2.St → Hp → Prop
structure PCs (X : Cx) (cs : List MatchCase) (t : TCs) : Prop where
  run : ∀ (first : Bool) (pins : List (Addr × Obj)) (s : Shared) (σ : L2.St) (H : Hp) (D : Ends) (v : V) (u : Value), Inv X pins σ H s → RelV v u → t v D σ H →
    wpAny (model X.prog X.w) X.A (matchCases cs X.env u first) (SP X pins D) X.xe s
def setAll (σ : L2.St) : Bnd → L2.St
  | [] => σ
  | p :: r => setAll (σ.set p.1 (some p.2)) r
def tCsNil : TCs := fun _ D σ H => D.nx σ H
theorem pcs_nil : PCs X [] tCsNil := ⟨fun _ pins s σ H D v u I r h => wpAny_matchCases_nil ⟨σ, H, I, h⟩⟩
def tCase (t : TPat) (tb : TS) (tr : TCs) : TCs := fun v D σ H => t v H fun b => match b with
  | none => tr v D σ H
  | some bs => tb D (setAll σ bs) H
theorem assign_bnd (hN : X.N.Nodup) : ∀ {bs : Bnd} {us : List (Str × Value)} {pins : List (Addr × Obj)} {s : Shared} {σ : L2.St} {H : Hp} {Q : Unit → Shared → Prop}, Paired (BndOk X) bs us → Inv X pins σ H s → (∀ s', Inv X pins (setAll σ bs) H s' → Q () s') →
    wpAny (model X.prog X.w) X.A (assignInOrder (us.map fun (n, _) => bindName X.env n) (us.map (·.2))) Q X.xe s
  | _, _, _, s, _, _, _, .nil, I, h => assignInOrder_nil (h s I)
  | p :: bs, q :: us, pins, s, σ, H, Q, .cons r t, I, h => by
    obtain ⟨h1, h2, h3⟩ := r
    exact assignInOrder_cons (wpAny_bindName (store_ok I hN h1 (.inl h2) h3 (fun s' I' => assign_bnd hN t I' fun s2 I2 => h s2 I2) (.inr h2)))
theorem pcs_cons {p : Pattern} {body : List Stmt} {rest : List MatchCase} {t : TPat} {tb : TS} {tr : TCs} (hN : X.N.Nodup) (hp : PPat X p t) (hb : PSs X body tb) (hr : PCs X rest tr) : PCs X (⟨p, none, body⟩ :: rest) (tCase t tb tr) := by
  refine ⟨fun first pins s σ H D v u I r h => ?_⟩
  refine wpAny_matchCases_cons (thn (hp.run pins s σ H v u _ I r h) fun a s1 ⟨b, I1, rb, q⟩ => ?_)
  cases b with
  | none =>
    cases a with
    | none => exact hr.run false pins s1 σ H D v u I1 r q
    | some _ => exact rb.elim
  | some bs =>
    cases a with
    | none => exact rb.elim
    | some us => exact assign_bnd hN rb I1 fun s2 I2 => hb.run pins s2 _ H D I2 q
def tMatch (te : TE) (tc : TCs) : TS := fun D σ H => te σ H fun x H1 => tc x D σ H1
theorem ps_match {e : Expr} {cs : List MatchCase} {pos : Pos} {te : TE} {tc : TCs} (he : PE X e te) (hc : PCs X cs tc) : PS X (.Match e cs pos) (tMatch te tc) := by
  refine ⟨fun pins s σ H D I h => ?_⟩
  exact wpAny_Match (thn (he.run pins s σ H _ I h) fun v s1 ⟨x, H1, I1, r1, q1⟩ => hc.run true pins s1 σ H1 D x v I1 r1 q1)
end
end Pw
namespace Pw
open PySem PySem.Spec PyProof.Rows L2
/-! ### heaps -/
/-- all but S is as it was; tuples never change -/
structure Oth (S : List Addr) (H H' : Hp) : Prop where
  keep : ∀ a o, a ∉ S → H a = some o → H' a = some o
  tup : ∀ a xs, H a = some (.tup xs) → H' a = some (.tup xs)
section
variable {S S' : List Addr} {H H' H2 : Hp} {p b : Addr} {o : HO} {xs : List V}
theorem Oth.refl : Oth S H H := ⟨fun _ _ _ h => h, fun _ _ h => h⟩
theorem Oth.trans (x : Oth S H H') (y : Oth S H' H2) : Oth S H H2 := ⟨fun a o n h => y.keep a o n (x.keep a o n h), fun a xs h => y.tup a xs (x.tup a xs h)⟩
theorem Oth.new (h : H p = none) : Oth S H (upd H p o) := ⟨fun a o' _ q => by rw [upd_ne (ne_of_none q h)]; exact q, fun a xs q => by rw [upd_ne (ne_of_none q h)]; exact q⟩
theorem Oth.put (hb : b ∈ S) (h : H b = some (.lst xs)) : Oth S H (upd H b o) :=
  ⟨fun a o' n q => by rw [upd_ne (fun e => n (by rw [e]; exact hb))]; exact q, fun a xs q => by rw [upd_ne (ne_of q h (by intro z; cases z))]; exact q⟩
theorem Oth.mono (x : Oth S H H') (h : ∀ a ∈ S, a ∈ S') : Oth S' H H' := ⟨fun a o n => x.keep a o fun z => n (h a z), x.tup⟩
/-- what was not there may be forgotten -/
theorem Oth.drop (x : Oth (p :: S) H H') (h : H p = none) : Oth S H H' :=
  ⟨fun a o n q => x.keep a o (fun z => (List.mem_cons.mp z).elim (fun e => by rw [e, h] at q; cases q) n) q, x.tup⟩
theorem Oth.drop2 (x : Oth (b :: p :: S) H H') (h : H p = none) : Oth (b :: S) H H' :=
  Oth.drop (p := p) (x.mono fun a z => by simp only [List.mem_cons] at z ⊢; rcases z with z | z | z <;> simp [z]) h
theorem Oth.ne (x : Oth S H H') (h : H' p = none) (hb : b ∉ S) (q : H b = some o) : b ≠ p := ne_of_none (x.keep b o hb q) h
theorem Oth.lst (x : Oth S H H') (hb : b ∉ S) (q : H b = some (.lst xs)) : H' b = some (.lst xs) := x.keep b _ hb q
theorem Oth.sqT {K : PySem.W.Frag} (x : Oth S H H') (h : H b = some (.tup xs)) : SqT K H' b xs := SqT.of (x.tup b xs h)
end
/-! ### data that never change -/
inductive T where
  | non | bl (b : Bool) | int (i : Int) | str (s : Str) | tup (ts : List T)
inductive IsT (H : Hp) : T → V → Prop
  | non : IsT H .non .non
  | bl (b : Bool) : IsT H (.bl b) (.bl b)
  | int (i : Int) : IsT H (.int i) (.int i)
  | str (s : Str) : IsT H (.str s) (.str s)
  | tup {a : Addr} {xs : List V} {ts : List T} : H a = some (.tup xs) → xs.length = ts.length → (∀ (i : Nat) (t : T) (x : V), ts[i]? = some t → xs[i]? = some x → IsT H t x) → IsT H (.tup ts) (.ref a)
section
variable {H H' : Hp} {S : List Addr} {a : Addr} {xs : List V} {ts : List T} {t : T} {v : V}
theorem IsT.oth (h : IsT H t v) (o : Oth S H H') : IsT H' t v := by
  induction h with
  | non => exact .non
  | bl b => exact .bl b
  | int i => exact .int i
  | str s => exact .str s
  | tup e l _ ih => exact .tup (o.tup _ _ e) l ih
theorem paired_of : ∀ {ts : List T} {xs : List V}, xs.length = ts.length → (∀ (i : Nat) (t : T) (x : V), ts[i]? = some t → xs[i]? = some x → IsT H t x) → Paired (IsT H) ts xs
  | [], [], _, _ => .nil
  | [], _ :: _, l, _ => by cases l
  | _ :: _, [], l, _ => by cases l
  | t :: ts, x :: xs, l, h => .cons (h 0 t x rfl rfl) (paired_of (Nat.succ.inj l) fun i t' x' e1 e2 => h (i + 1) t' x' e1 e2)
theorem paired_get : ∀ {ts : List T} {xs : List V}, Paired (IsT H) ts xs → xs.length = ts.length ∧ ∀ (i : Nat) (t : T) (x : V), ts[i]? = some t → xs[i]? = some x → IsT H t x
  | _, _, .nil => ⟨rfl, fun i t x e => by simp at e⟩
  | _, _, .cons r q => by
    obtain ⟨l, h⟩ := paired_get q
    refine ⟨congrArg (· + 1) l, fun i t x e1 e2 => ?_⟩
    cases i with
    | zero => cases e1; cases e2; exact r
    | succ i => exact h i t x e1 e2
theorem IsT.inv (h : IsT H (.tup ts) v) : ∃ a xs, v = .ref a ∧ H a = some (.tup xs) ∧ Paired (IsT H) ts xs := by
  cases h with
  | tup e l q => exact ⟨_, _, rfl, e, paired_of l q⟩
theorem IsT.mk (e : H a = some (.tup xs)) (q : Paired (IsT H) ts xs) : IsT H (.tup ts) (.ref a) := .tup e (paired_get q).1 (paired_get q).2
theorem paired_oth : ∀ {ts : List T} {xs : List V}, Paired (IsT H) ts xs → Oth S H H' → Paired (IsT H') ts xs
  | _, _, .nil, _ => .nil
  | _, _, .cons r q, o => .cons (r.oth o) (paired_oth q o)
theorem paired_app {us : List T} {ys : List V} (p : Paired (IsT H) ts xs) (q : Paired (IsT H) us ys) : Paired (IsT H) (ts ++ us) (xs ++ ys) := Paired.appendP p q
theorem paired_int : ∀ {ns : List Int} {xs : List V}, Paired (IsT H) (ns.map T.int) xs → xs = ns.map V.int
  | [], _, .nil => rfl
  | n :: ns, _, .cons r q => by
    cases r
    rw [paired_int q]
    rfl
theorem int_paired : ∀ (ns : List Int), Paired (IsT H) (ns.map T.int) (ns.map V.int)
  | [] => .nil
  | n :: ns => .cons (.int n) (int_paired ns)
theorem IsT.ints {ns : List Int} (h : IsT H (.tup (ns.map T.int)) v) : ∃ a, v = .ref a ∧ H a = some (.tup (ns.map V.int)) := by
  obtain ⟨a, xs, rfl, e, p⟩ := h.inv
  rw [paired_int p] at e
  exact ⟨a, rfl, e⟩
theorem IsT.of_int {i : Int} (h : IsT H (.int i) v) : v = .int i := by cases h; rfl
theorem IsT.of_str {s : Str} (h : IsT H (.str s) v) : v = .str s := by cases h; rfl
theorem IsT.of_non (h : IsT H .non v) : v = .non := by cases h; rfl
theorem IsT.inv1 {t1 : T} (h : IsT H (.tup [t1]) v) : ∃ a x1, v = .ref a ∧ H a = some (.tup [x1]) ∧ IsT H t1 x1 := by
  obtain ⟨a, xs, rfl, e, p⟩ := h.inv
  cases p with | cons p1 p => cases p; exact ⟨a, _, rfl, e, p1⟩
theorem IsT.inv2 {t1 t2 : T} (h : IsT H (.tup [t1, t2]) v) : ∃ a x1 x2, v = .ref a ∧ H a = some (.tup [x1, x2]) ∧ IsT H t1 x1 ∧ IsT H t2 x2 := by
  obtain ⟨a, xs, rfl, e, p⟩ := h.inv
  cases p with | cons p1 p => cases p with | cons p2 p => cases p; exact ⟨a, _, _, rfl, e, p1, p2⟩
theorem IsT.inv3 {t1 t2 t3 : T} (h : IsT H (.tup [t1, t2, t3]) v) : ∃ a x1 x2 x3, v = .ref a ∧ H a = some (.tup [x1, x2, x3]) ∧ IsT H t1 x1 ∧ IsT H t2 x2 ∧ IsT H t3 x3 := by
  obtain ⟨a, xs, rfl, e, p⟩ := h.inv
  cases p with | cons p1 p => cases p with | cons p2 p => cases p with | cons p3 p => cases p; exact ⟨a, _, _, _, rfl, e, p1, p2, p3⟩
theorem IsT.inv4 {t1 t2 t3 t4 : T} (h : IsT H (.tup [t1, t2, t3, t4]) v) : ∃ a x1 x2 x3 x4, v = .ref a ∧ H a = some (.tup [x1, x2, x3, x4]) ∧ IsT H t1 x1 ∧ IsT H t2 x2 ∧ IsT H t3 x3 ∧ IsT H t4 x4 := by
  obtain ⟨a, xs, rfl, e, p⟩ := h.inv
  cases p with | cons p1 p => cases p with | cons p2 p => cases p with | cons p3 p => cases p with | cons p4 p => cases p; exact ⟨a, _, _, _, _, rfl, e, p1, p2, p3, p4⟩
theorem IsT.inv5 {t1 t2 t3 t4 t5 : T} (h : IsT H (.tup [t1, t2, t3, t4, t5]) v) : ∃ a x1 x2 x3 x4 x5, v = .ref a ∧ H a = some (.tup [x1, x2, x3, x4, x5]) ∧ IsT H t1 x1 ∧ IsT H t2 x2 ∧ IsT H t3 x3 ∧ IsT H t4 x4 ∧ IsT H t5 x5 := by
  obtain ⟨a, xs, rfl, e, p⟩ := h.inv
  cases p with | cons p1 p => cases p with | cons p2 p => cases p with | cons p3 p => cases p with | cons p4 p => cases p with | cons p5 p => cases p; exact ⟨a, _, _, _, _, _, rfl, e, p1, p2, p3, p4, p5⟩
theorem IsT.mk1 {t1 : T} {x1 : V} (e : H a = some (.tup [x1])) (p1 : IsT H t1 x1) : IsT H (.tup [t1]) (.ref a) := .mk e (.cons p1 .nil)
theorem IsT.mk2 {t1 t2 : T} {x1 x2 : V} (e : H a = some (.tup [x1, x2])) (p1 : IsT H t1 x1) (p2 : IsT H t2 x2) : IsT H (.tup [t1, t2]) (.ref a) := .mk e (.cons p1 (.cons p2 .nil))
theorem IsT.mk3 {t1 t2 t3 : T} {x1 x2 x3 : V} (e : H a = some (.tup [x1, x2, x3])) (p1 : IsT H t1 x1) (p2 : IsT H t2 x2) (p3 : IsT H t3 x3) : IsT H (.tup [t1, t2, t3]) (.ref a) := .mk e (.cons p1 (.cons p2 (.cons p3 .nil)))
theorem IsT.mk4 {t1 t2 t3 t4 : T} {x1 x2 x3 x4 : V} (e : H a = some (.tup [x1, x2, x3, x4])) (p1 : IsT H t1 x1) (p2 : IsT H t2 x2) (p3 : IsT H t3 x3) (p4 : IsT H t4 x4) : IsT H (.tup [t1, t2, t3, t4]) (.ref a) := .mk e (.cons p1 (.cons p2 (.cons p3 (.cons p4 .nil))))
theorem IsT.mk5 {t1 t2 t3 t4 t5 : T} {x1 x2 x3 x4 x5 : V} (e : H a = some (.tup [x1, x2, x3, x4, x5])) (p1 : IsT H t1 x1) (p2 : IsT H t2 x2) (p3 : IsT H t3 x3) (p4 : IsT H t4 x4) (p5 : IsT H t5 x5) : IsT H (.tup [t1, t2, t3, t4, t5]) (.ref a) := .mk e (.cons p1 (.cons p2 (.cons p3 (.cons p4 (.cons p5 .nil)))))
end
/-! ### ways that meet behind a statement -/
section
variable {X : Cx} {st : Stmt} {rest : List Stmt} {t u : TS}
def tCut (t u : TS) : TS := fun D σ H => ∃ Mid : L2.St → Hp → Prop, t { D with nx := Mid } σ H ∧ ∀ σ' H', Mid σ' H' → u D σ' H'
theorem pss_cut (h1 : PS X st t) (h2 : PSs X rest u) : PSs X (st :: rest) (tCut t u) := by
  refine ⟨fun pins s σ H D I h => ?_⟩
  obtain ⟨Mid, h, hm⟩ := h
  refine wpAny_execs_cons (thn (h1.run pins s σ H { D with nx := Mid } I h) fun f s1 q => ?_)
  cases f with
  | next =>
    obtain ⟨σ', H', I', q⟩ := q
    exact h2.run pins s1 σ' H' D I' (hm _ _ q)
  | ret v => exact q
  | brk => exact q
  | cont => exact q
end
theorem Oth.sqL {K : PySem.W.Frag} {H H' : Hp} {S : List Addr} {a : Addr} {xs : List V} (x : Oth S H H') (n : a ∉ S) (h : SqL K H a xs) : SqL K H' a xs := by
  rcases h with (h | ⟨o, h⟩) | h
  · exact .inl (.inl (x.keep _ _ n h))
  · exact .inl (.inr ⟨o, x.keep _ _ n h⟩)
  · exact .inr h
/-! ### cases of a match -/
section
variable {K : PySem.W.Frag} {H : Hp} {a : Addr} {n : Nat} {z x : Str} {r : List V} {u : TPats} {tb : TS} {tr : TCs} {D : Ends} {σ : L2.St}
theorem case_skip (h : SqT K H a (.str z :: r)) (hz : z ≠ x) (q : tr (.ref a) D σ H) : tCase (tPSeq K n (tPCons (tPStr x) u)) tb tr (.ref a) D σ H := by
  refine ⟨a, _, rfl, h, ?_⟩
  by_cases e : (V.str z :: r).length = n
  · rw [if_pos e]
    refine ⟨_, _, rfl, z, rfl, ?_⟩
    rw [if_neg hz]
    exact q
  · rw [if_neg e]
    exact q
theorem case_len (h : SqT K H a r) (hz : r.length ≠ n) (q : tr (.ref a) D σ H) : tCase (tPSeq K n u) tb tr (.ref a) D σ H := by
  refine ⟨a, _, rfl, h, ?_⟩
  rw [if_neg hz]
  exact q
theorem case_hit (h : SqT K H a (.str x :: r)) (hl : r.length + 1 = n) (q : u r H fun c => match c with
    | none => tr (.ref a) D σ H
    | some bs => tb D (setAll σ bs) H) : tCase (tPSeq K n (tPCons (tPStr x) u)) tb tr (.ref a) D σ H := by
  refine ⟨a, _, rfl, h, ?_⟩
  rw [if_pos (show (V.str x :: r).length = n from hl)]
  refine ⟨_, _, rfl, x, rfl, ?_⟩
  rw [if_pos rfl]
  exact q
end
end Pw
namespace Pw
open PySem PySem.Spec PyProof.Rows L2
/-! ### expressions -/
inductive E where
  | num (n : Int) | cell (i : Nat) | prop (i : Nat) | store (i : Nat) | index
  | plus (a b : E) | minus (a b : E) | same (a b : E) | less (a b : E) | ite (c a b : E)
def E.toT : E → T
  | .num n => .tup [.str "num", .int n]
  | .cell i => .tup [.str "cell", .int (i : Int)]
  | .prop i => .tup [.str "prop", .int (i : Int)]
  | .store i => .tup [.str "store", .int (i : Int)]
  | .index => .tup [.str "index"]
  | .plus a b => .tup [.str "plus", a.toT, b.toT]
  | .minus a b => .tup [.str "minus", a.toT, b.toT]
  | .same a b => .tup [.str "same", a.toT, b.toT]
  | .less a b => .tup [.str "less", a.toT, b.toT]
  | .ite c a b => .tup [.str "if", c.toT, a.toT, b.toT]
def E.depth : E → Nat
  | .plus a b | .minus a b | .same a b | .less a b => max a.depth b.depth + 1
  | .ite c a b => max c.depth (max a.depth b.depth) + 1
  | _ => 0
def E.size : E → Nat
  | .plus a b | .minus a b | .same a b | .less a b => a.size + b.size
  | .ite c a b => c.size + a.size + b.size
  | _ => 1
structure Sc where
  cells : List Int
  props : List Int
  store : List Int
  index : Int
def Sc.toT (c : Sc) : T := .tup [.str "scope", .tup (c.cells.map .int), .tup (c.props.map .int), .tup (c.store.map .int), .int c.index]
def E.val (c : Sc) : E → Int
  | .num n => n
  | .cell i => c.cells.getD i 0
  | .prop i => c.props.getD i 0
  | .store i => c.store.getD i 0
  | .index => c.index
  | .plus a b => (a.val c + b.val c) % 1000
  | .minus a b => (a.val c - b.val c) % 1000
  | .same a b => if a.val c = b.val c then 1 else 0
  | .less a b => if a.val c < b.val c then 1 else 0
  | .ite q a b => if q.val c = 0 then b.val c else a.val c
def E.looks (c : Sc) : E → List Int
  | .store i => if i < c.store.length then [(i : Int)] else []
  | .plus a b | .minus a b | .same a b | .less a b => a.looks c ++ b.looks c
  | .ite q a b => q.looks c ++ if q.val c = 0 then b.looks c else a.looks c
  | _ => []
theorem E.size_pos : ∀ e : E, 1 ≤ e.size
  | .plus a b | .minus a b | .same a b | .less a b => by have := E.size_pos a; simp only [E.size]; omega
  | .ite q a b => by have := E.size_pos q; simp only [E.size]; omega
  | .num _ | .cell _ | .prop _ | .store _ | .index => by simp [E.size]
theorem E.looks_le (c : Sc) : ∀ e : E, (e.looks c).length ≤ e.size
  | .plus a b | .minus a b | .same a b | .less a b => by
    have h1 := E.looks_le c a
    have h2 := E.looks_le c b
    simp only [E.looks, E.size, List.length_append]
    omega
  | .ite q a b => by
    have h0 := E.looks_le c q
    have h1 := E.looks_le c a
    have h2 := E.looks_le c b
    simp only [E.looks, E.size, List.length_append]
    split <;> omega
  | .store i => by
    simp only [E.looks, E.size]
    split <;> simp
  | .num _ | .cell _ | .prop _ | .index => by simp [E.looks]
theorem getD_of {xs : List Int} {i : Nat} (h : i < xs.length) : (xs.map V.int)[i]? = some (.int (xs.getD i 0)) := by
  rw [List.getElem?_map, List.getElem?_eq_getElem h, List.getD_eq_getElem?_getD, List.getElem?_eq_getElem h]
  rfl
theorem getD_out {xs : List Int} {i : Nat} (h : ¬ i < xs.length) : xs.getD i 0 = 0 := by
  rw [List.getD_eq_getElem?_getD, List.getElem?_eq_none (by omega)]
  rfl
/-! ### what the defs promise -/
def spThere (K : PySem.W.Frag) : Sp := fun vs H Q _ => ∃ (a : Addr) (xs : List Int) (i : Nat), vs = [.ref a, .int (i : Int)] ∧ SqT K H a (xs.map V.int) ∧ Q (.bl (decide (i < xs.length))) H
def spItem (K : PySem.W.Frag) : Sp := fun vs H Q _ => ∃ (a : Addr) (xs : List Int) (i : Nat), vs = [.ref a, .int (i : Int)] ∧ SqT K H a (xs.map V.int) ∧ Q (.int (xs.getD i 0)) H
def spValue (n : Nat) : Sp := fun vs H Q _ => ∃ (e : E) (c : Sc) (ve vc : V) (l : Addr) (L : List V), vs = [ve, vc, .ref l] ∧ IsT H e.toT ve ∧ IsT H c.toT vc ∧ H l = some (.lst L) ∧ e.depth < n ∧ L.length + e.size ≤ 100000 ∧
  ∀ H', H' l = some (.lst (L ++ (e.looks c).map V.int)) → Oth [l] H H' → Q (.int (e.val c)) H'
end Pw
namespace Pw
open PySem PySem.Spec PyProof.Rows L2
theorem bo_int : bootBuiltins "int" = some (.type "int") := by decide +kernel
theorem bo_isi : bootBuiltins "isinstance" = some (.builtin "isinstance") := by decide +kernel
theorem bo_tuple : bootBuiltins "tuple" = some (.type "tuple") := by decide +kernel
theorem bo_bool : bootBuiltins "bool" = some (.type "bool") := by decide +kernel
theorem bo_str : bootBuiltins "str" = some (.type "str") := by decide +kernel
/-! ### what the law's own helpers promise -/
def spCell' (K : PySem.W.Frag) : Sp := fun vs H Q _ => ∃ (a : Addr) (ns : List Int) (j : Nat), vs = [.ref a, .int (j : Int)] ∧ SqL K H a (ns.map V.int) ∧ ∀ x : Int, Q (.int x) H
def spDigits (K : PySem.W.Frag) : Sp := fun vs H Q _ => ∃ (a : Addr) (ns : List Int) (i j : Nat), vs = [.ref a, .int (i : Int), .int (j : Int)] ∧ SqL K H a (ns.map V.int) ∧ i ≤ 100 ∧ j ≤ 100 ∧
  ∀ (p : Addr) (H' : Hp) (ds : List Int), H p = none → Oth [] H H' → H' p = some (.lst (ds.map V.int)) → Q (.ref p) H'
/-- the law's box: its digits, how many are drawn, what else stands in it -/
def Box (H : Hp) (b d : Addr) (rest : List V) : Prop := ∃ (ds : List Int) (at' : Nat), H b = some (.lst (.ref d :: .int (at' : Int) :: rest)) ∧ H d = some (.lst (ds.map V.int))
def spDraw : Sp := fun vs H Q _ => ∃ (b d : Addr) (m : Int) (rest : List V), vs = [.ref b, .int m] ∧ 0 < m ∧ Box H b d rest ∧
  ∀ (r : Int) (H' : Hp), 0 ≤ r → r < m → Box H' b d rest → Oth [b] H H' → Q (.int r) H'
theorem Box.new {H : Hp} {b d p : Addr} {rest : List V} {o : HO} (h : Box H b d rest) (n : H p = none) : Box (upd H p o) b d rest := by
  obtain ⟨ds, at', h1, h2⟩ := h
  exact ⟨ds, at', by rw [upd_ne (ne_of_none h1 n)]; exact h1, by rw [upd_ne (ne_of_none h2 n)]; exact h2⟩
theorem Box.put {H : Hp} {b d p : Addr} {rest : List V} {o : HO} (h : Box H b d rest) (nb : b ≠ p) (nd : d ≠ p) : Box (upd H p o) b d rest := by
  obtain ⟨ds, at', h1, h2⟩ := h
  exact ⟨ds, at', by rw [upd_ne nb]; exact h1, by rw [upd_ne nd]; exact h2⟩
theorem Box.is {H : Hp} {b d : Addr} {rest : List V} (h : Box H b d rest) : ∃ xs, H b = some (.lst xs) := by
  obtain ⟨ds, at', h1, h2⟩ := h
  exact ⟨_, h1⟩
theorem Box.nb {H : Hp} {b d p : Addr} {rest : List V} (h : Box H b d rest) (n : H p = none) : b ≠ p := by
  obtain ⟨ds, at', h1, h2⟩ := h
  exact ne_of_none h1 n
theorem Box.nd {H : Hp} {b d p : Addr} {rest : List V} (h : Box H b d rest) (n : H p = none) : d ≠ p := by
  obtain ⟨ds, at', h1, h2⟩ := h
  exact ne_of_none h2 n
theorem Box.oth {S : List Addr} {H H' : Hp} {b d : Addr} {rest : List V} (h : Box H b d rest) (o : Oth S H H') (nb : b ∉ S) (nd : d ∉ S) : Box H' b d rest := by
  obtain ⟨ds, at', h1, h2⟩ := h
  exact ⟨ds, at', o.keep _ _ nb h1, o.keep _ _ nd h2⟩
end Pw
namespace Pw
open PySem PySem.Spec PyProof.Rows L2
/-- data of at most so many levels, no row over 100,000 -/
inductive Dep : Nat → T → Prop
  | non (n : Nat) : Dep (n + 1) .non
  | int (n : Nat) (i : Int) : Dep (n + 1) (.int i)
  | str (n : Nat) (s : Str) : Dep (n + 1) (.str s)
  | tup (n : Nat) (ts : List T) : ts.length ≤ 100000 → (∀ t ∈ ts, Dep n t) → Dep (n + 1) (.tup ts)
def T.ty : T → String
  | .non => "NoneType" | .bl _ => "bool" | .int _ => "int" | .str _ => "str" | .tup _ => "tuple"
theorem IsT.ty {K : PySem.W.Frag} {H : Hp} {t : T} {v : V} (h : IsT H t v) : TyX K H v (.type t.ty) := by
  cases h with
  | non => exact .base .non
  | bl b => exact .base (.bl b)
  | int i => exact .base (.int i)
  | str s => exact .base (.str s)
  | tup e _ _ => exact .base (.tup e)
def spSame (n : Nat) : Sp := fun vs H Q _ => ∃ (t : T) (v u : V), vs = [v, u] ∧ IsT H t v ∧ IsT H t u ∧ Dep n t ∧ Q (.bl true) H
theorem Dep.mono {n m : Nat} {t : T} (h : Dep n t) (l : n ≤ m) : Dep m t := by
  induction h generalizing m with
  | non n => cases m with | zero => omega | succ m => exact .non m
  | int n i => cases m with | zero => omega | succ m => exact .int m i
  | str n s => cases m with | zero => omega | succ m => exact .str m s
  | tup n ts z _ ih => cases m with | zero => omega | succ m => exact .tup m ts z fun t ht => ih t ht (by omega)
theorem kb_NoneType_tuple : kitB "NoneType" "tuple" = some false := by decide +kernel
theorem kb_int_tuple : kitB "int" "tuple" = some false := by decide +kernel
theorem kb_int_bool : kitB "int" "bool" = some false := by decide +kernel
theorem kb_int_int : kitB "int" "int" = some true := by decide +kernel
theorem kb_str_tuple : kitB "str" "tuple" = some false := by decide +kernel
theorem kb_str_bool : kitB "str" "bool" = some false := by decide +kernel
theorem kb_str_int : kitB "str" "int" = some false := by decide +kernel
theorem kb_str_str : kitB "str" "str" = some true := by decide +kernel
theorem kb_tuple_tuple : kitB "tuple" "tuple" = some true := by decide +kernel
end Pw
namespace Pw
open PySem PySem.Spec PyProof.Rows L2
def spWide (n : Nat) : Sp := fun vs H Q _ => ∃ (b dg : Addr) (d : Nat), vs = [.ref b, .int (d : Int)] ∧ d < n ∧ Box H b dg [] ∧
  ∀ (e : E) (v : V) (H' : Hp), e.depth ≤ d → e.size ≤ 3 ^ d → IsT H' e.toT v → Box H' b dg [] → Oth [b] H H' → Q v H'
/-- _law_value: the scope is a list -/
def spLawValue (n : Nat) : Sp := fun vs H Q _ => ∃ (e : E) (c : Sc) (ve : V) (s ac ap as l : Addr) (L : List V), vs = [ve, .ref s, .ref l] ∧ IsT H e.toT ve ∧ H s = some (.lst [.ref ac, .ref ap, .ref as, .int c.index]) ∧
  H ac = some (.tup (c.cells.map V.int)) ∧ H ap = some (.tup (c.props.map V.int)) ∧ H as = some (.tup (c.store.map V.int)) ∧ s ≠ l ∧ H l = some (.lst L) ∧ e.depth < n ∧ L.length + e.size ≤ 100000 ∧
  ∀ H', H' l = some (.lst (L ++ (e.looks c).map V.int)) → Oth [l] H H' → Q (.int (e.val c)) H'
theorem at0 {x : V} {xs : List V} : atI (x :: xs) 0 = some x := atI_nat (j := 0) rfl
theorem at1 {x y : V} {xs : List V} : atI (x :: y :: xs) 1 = some y := atI_nat (j := 1) rfl
theorem at2 {x y z : V} {xs : List V} : atI (x :: y :: z :: xs) 2 = some z := atI_nat (j := 2) rfl
theorem at3 {x y z a : V} {xs : List V} : atI (x :: y :: z :: a :: xs) 3 = some a := atI_nat (j := 3) rfl
theorem at4 {x y z a b : V} {xs : List V} : atI (x :: y :: z :: a :: b :: xs) 4 = some b := atI_nat (j := 4) rfl
theorem at5 {x y z a b c : V} {xs : List V} : atI (x :: y :: z :: a :: b :: c :: xs) 5 = some c := atI_nat (j := 5) rfl
theorem sz {n : Nat} (h : n ≤ 1000 := by exact Nat.le_of_ble_eq_true rfl) : n ≤ sizeLine := Nat.le_of_lt (small1000 h)
theorem iteTd {p A B : Prop} [Decidable p] (hp : p) (h : A) : if decide p = true then A else B := by rw [decide_eq_true hp]; exact iteT h
theorem iteFd {p A B : Prop} [Decidable p] (hp : ¬ p) (h : B) : if decide p = true then A else B := by rw [decide_eq_false hp]; exact iteF h
theorem iteTb {b : Bool} {A B : Prop} (hb : b = true) (h : A) : if b = true then A else B := by rw [hb]; exact iteT h
theorem iteFb {b : Bool} {A B : Prop} (hb : b = false) (h : B) : if b = true then A else B := by rw [hb]; exact iteF h
theorem lt1 {x y w : V} {r : List V} (h : eqV x w = false) : ∀ (m : Nat) (z' : V), m < 1 → (x :: y :: r)[m]? = some z' → eqV z' w = false := fun m z' hm e => by
  obtain rfl : m = 0 := by omega
  cases e
  exact h
theorem lt2 {x y z w : V} {r : List V} (h : eqV x w = false) (h2 : eqV y w = false) : ∀ (m : Nat) (z' : V), m < 2 → (x :: y :: z :: r)[m]? = some z' → eqV z' w = false := fun m z' hm e => by
  rcases (by omega : m = 0 ∨ m = 1) with rfl | rfl
  · cases e; exact h
  · cases e; exact h2
end Pw
namespace Pw
open PySem PySem.Spec PyProof.Rows L2
/-- the i-th pair, made behind the generator's frame at C -/
def PairAt (rows : List (Value × Value)) (C : Addr) (i : Nat) (v : Value) (h : Heap) : Prop :=
  ∃ (a : Addr) (x y : Value), v = .ref a ∧ C < a ∧ rows[i]? = some (x, y) ∧ h.get? a = some { cls := .type "tuple", data := .seq #[x, y] }
theorem PairAt.later {rows : List (Value × Value)} {C : Addr} {i : Nat} {v : Value} {h h' : Heap} (p : PairAt rows C i v h) (k : ∀ b o, C < b → o.cls = .type "tuple" → h.get? b = some o → h'.get? b = some o) : PairAt rows C i v h' := by
  obtain ⟨a, x, y, e, lt, r, g⟩ := p
  exact ⟨a, x, y, e, lt, r, k a _ lt rfl g⟩
def PxY (C : Addr) (fp wr : List Addr) (n₀ : Nat) (rows : List (Value × Value)) : Protocol := fun m s₀ v s kap =>
  PairAt rows C (n₀ - 1 - m) v s.heap ∧ GenSince C wr s₀ s ∧ ∀ s2 : Shared, (∀ b ∈ C :: fp, ∀ o, s.heap.get? b = some o → s2.heap.get? b = some o) → kap (.send .none) s2
abbrev PxEnd (C : Addr) (wr : List Addr) : GenEnd := fun n s₀ r s₁ => r = .ok .next ∧ (n = 0 ∧ GenSince C wr s₀ s₁)
section
variable {prog : Program} {w : World} {A : Around}
/-- what the walked rows are -/
structure RowsAt (items : Array Value) (rows : List (Value × Value)) (fp wr : List Addr) (href : Heap) : Prop where
  at' : ∀ (i : Nat) (v : Value), items[i]? = some v → ∃ (t : Addr) (x y z : Value), v = .ref t ∧ t ∈ fp ∧ t ∉ wr ∧ IsTup href t #[x, y, z] ∧ rows[i]? = some (x, y)
structure NamesAt (cenv : Env) (xa xb xc : Str) : Prop where
  ka : cenv.kindOf xa = some .local
  kb : cenv.kindOf xb = some .local
  kc : cenv.kindOf xc = some .local
  ab : xa ≠ xb
  ac : xa ≠ xc
  bc : xb ≠ xc
  kind : cenv.scope.kind = .function
  co : cenv.scope.isCoroutine = false
  da : (xa == ("__debug__" : Str)) = false
  db : (xb == ("__debug__" : Str)) = false
theorem pair_made {E : Value → Shared → Prop} {s : Shared} {cenv : Env} {xa xb xc : Str} {q1 q2 q3 : Pos} {k1 : Nat} {m : Str → Option Value} {x y : Value} {Q : Value → Shared → Prop} (N : NamesAt cenv xa xb xc) (hn : s.heap.Ns cenv.locals m) (ha : m xa = some x) (hb : m xb = some y)
    (h : Q (.ref s.heap.objs.size) { s with heap := s.heap.push { cls := .type "tuple", data := .seq #[x, y] } }) : wpAny (model prog w) A (eval (.Tuple [.Name xa q1, .Name xb q2] k1 q3) cenv) Q E s := by
  refine wpAny_Tuple_spliced (PyProof.Rows.args_cons (wpAny_Name (wpAny_loadName_local N.kind N.ka hn ha (PyProof.Rows.args_cons (wpAny_Name (wpAny_loadName_local N.kind N.kb hn hb (PyProof.Rows.args_nil ⟨?_, h⟩)) N.db))) N.da))
  show 2 ≤ sizeLine
  decide
theorem seg_pairs {iter : Expr} {xa xb xc : Str} {pa pb pc pt q1 q2 q3 : Pos} {kt k1 : Nat} {scope : Scope} {pos : Pos} {I : Addr} {fp wr : List Addr} {items : Array Value} {rows : List (Value × Value)} {W2 : Nat → Heap → Prop} {cenv : Env}
    (hh : A.handled = none) (W₀ : ∀ A' : Around, A'.handled = none → Walks prog w A' I fp wr items.size (fun i v => items[i]? = some v) W2) (href : Heap) (N : NamesAt cenv xa xb xc) (R : RowsAt items rows fp wr href)
    (hI : ∀ i h, W2 i h → ∃ (o : Obj) (vs : Array Value), h.get? I = some o ∧ o.cls = .type "list_iterator" ∧ o.data = .fields vs) (hCf : cenv.locals ∉ fp) :
    ∀ (k i : Nat) (s₀ s : Shared) (m : Str → Option Value), items.size - i = k → i ≤ items.size → W2 i s.heap → s.heap.Ns cenv.locals m → GenSince cenv.locals wr s₀ s →
      (∀ b ∈ fp, b ∉ wr → ∀ o, href.get? b = some o → s.heap.get? b = some o) →
      Seg (model prog w) A (PxEnd cenv.locals wr) (PxY cenv.locals fp wr items.size rows) (items.size - i) s₀
        (.compLoop (.GeneratorExp (.Tuple [.Name xa q1, .Name xb q2] k1 q3) [⟨.Tuple [.Name xa pa, .Name xb pb, .Name xc pc] kt pt, iter, [], 0⟩] scope pos) 0 (.ref I) .none cenv)
        ((model prog w).den (.compLoop (.GeneratorExp (.Tuple [.Name xa q1, .Name xb q2] k1 q3) [⟨.Tuple [.Name xa pa, .Name xb pb, .Name xc pc] kt pt, iter, [], 0⟩] scope pos) 0 (.ref I) .none cenv)) [] s := by
  have hA : (A.over (.compLoop (.GeneratorExp (.Tuple [.Name xa q1, .Name xb q2] k1 q3) [⟨.Tuple [.Name xa pa, .Name xb pb, .Name xc pc] kt pt, iter, [], 0⟩] scope pos) 0 (.ref I) .none cenv) []).handled = none := hh
  have hCw : cenv.locals ∉ wr := fun z => hCf ((W₀ A hh).sub _ z)
  have hp : (cenv.scope.kind == .class || (cenv.scope.kind == .module && cenv.locals != cenv.globals)) = false := by rw [N.kind]; rfl
  intro k
  induction k with
  | zero =>
    intro i s₀ s m hk hi hst hn hsince hkp
    obtain rfl : i = items.size := by omega
    show Seg _ A _ _ _ s₀ _ ((compTurn (.GeneratorExp (.Tuple [.Name xa q1, .Name xb q2] k1 q3) [⟨.Tuple [.Name xa pa, .Name xb pb, .Name xc pc] kt pt, iter, [], 0⟩] scope pos) 0 (.ref I) .none cenv).onRaise (leaving cenv)) [] s
    rw [compTurn_gen, Sem.onRaise_eq_wrap, hk]
    refine seg_bind_wrap (wpAny_standAt (seg_bind_wrap ((W₀ _ hA).done s _ _ hst fun h' tk hk' => ?_)))
    exact seg_end (.ok .next) ⟨rfl, rfl, hsince.step fun b o _ hw e => hk' b o hw e⟩
  | succ k ih =>
    intro i s₀ s m hk hi hst hn hsince hkp
    have hlt : i < items.size := by omega
    obtain ⟨r, hr⟩ : ∃ r, items.size - i = r + 1 := ⟨items.size - i - 1, by omega⟩
    have hr' : items.size - (i + 1) = r := by omega
    show Seg _ A _ _ _ s₀ _ ((compTurn (.GeneratorExp (.Tuple [.Name xa q1, .Name xb q2] k1 q3) [⟨.Tuple [.Name xa pa, .Name xb pb, .Name xc pc] kt pt, iter, [], 0⟩] scope pos) 0 (.ref I) .none cenv).onRaise (leaving cenv)) [] s
    rw [compTurn_gen, Sem.onRaise_eq_wrap, hr]
    refine seg_bind_wrap (wpAny_standAt (seg_bind_wrap ((W₀ _ hA).item i s _ _ hlt hst fun v h₁ tk₁ hPv hst₁ hk₁ => ?_)))
    obtain ⟨t, x, y, z, rfl, htf, htw, htup, hrow⟩ := R.at' i v hPv
    obtain ⟨oI, vI, eI, cI, dI⟩ := hI _ _ hst₁
    refine seg_bind_wrap (go_of (s := { s with heap := h₁, toks := tk₁ }) (n := "list_iterator") eI cI dI (by decide) ?_)
    have t1 : IsTup h₁ t #[x, y, z] := by
      obtain ⟨o, e, c⟩ := htup
      exact ⟨o, hk₁ t o htw (hkp t htf htw o e), c⟩
    refine seg_bind_wrap (assign_Tuple_tuple (s := { s with heap := h₁, toks := tk₁ }) hA t1 rfl rfl fun h₂ hx₂ => ?_)
    have k2 : ∀ b o, h₁.get? b = some o → h₂.get? b = some o := fun b o e => hx₂ b o (Nat.ne_of_lt (Heap.lt_size e)) e
    have n2 : h₂.Ns cenv.locals m := (hn.at' fun o e => hk₁ _ o hCw e).at' fun o e => k2 _ o e
    refine assignInOrder_cons (wpAny_assign_Name (wpAny_storeName_local N.ka n2 (fun h₃ n3 b3 => ?_) hp))
    refine assignInOrder_cons (wpAny_assign_Name (wpAny_storeName_local N.kb n3 (fun h₄ n4 b4 => ?_) hp))
    refine assignInOrder_cons (wpAny_assign_Name (wpAny_storeName_local N.kc n4 (fun h₅ n5 b5 => assignInOrder_nil ?_) hp))
    have up : ∀ b o, b ≠ cenv.locals → h₁.get? b = some o → h₅.get? b = some o := fun b o hb e => b5.extBut b o hb (b4.extBut b o hb (b3.extBut b o hb (k2 b o e)))
    have hst5 : W2 (i + 1) h₅ := (W₀ A hh).frame _ _ _ hst₁ fun b hb o e => up b o (fun z => hCf (z ▸ hb)) e
    have hkp5 : ∀ b ∈ fp, b ∉ wr → ∀ o, href.get? b = some o → h₅.get? b = some o := fun b hb hw o e => up b o (fun z => hCf (z ▸ hb)) (hk₁ b o hw (hkp b hb hw o e))
    have since5 : GenSince cenv.locals wr s₀ { s with heap := h₅, toks := tk₁ } := hsince.step fun b o hC hw e => up b o hC (hk₁ b o hw e)
    refine seg_bind_wrap ?_
    rw [List.forIn_nil]
    refine wpAny_pure ?_
    simp only [if_true]
    have hy : ∀ v, yieldOut cenv v = yieldValue v := fun v => by simp only [yieldOut, N.co, Bool.false_eq_true, if_false]
    simp only [hy]
    rw [Sem.bind_eq_wrap', Sem.bind_eq_wrap', Sem.wrap_wrap, Sem.wrap_wrap]
    obtain ⟨m5, n5, ha5, hb5⟩ : ∃ m5, h₅.Ns cenv.locals m5 ∧ m5 xa = some x ∧ m5 xb = some y := ⟨_, n5, by simp [N.ab, N.ac], by simp [N.bc]⟩
    refine seg_wrap (pair_made N (m := m5) ?hn ha5 hb5 ?_)
    case hn => exact n5
    have hC5 : cenv.locals < h₅.objs.size := n5.lt
    have new5 : ∀ b o, h₅.get? b = some o → (h₅.push { cls := .type "tuple", data := .seq #[x, y] }).get? b = some o := fun b o e => Heap.get?_push_of_some _ e
    refine seg_at (seg_yield rfl rfl rfl ⟨⟨h₅.objs.size, x, y, rfl, hC5, ?_, Heap.get?_push_size _ rfl⟩, since5.step fun b o _ _ e => new5 b o e, fun s2 hal => ?_⟩)
    · rw [show items.size - 1 - r = i by omega]
      exact hrow
    · have again := ih (i + 1) s2 s2 _ (by omega) hlt ((W₀ A hh).frame _ _ _ hst5 fun b hb o e => hal b (List.mem_cons_of_mem _ hb) o (new5 b o e))
        ((n5.keeps new5).at' fun o e => hal _ List.mem_cons_self o e) (GenSince.refl _ _ _) fun b hb hw o e => hal b (List.mem_cons_of_mem _ hb) o (new5 b o (hkp5 b hb hw o e))
      rw [hr'] at again
      exact seg_again rfl again
end
end Pw
namespace Pw
open PySem PySem.Spec PyProof.Rows L2
section
variable {prog : Program} {w : World} {A : Around}
theorem seg_pairs0 {iter : Expr} {xa xb xc : Str} {pa pb pc pt q1 q2 q3 : Pos} {kt k1 : Nat} {scope : Scope} {pos : Pos} {I : Addr} {fp wr : List Addr} {items : Array Value} {rows : List (Value × Value)} {W2 : Nat → Heap → Prop} {cenv : Env}
    (hh : A.handled = none) (W₀ : ∀ A' : Around, A'.handled = none → Walks prog w A' I fp wr items.size (fun i v => items[i]? = some v) W2) (href : Heap) (N : NamesAt cenv xa xb xc) (R : RowsAt items rows fp wr href)
    (hI : ∀ i h, W2 i h → ∃ (o : Obj) (vs : Array Value), h.get? I = some o ∧ o.cls = .type "list_iterator" ∧ o.data = .fields vs) (hCf : cenv.locals ∉ fp)
    (s₀ s : Shared) (m : Str → Option Value) (hst : W2 0 s.heap) (hn : s.heap.Ns cenv.locals m) (hsince : GenSince cenv.locals wr s₀ s) (hkp : ∀ b ∈ fp, b ∉ wr → ∀ o, href.get? b = some o → s.heap.get? b = some o) :
    Seg (model prog w) A (PxEnd cenv.locals wr) (PxY cenv.locals fp wr items.size rows) items.size s₀
      (.compStart (.GeneratorExp (.Tuple [.Name xa q1, .Name xb q2] k1 q3) [⟨.Tuple [.Name xa pa, .Name xb pb, .Name xc pc] kt pt, iter, [], 0⟩] scope pos) 0 (.ref I) .none cenv)
      ((model prog w).den (.compStart (.GeneratorExp (.Tuple [.Name xa q1, .Name xb q2] k1 q3) [⟨.Tuple [.Name xa pa, .Name xb pb, .Name xc pc] kt pt, iter, [], 0⟩] scope pos) 0 (.ref I) .none cenv)) [] s := by
  have hA : (A.over (.compStart (.GeneratorExp (.Tuple [.Name xa q1, .Name xb q2] k1 q3) [⟨.Tuple [.Name xa pa, .Name xb pb, .Name xc pc] kt pt, iter, [], 0⟩] scope pos) 0 (.ref I) .none cenv) []).handled = none := hh
  have turns := seg_pairs (iter := iter) (pa := pa) (pb := pb) (pc := pc) (pt := pt) (q1 := q1) (q2 := q2) (q3 := q3) (kt := kt) (k1 := k1) (scope := scope) (pos := pos) hh W₀ href N R hI hCf items.size 0 s₀ s m (Nat.sub_zero _) (Nat.zero_le _) hst hn hsince hkp
  rw [Nat.sub_zero] at turns
  show Seg _ A _ _ _ s₀ _ ((compStart (.GeneratorExp (.Tuple [.Name xa q1, .Name xb q2] k1 q3) [⟨.Tuple [.Name xa pa, .Name xb pb, .Name xc pc] kt pt, iter, [], 0⟩] scope pos) 0 (.ref I) .none cenv).onRaise (leaving cenv)) [] s
  unfold compStart
  rw [Sem.onRaise_eq_wrap]
  refine seg_bind_wrap (wpAny_askSetting ?_)
  split
  · exact seg_again rfl turns
  · exact seg_bind_wrap (wpAny_rule (seg_bind_wrap (wpAny_standAt (seg_bind_wrap ((W₀ _ hA).self 0 s _ _ hst (seg_again rfl turns))))))
/-- the generator object at a, j pairs are out -/
def PxAt (prog : Program) (w : World) (A : Around) (a : Addr) (g : Nat) (C : Addr) (fp wr : List Addr) (n : Nat) (rows : List (Value × Value)) (j : Nat) (s : Shared) : Prop :=
  s.heap.IsGen a g ∧ s.heap.NoLimit ∧ ∃ gs, s.gens[g]? = some gs ∧ ∀ s2 : Shared, (∀ b ∈ C :: fp, ∀ o, s.heap.get? b = some o → s2.heap.get? b = some o) →
    gs.Goes (model prog w) A.in1 (PxEnd C wr) (PxY C fp wr n rows) (n - j) (.send .none) s2
/-- a walk whose items are new objects -/
structure WalksP (prog : Program) (w : World) (A : Around) (a : Addr) (fp wr : List Addr) (G : Array GenState → Array GenState → Prop) (n : Nat) (P : Nat → Value → Heap → Prop) (St : Nat → Shared → Prop) : Prop where
  sub : ∀ b ∈ wr, b ∈ fp
  g1 : ∀ x, G x x
  g2 : ∀ x y z, G x y → G y z → G x z
  later : ∀ i v h h', P i v h → (∀ b o, b ∉ wr → o.cls = .type "tuple" → h.get? b = some o → h'.get? b = some o) → P i v h'
  stay : ∀ i (s : Shared) h' tk, St i s → (∀ b ∈ fp, ∀ o, s.heap.get? b = some o → h'.get? b = some o) → St i { s with heap := h', toks := tk }
  next : ∀ i (s : Shared) (Q : Option Value → Shared → Prop) (E : Value → Shared → Prop), i < n → St i s → (∀ v s', P i v s'.heap → St (i + 1) s' → Moved wr G s s' → Q (some v) s') → wpAny (model prog w) A (pyNext (.ref a)) Q E s
  last : ∀ (s : Shared) (Q : Option Value → Shared → Prop) (E : Value → Shared → Prop), St n s → (∀ s', Moved wr G s s' → Q none s') → wpAny (model prog w) A (pyNext (.ref a)) Q E s
  iter : ∀ i (s : Shared) (Q : Value → Shared → Prop) (E : Value → Shared → Prop), St i s → Q (.ref a) s → wpAny (model prog w) A (pyIter (.ref a)) Q E s
theorem WalksP.up {a : Addr} {fp wr : List Addr} {G : Array GenState → Array GenState → Prop} {n : Nat} {P : Nat → Value → Heap → Prop} {St : Nat → Shared → Prop} (W : WalksP prog w A.in1 a fp wr G n P St) : WalksP prog w A a fp wr G n P St :=
  ⟨W.sub, W.g1, W.g2, W.later, W.stay, fun i s Q E h st q => wpAny_of_in1 (W.next i s Q E h st q), fun s Q E st q => wpAny_of_in1 (W.last s Q E st q), fun i s Q E st q => wpAny_of_in1 (W.iter i s Q E st q)⟩
theorem walks_px (hh : A.handled = none) {a : Addr} {g : Nat} {C : Addr} {fp wr : List Addr} {n : Nat} {rows : List (Value × Value)} (haC : a ≠ C) (haf : a ∉ fp) (hsub : ∀ b ∈ wr, b ∈ fp) (hlow : ∀ b ∈ fp, b < C)
    (hroom : A.depth < recursionLimit) (hcs : cStatics ∈ fp) (hcw : cStatics ∉ wr) :
    WalksP prog w A a (a :: C :: fp) (C :: wr) (GenOnlyQ g) n (PairAt rows C) (PxAt prog w A a g C fp wr n rows) where
  sub := fun b hb => by
    rcases List.mem_cons.mp hb with z | z
    · rw [z]; simp
    · exact List.mem_cons_of_mem _ (List.mem_cons_of_mem _ (hsub b z))
  g1 := fun _ => .inl rfl
  g2 := fun _ _ _ x y => x.trans y
  later := fun i v h h' p k => p.later fun b o lt c e => k b o (fun hb => by
    rcases List.mem_cons.mp hb with z | z
    · rw [z] at lt; exact Nat.lt_irrefl _ lt
    · exact Nat.lt_asymm lt (hlow b (hsub b z))) c e
  stay := fun j s h' tk st hk => by
    obtain ⟨⟨o, nm, qn, ho, r⟩, ⟨mc, hns, hnn⟩, gs, hgs, hgo⟩ := st
    exact ⟨⟨o, nm, qn, hk a List.mem_cons_self o ho, r⟩, ⟨mc, hns.at' fun o e => hk cStatics (List.mem_cons_of_mem _ (List.mem_cons_of_mem _ hcs)) o e, hnn⟩, gs, hgs, fun s2 hal => hgo s2 fun b hb o e => hal b hb o (hk b (List.mem_cons_of_mem _ hb) o e)⟩
  next := fun j s Q E hj st hQ => by
    obtain ⟨hg, hl, gs, hgs, hgo⟩ := st
    obtain ⟨m, hm⟩ : ∃ m, n - j = m + 1 := ⟨n - j - 1, by omega⟩
    rw [hm] at hgo
    refine wpAny_with_toks (Nat.le_refl s.toks) ?_
    refine wpAny_pyNext_genexpQ (P := fun n s₀ s₁ => n = 0 ∧ GenSince C wr s₀ s₁) hh hl hroom hg hgs (hgo _ fun _ _ _ e => e) (fun v s₁ gs' hb hv => ?_) (fun s₁ hp h' hk => absurd hp.1 (Nat.succ_ne_zero m))
    obtain ⟨hP, ⟨h₁, tk₁, rfl, hk₁⟩, hkap⟩ := hv
    have hix : n - 1 - (m + 1 - 1) = j := by omega
    rw [hix] at hP
    have haw : a ∉ wr := fun z => haf (hsub a z)
    have hcC : cStatics ≠ C := fun z => Nat.lt_irrefl _ (z ▸ hlow _ hcs)
    have s1 : ((s.setGen g .running).setGen g gs').gens[g]? = some gs' := setGen_self (gs := .running) (setGen_self hgs)
    intro htk
    refine hQ v _ hP ⟨?_, ?_, gs', s1, fun s2 hal => ?_⟩ ⟨fun b o hb' e => hk₁ b o (fun z => hb' (z ▸ List.mem_cons_self)) (fun z => hb' (List.mem_cons_of_mem _ z)) e, GenOnlyQ.of ((GenOnly.setGen s g .running).trans (GenOnly.setGen _ g gs')) s1 hb, rfl, rfl, htk⟩
    · obtain ⟨o, nm, qn, ho, r⟩ := hg
      exact ⟨o, nm, qn, hk₁ a o haC haw ho, r⟩
    · obtain ⟨mc, hns, hnn⟩ := hl
      exact ⟨mc, hns.at' fun o e => hk₁ cStatics o hcC hcw e, hnn⟩
    · rw [show n - (j + 1) = m by omega]
      exact hkap s2 hal
  last := fun s Q E st hQ => by
    obtain ⟨hg, hl, gs, hgs, hgo⟩ := st
    rw [Nat.sub_self] at hgo
    refine wpAny_with_toks (Nat.le_refl s.toks) ?_
    refine wpAny_pyNext_genexpQ (P := fun n s₀ s₁ => n = 0 ∧ GenSince C wr s₀ s₁) hh hl hroom hg hgs (hgo _ fun _ _ _ e => e) (fun v s₁ gs' hb hv => ?_) (fun s₁ hp h' hk => ?_)
    · obtain ⟨_, _, hkap⟩ := hv
      exact (hkap s₁ fun _ _ _ e => e).elim
    · obtain ⟨_, h₁, tk₁, rfl, hk₁⟩ := hp
      have s1 : ((s.setGen g .running).setGen g .finished).gens[g]? = some .finished := setGen_self (gs := .running) (setGen_self hgs)
      intro htk
      exact hQ _ ⟨fun b o hb' e => hk b o (hk₁ b o (fun z => hb' (z ▸ List.mem_cons_self)) (fun z => hb' (List.mem_cons_of_mem _ z)) e), GenOnlyQ.of ((GenOnly.setGen s g .running).trans (GenOnly.setGen _ g .finished)) s1 rfl, rfl, rfl, htk⟩
  iter := fun _ _ _ _ st hQ => wpAny_pyIter_gen st.1 hQ
/-! ### tuple(..) of such a walk -/
abbrev lstO (acc : Array Value) (c : Nat) : Obj := { cls := .type "list", dict := none, data := .seq acc c, slots := #[] }
def AccP (P : Nat → Value → Heap → Prop) (n : Nat) (acc : Array Value) (h : Heap) : Prop := acc.size = n ∧ ∀ i v, acc[i]? = some v → P i v h
theorem AccP.push {P : Nat → Value → Heap → Prop} {n : Nat} {acc : Array Value} {h : Heap} {x : Value} (p : AccP P n acc h) (hx : P n x h) : AccP P (n + 1) (acc.push x) h := by
  refine ⟨by rw [Array.size_push, p.1], fun i v e => ?_⟩
  rw [Array.getElem?_push] at e
  split at e
  · rename_i z
    rw [z, p.1]
    cases e
    exact hx
  · exact p.2 i v e
variable {a : Addr} {fp wr : List Addr} {G : Array GenState → Array GenState → Prop} {n : Nat} {P : Nat → Value → Heap → Prop} {St : Nat → Shared → Prop}
theorem loop_p (W : WalksP prog w A.in1 a fp wr G n P St) (hn : n ≤ sizeLine) (S : Addr) (hSf : S ∉ fp) (res : Value) {R : Result → Shared → Prop} :
    ∀ (k i : Nat) (s : Shared) (acc : Array Value) (c : Nat), n - i = k → i ≤ n → St i s → s.heap.get? S = some (lstO acc c) → AccP P i acc s.heap →
    (∀ s' acc' c', Moved (S :: wr) G s s' → s'.heap.get? S = some (lstO acc' c') → AccP P n acc' s'.heap → R (.ok (.ret res)) s') →
    codeAny (model prog w) A (.builtin "list.extend.loop" ⟨[.ref S, .ref a, res], []⟩) R s := by
  have hSw : S ∉ wr := fun z => hSf (W.sub _ z)
  have more : ∀ b ∈ wr, b ∈ S :: wr := fun b hb => List.mem_cons_of_mem _ hb
  intro k
  induction k with
  | zero =>
    intro i s acc c hk hi st hS hacc hR
    obtain rfl : i = n := by omega
    refine codeAny_builtin F.entry_extend_loop ?_
    rw [Around.under_plainId F.plain_extend_loop _]
    refine wpAny_bind (m := pyNext (.ref a)) (W.last s _ _ st fun s' hm => wpAny_pure ?_)
    exact hR s' acc c (hm.mono more) (hm.heap S _ hSw hS) ⟨hacc.1, fun j v e => W.later j v _ _ (hacc.2 j v e) fun b o hb _ q => hm.heap b o hb q⟩
  | succ k ih =>
    intro i s acc c hk hi st hS hacc hR
    have hlt : i < n := by omega
    refine codeAny_builtin F.entry_extend_loop ?_
    rw [Around.under_plainId F.plain_extend_loop _]
    refine wpAny_bind (m := pyNext (.ref a)) (W.next i s _ _ hlt st fun v s' hP st' hm => ?_)
    have hS' := hm.heap S _ hSw hS
    have acc1 : AccP P i acc s'.heap := ⟨hacc.1, fun j u e => W.later j u _ _ (hacc.2 j u e) fun b o hb _ q => hm.heap b o hb q⟩
    have upd1 : ∀ b o, b ≠ S → s'.heap.get? b = some o → (s'.heap.update S (Obj.mapSeq (·.push v))).get? b = some o := fun b o hb e => (Heap.get?_update_other _ _ (fun z : S = b => hb z.symm)).trans e
    have tup1 : ∀ b o, b ∉ wr → o.cls = .type "tuple" → s'.heap.get? b = some o → (s'.heap.update S (Obj.mapSeq (·.push v))).get? b = some o := fun b o _ hc e => upd1 b o (fun z => by
      rw [z, hS'] at e
      cases e
      exact absurd hc (by intro q; injection q with q; exact absurd q (by decide))) e
    have acc2 : AccP P (i + 1) (acc.push v) (s'.heap.update S (Obj.mapSeq (·.push v))) :=
      AccP.push ⟨acc1.1, fun j u e => W.later j u _ _ (acc1.2 j u e) tup1⟩ (W.later i v _ _ hP tup1)
    show wpAny _ A.in1 (updateSeq S (·.push v) >>= _) _ _ _
    refine wpAny_bind (wpAny_updateSeq hS' rfl (wpAny_pure ⟨plainId_quiet F.plain_extend_loop _, ?_⟩) (by rw [hacc.1]; omega) (by show (acc.push v).size ≤ sizeLine + 1; rw [Array.size_push, hacc.1]; omega))
    refine ih (i + 1) _ (acc.push v) _ (by omega) hlt (W.stay _ s' _ s'.toks st' fun b hb o e => upd1 b o (fun z => hSf (z ▸ hb)) e) (Heap.get?_update_self _ hS' rfl) acc2 fun s2 acc' c' hm2 hS2 hacc2 => ?_
    refine hR s2 acc' c' (Moved.trans W.g2 ((hm.mono more).then_heap (Nat.le_refl _) fun b o hb e => ?_) hm2) hS2 hacc2
    exact upd1 b o (fun z => hb (z ▸ List.mem_cons_self)) e
end
end Pw
namespace Pw
open PySem PySem.Spec PyProof.Rows L2
open AutoSeq1 (wpAny_loadPart')
section
variable {prog : Program} {w : World} {A : Around} {E : Value → Shared → Prop} {s : Shared}
variable {a : Addr} {fp wr : List Addr} {G : Array GenState → Array GenState → Prop} {n : Nat} {P : Nat → Value → Heap → Prop} {St : Nat → Shared → Prop}
theorem collect_p {Q : List Value → Shared → Prop} (W : WalksP prog w A.in1 a fp wr G n P St) (hT : ∀ i s, St i s → s.TypeIs (.ref a) "generator") (st : St 0 s) (hfp : ∀ b ∈ fp, b < s.heap.objs.size) (ha : a ∈ fp) (hn : n ≤ sizeLine)
    (hQ : ∀ s' acc, Moved wr G s s' → AccP P n acc s'.heap → Q acc.toList s') : wpAny (model prog w) A (collect (.ref a)) Q E s := by
  have hSf : s.heap.objs.size ∉ fp := fun z => Nat.lt_irrefl _ (hfp _ z)
  have hSa : s.heap.objs.size ≠ a := fun z => hSf (z ▸ ha)
  unfold collect
  refine wpAny_bind (wpAny_runValue (codeAny_builtin F.entry_proto_collect ?_))
  rw [Around.under_plainId F.plain_proto_collect _]
  refine wpAny_bind (m := newList []) (wpAny_newObj_type (wpAny_pure ⟨plainId_quiet F.plain_list_iadd _, codeAny_builtin F.entry_list_iadd ?_⟩))
  rw [Around.under_plainId F.plain_list_iadd _]
  have st1 := W.stay 0 s (s.heap.push (lstO ([] : List Value).toArray 0)) s.toks st fun b _ o e => Heap.get?_push_of_some _ e
  show wpAny _ A.in1 (Builtin.List.listExtendWith (.ref s.heap.objs.size) (.ref a) (.ref s.heap.objs.size)) _ _ _
  unfold Builtin.List.listExtendWith
  refine wpAny_bind (wpAny_typeOf (hT 0 _ st1) ?_)
  have f1 : Builtin.List.listSameRef (.ref s.heap.objs.size) (.ref a) = false := by simp [Builtin.List.listSameRef, hSa]
  have f2 : (Value.type "generator" == Value.type "list") = false := by decide
  have f3 : (Value.type "generator" == Value.type "tuple") = false := by decide
  simp only [f1, f2, f3, Bool.or_false, Bool.false_eq_true, if_false]
  refine wpAny_bind (W.iter 0 _ _ _ st1 (wpAny_bind (wpAny_holding ?_)))
  unfold Builtin.List.listLengthHint
  refine wpAny_bind (wpAny_specialOf (hT 0 _ st1) F.gen_no_len ?_)
  refine wpAny_bind (m := specialOf (Value.ref a) (Str.ofString "__length_hint__")) (wpAny_specialOf (hT 0 _ st1) F.gen_no_hint (wpAny_pure ?_))
  refine wpAny_bind (m := rule "list.extend.makes-room") (wpAny_rule ?_)
  have g1 : (s.heap.push (lstO ([] : List Value).toArray 0)).get? s.heap.objs.size = some (lstO ([] : List Value).toArray 0) := Heap.get?_push_size _ rfl
  refine wpAny_bind ?_
  refine wpAny_bind (m := updateSeq s.heap.objs.size (·.push .none)) (wpAny_updateSeq g1 rfl ?_)
  have g2 := Heap.get?_update_self (Obj.mapSeq (·.push Value.none)) g1 rfl
  refine wpAny_updateSeq g2 rfl ?_
  have g3 := Heap.get?_update_self (Obj.mapSeq (·.pop)) g2 rfl
  have oth : ∀ b o, b ≠ s.heap.objs.size → (s.heap.push (lstO ([] : List Value).toArray 0)).get? b = some o →
      (((s.heap.push (lstO ([] : List Value).toArray 0)).update s.heap.objs.size (Obj.mapSeq (·.push Value.none))).update s.heap.objs.size (Obj.mapSeq (·.pop))).get? b = some o :=
    fun b o hb e => (Heap.get?_update_other _ _ (Ne.symm hb)).trans ((Heap.get?_update_other _ _ (Ne.symm hb)).trans e)
  refine wpAny_pure ⟨plainId_quiet F.plain_extend_loop _, loop_p W hn _ hSf _ n 0 _ _ _ rfl (Nat.zero_le _)
    (W.stay 0 ({ s with heap := s.heap.push (lstO ([] : List Value).toArray 0) } : Shared) _ s.toks st1 fun b hb o e => oth b o (fun z => hSf (z ▸ hb)) e) g3 ⟨rfl, fun i v e => by simp at e⟩ fun s' acc' c' hm hS' hacc => ?_⟩
  show wpAny _ A (load s.heap.objs.size >>= _) _ _ s'
  refine wpAny_bind (wpAny_load hS' (wpAny_pure ?_))
  refine hQ s' acc' (Moved.drop_new (o := lstO ([] : List Value).toArray 0) (tk := s.toks) (Moved.trans W.g2 ((Moved.refl W.g1).then_heap (Nat.le_refl _) fun b o hb e => ?_) hm) (Nat.le_refl _)) hacc
  exact oth b o (fun z => hb (z ▸ List.mem_cons_self)) e
theorem tuple_new_p {Q : Value → Shared → Prop} (W : WalksP prog w A.in1.in1 a fp wr G n P St) (hT : ∀ i s, St i s → s.TypeIs (.ref a) "generator") (st : St 0 s) (hfp : ∀ b ∈ fp, b < s.heap.objs.size) (ha : a ∈ fp) (hn : n ≤ sizeLine)
    (hQ : ∀ s' acc, Moved wr G s s' → AccP P n acc s'.heap → Q (.ref s'.heap.objs.size) { s' with heap := s'.heap.push { cls := .type "tuple", data := .seq acc } }) :
    codeAny (model prog w) A (.call (.builtin "tuple.__new__") ⟨[.type "tuple", .ref a], []⟩) (wants Q E) s := by
  refine codeAny_of_tree ?_
  refine wpAny_bind (m := checkBuiltinCall "tuple.__new__" ⟨[.type "tuple", .ref a], []⟩) (wpAny_of_eq (F.newCall_tuple_1 _) (wpAny_pure ⟨plainId_quiet F.plain_tuple_new _, codeAny_builtin F.entry_tuple_new ?_⟩))
  rw [Around.under_plainId F.plain_tuple_new _]
  have hsub := sub_tuple_self
  have hinit := init_tuple_lookup
  have hmh := madeHere_tuple
  have tI := hT 0 s st
  wp_walk using wpAny_typeOf tI, collect_p W hT st hfp ha hn
  intro s' acc hm hacc
  show wpAny _ _ (Builtin.Tuple.tupleExact acc.toList.toArray >>= fun v => ret v) _ _ _
  have e : acc.toList.toArray = acc := by simp
  rw [e]
  unfold Builtin.Tuple.tupleExact
  refine wpAny_bind (wpAny_newObj_type (wpAny_pure ?_) (by show acc.size ≤ sizeLine; rw [hacc.1]; exact hn))
  exact hQ s' acc hm hacc
theorem call_tuple_p {Q : Value → Shared → Prop} (W : WalksP prog w A.in1.in1.in1 a fp wr G n P St) (hT : ∀ i s, St i s → s.TypeIs (.ref a) "generator") (st : St 0 s) (hfp : ∀ b ∈ fp, b < s.heap.objs.size) (ha : a ∈ fp) (hn : n ≤ sizeLine)
    (hQ : ∀ s' acc, Moved wr G s s' → AccP P n acc s'.heap → Q (.ref s'.heap.objs.size) { s' with heap := s'.heap.push { cls := .type "tuple", data := .seq acc } }) :
    wpAny (model prog w) A (call (.type "tuple") [.ref a]) Q E s := by
  refine callType_codes (Q₁ := fun obj s₁ => s₁.TypeIs obj "tuple" ∧ Q obj s₁) F.called_tuple (F.typeCall_tuple_1 _) F.entry_object_init
    (tuple_new_p W hT st hfp ha hn fun s' acc hm hacc => ⟨⟨_, Heap.get?_push_size _ rfl, rfl⟩, hQ s' acc hm hacc⟩) fun obj s₁ h₁ => ?_
  exact ⟨h₁.1, F.args_object_init_2 obj _, object_init_meets F.called_tuple.init.lookup F.called_tuple.made (by decide) prog w A.in1 _ s₁ ⟨h₁.1, rfl, h₁.2⟩⟩
end
end Pw
namespace Pw
open PySem PySem.Spec PyProof.Rows L2
section
variable {X : Cx} {pins : List (Addr × Obj)} {σ : L2.St} {H1 H' : Hp} {s s1 : Shared}
def NewTup (n : Nat) (H : Hp) : Prop := ∀ b, n ≤ b → H b = none ∨ ∃ ys, H b = some (.tup ys)
/-- a tuple that stands there already, made behind s1, is tracked from now on -/
theorem track_one (I1 : Inv X pins σ H1 s1) (J : Inv X pins σ H' s) (hN : NewTup s1.heap.objs.size H') {a : Addr} (ha : s1.heap.objs.size ≤ a) {its : List Value} {xs : List V} (e : IsTup s.heap a its.toArray) (r : Vals xs its) (z : xs.length ≤ sizeLine) :
    ∃ H2, Inv X pins σ H2 s ∧ H2 a = some (.tup xs) ∧ (∀ b o, H' b = some o → H2 b = some o) ∧ NewTup s1.heap.objs.size H2 := by
  rcases hN a ha with n | ⟨ys, y⟩
  · have ne : ∀ {b : Addr}, b < s1.heap.objs.size → b ≠ a := fun h q => by rw [q] at h; exact absurd (Nat.lt_of_lt_of_le h ha) (Nat.lt_irrefl _)
    have old : ∀ b o, H' b = some o → upd H' a (.tup xs) b = some o := fun b o q => by rw [upd_ne (ne_of_none q n)]; exact q
    refine ⟨upd H' a (.tup xs), ⟨J.ok, J.os, J.bare, ⟨J.base.keep, J.base.slot, fun b o q hn hx => ?_, J.base.there, fun b ys q => old b _ (J.base.tups b ys q), fun b o u q => old b _ (J.base.frzs b o u q), fun b ps q => ?_⟩, J.loc, J.cell, ?_, fun x c q => ?_, fun p hp => ?_, fun b u q => ?_, J.len⟩, upd_same, old, fun b hb => ?_⟩
    · have lt : b < s1.heap.objs.size := Nat.lt_of_lt_of_le (Heap.lt_size q) I1.sz
      rw [upd_ne (ne lt)]
      exact J.base.free b o q hn hx
    · obtain ⟨more, m⟩ := J.base.tbls b ps q
      exact ⟨more, old b _ m⟩
    · rw [upd_ne (ne I1.lt)]
      exact J.free
    · obtain ⟨v, q2⟩ := I1.cell x c q
      rw [upd_ne (ne q2.lt)]
      exact J.freeC x c q
    · obtain ⟨g1, g2, g3, g4, g5⟩ := J.pin p hp
      refine ⟨g1, ?_, g3, g4, g5⟩
      rw [upd_ne (ne (Heap.lt_size (I1.pin p hp).1))]
      exact g2
    · by_cases hb : b = a
      · subst hb
        rw [upd_same] at q
        cases q
        exact ⟨z, its, r, e⟩
      · rw [upd_ne hb] at q
        exact (J.hok b u q).stay (fun c v _ k => k) (fun c k => old c _ k) fun c ys k => old c _ k
    · by_cases hb2 : b = a
      · exact .inr ⟨xs, by rw [hb2]; exact upd_same⟩
      · rw [upd_ne hb2]
        exact hN b hb
  · obtain ⟨its', r', e', _⟩ := J.tuple (SqT.of y)
    obtain ⟨o, g, c, n, d⟩ := e
    obtain ⟨o', g', c', n', d'⟩ := e'
    rw [g] at g'
    cases g'
    rw [d] at d'
    injection d' with d1 _
    have e3 : its = its' := by simpa using congrArg Array.toList d1
    subst e3
    exact ⟨H', J, by rw [y, r.inj r'], fun b o q => q, hN⟩
/-- rows of three, and what is taken of each -/
def RowsV (H : Hp) (rs : List V) (ps : List (V × V)) : Prop := Paired (fun (r : V) (p : V × V) => ∃ (t : Addr) (z : V), r = .ref t ∧ H t = some (.tup [p.1, p.2, z])) rs ps
def PairsV (H : Hp) (as : List Addr) (ps : List (V × V)) : Prop := Paired (fun (a : Addr) (p : V × V) => H a = some (.tup [p.1, p.2])) as ps
abbrev RelP (p : V × V) (q : Value × Value) : Prop := RelV p.1 q.1 ∧ RelV p.2 q.2
theorem rows_of (I : Inv X pins σ H' s) : ∀ {rs : List V} {ps : List (V × V)} {its : List Value}, RowsV H' rs ps → Vals rs its → ∃ qs : List (Value × Value), Paired RelP ps qs ∧ qs.length = its.length ∧
    ∀ (i : Nat) (v : Value), its[i]? = some v → ∃ (t : Addr) (x y z : Value), v = .ref t ∧ (∃ u, H' t = some u) ∧ IsTup s.heap t #[x, y, z] ∧ qs[i]? = some (x, y)
  | _, _, _, .nil, .nil => ⟨[], .nil, rfl, fun i v h => by simp at h⟩
  | _, _, _, .cons hp pr, .cons rv rr => by
    obtain ⟨qs, h1, h2, h3⟩ := rows_of I pr rr
    obtain ⟨t, z, rfl, ht⟩ := hp
    obtain ⟨its, rt, tp, _⟩ := I.tuple (SqT.of ht)
    cases rt with
    | cons ra rt =>
      cases rt with
      | cons rb rt =>
        cases rt with
        | cons rc rt =>
          cases rt
          rename_i x y w
          refine ⟨(x, y) :: qs, .cons ⟨ra, rb⟩ h1, congrArg (· + 1) h2, fun i v h => ?_⟩
          cases i with
          | zero =>
            cases h
            exact ⟨t, x, y, w, rv, ⟨_, ht⟩, tp, rfl⟩
          | succ i => exact h3 i v h
theorem pairs_get : ∀ {ps : List (V × V)} {qs : List (Value × Value)} {i : Nat} {q : Value × Value}, Paired RelP ps qs → qs[i]? = some q → ∃ p, ps[i]? = some p ∧ RelP p q
  | _, _, _, _, .nil, h => by simp at h
  | _, _, 0, _, .cons r _, h => by cases h; exact ⟨_, rfl, r⟩
  | _, _, i + 1, _, .cons _ t, h => pairs_get (i := i) t h
/-- all the pairs are tracked -/
theorem track_all (I1 : Inv X pins σ H1 s1) {C : Addr} (hC : s1.heap.objs.size ≤ C) : ∀ (ps : List (V × V)) (qs : List (Value × Value)) (vs : List Value) (H' : Hp), Paired RelP ps qs → Inv X pins σ H' s → NewTup s1.heap.objs.size H' → vs.length = qs.length →
    (∀ i v, vs[i]? = some v → PairAt qs C i v s.heap) → ∃ (H2 : Hp) (as : List Addr), Inv X pins σ H2 s ∧ Vals (as.map V.ref) vs ∧ PairsV H2 as ps ∧ (∀ b o, H' b = some o → H2 b = some o) ∧ NewTup s1.heap.objs.size H2
  | [], _, [], H', .nil, J, hN, _, _ => ⟨H', [], J, .nil, .nil, fun _ _ q => q, hN⟩
  | [], _, _ :: _, _, .nil, _, _, hl, _ => by cases hl
  | p :: ps, q :: qs, [], _, _, _, _, hl, _ => by cases hl
  | p :: ps, q :: qs, v :: vs, H', .cons r rr, J, hN, hl, hP => by
    obtain ⟨a, x, y, rfl, lt, e, g⟩ := hP 0 v rfl
    cases e
    obtain ⟨H3, J3, h3, k3, n3⟩ := track_one (xs := [p.1, p.2]) (its := [x, y]) I1 J hN (Nat.le_of_lt (Nat.lt_of_le_of_lt hC lt)) ⟨_, g, rfl, _, rfl⟩ (.cons r.1 (.cons r.2 .nil)) (by show 2 ≤ sizeLine; decide)
    obtain ⟨H4, as, J4, v4, p4, k4, n4⟩ := track_all I1 hC ps qs vs H3 rr J3 n3 (Nat.succ.inj hl) fun i u hu => by
      obtain ⟨a', x', y', e1, e2, e3, e4⟩ := hP (i + 1) u hu
      exact ⟨a', x', y', e1, e2, e3, e4⟩
    exact ⟨H4, a :: as, J4, .cons rfl v4, .cons (k4 _ _ h3) p4, fun b o z => k4 b o (k3 b o z), n4⟩
/-- the generator's own scope -/
structure GenS3 (env : Env) (scope : Scope) (xa xb xc : Str) : Prop where
  kind : scope.kind = .function
  co : scope.isCoroutine = false
  cell : ∀ y ∈ scope.names, y.2 ≠ .cell
  dot : scope.names.lookup (".0" : Str) = some NameKind.local
  la : scope.names.lookup xa = some .local
  lb : scope.names.lookup xb = some .local
  lc : scope.names.lookup xc = some .local
  ab : xa ≠ xb
  ac : xa ≠ xc
  bc : xb ≠ xc
  da : (xa == ("__debug__" : Str)) = false
  db : (xb == ("__debug__" : Str)) = false
  free : ∀ y ∈ scope.names, y.2 = .free → ∃ c, env.cells.lookup y.1 = some c
def tTupGen (K : PySem.W.Frag) (P : Addr) (te : TE) : TE := fun σ H Q => te σ H fun v H1 => ∃ (l : Addr) (rs : List V) (ps : List (V × V)), v = .ref l ∧ SqL K H1 l rs ∧ RowsV H1 rs ps ∧ rs.length ≤ 100000 ∧ GxR.TabG H1 P ∧
  ∀ (H2 : Hp) (q : Addr) (as : List Addr), PairsV H2 as ps → H2 q = some (.tup (as.map V.ref)) → (∀ b o, b ≠ P → H1 b = some o → H2 b = some o) → GxR.TabG H2 P → Q (.ref q) H2
end
end Pw
namespace Pw
open PySem PySem.Spec PyProof.Rows L2
section
variable {X : Cx}
theorem pe_tupGen {c P : Addr} {iter : Expr} {xa xb xc : Str} {p pos gpos pa pb pc pt q1 q2 q3 : Pos} {kt k1 : Nat} {scope : Scope} {te : TE} {k : Nat}
    (hr : Room k X.A) (TB : GxR.TabB X.base X.mg c P) (hcode : X.env.code = .ref c) (S : GenS3 X.env scope xa xb xc) (hg : Gl X "tuple") (hm : X.mg "tuple" = none) (hi : PE X iter te) (hs : ∀ v, genFold iter X.env v = pure v := by intro _; rfl)
    (na : starEach [.GeneratorExp (.Tuple [.Name xa q1, .Name xb q2] k1 q3) [⟨.Tuple [.Name xa pa, .Name xb pb, .Name xc pc] kt pt, iter, [], 0⟩] scope gpos] X.env =
      (false, eval (.GeneratorExp (.Tuple [.Name xa q1, .Name xb q2] k1 q3) [⟨.Tuple [.Name xa pa, .Name xb pb, .Name xc pc] kt pt, iter, [], 0⟩] scope gpos) X.env) :: starEach [] X.env := by rfl) :
    PE X (.Call (.Name "tuple" p) [.GeneratorExp (.Tuple [.Name xa q1, .Name xb q2] k1 q3) [⟨.Tuple [.Name xa pa, .Name xb pb, .Name xc pc] kt pt, iter, [], 0⟩] scope gpos] [] pos) (tTupGen X.K P te) := by
  refine ⟨fun pins s σ H Q I h => ?_⟩
  refine Call_ (ld_blt I hg hm boot_tuple (PyProof.Rows.callWith_type1 (PyProof.Rows.args_cons ?_ na) na))
  refine wpAny_GeneratorExp_make S.co (closure_ok S.free) S.cell S.dot S.kind (by have := hr.dp; omega) ?_ hs
  refine thn (hi.run pins s σ H _ I h) fun xv s1 ⟨v, H1, I1, r1, qq⟩ => ?_
  obtain ⟨l, rs, ps, rfl, hl, hrows, hlen, ⟨tb, hP, htb⟩, qq⟩ := qq
  obtain rfl : xv = Value.ref l := r1
  obtain ⟨its, rv, pl, hz⟩ := I1.list hl
  obtain ⟨qs, rp, lq, hq⟩ := rows_of I1 hrows rv
  have isl := pl.isList
  refine wpAny_pyIter_list isl ?_
  generalize ho : ({ cls := .type "list_iterator", data := .fields #[.ref l, .int 0 0] } : Obj) = o
  have it2 : (s1.heap.push o).IsListIter s1.heap.objs.size l 0 := by
    subst ho
    exact ⟨_, Heap.get?_push_size _ rfl, rfl, rfl⟩
  have l_lt : l < s1.heap.objs.size := by
    obtain ⟨_, e, _⟩ := _root_.id isl
    exact Heap.lt_size e
  have hPs : s1.heap.get? P = some { cls := .none, data := .fields tb } := I1.hok P _ hP
  have P_lt : P < s1.heap.objs.size := Heap.lt_size hPs
  have hP2 : (s1.heap.push o).get? P = some { cls := .none, data := .fields tb } := Heap.get?_push_of_some _ hPs
  have cd : PySem.W.CodeHd (s1.heap.push o) c P := TB.code.keeps fun b u e => Heap.get?_push_of_some _ (I1.bk b u e)
  have lim2 : (s1.heap.push o).NoLimit := I1.nolimit.push o
  have len_its : its.length = rs.length := rv.length.symm
  have rest : ∀ (code : Value) (h3 : Heap) (tk : Nat) (tb' : Array Value), Heap.ExtBut P (s1.heap.push o) h3 → (s1.heap.push o).objs.size ≤ h3.objs.size → h3.get? P = some { cls := .none, data := .fields tb' } → (∃ more, tb' = tb ++ more) → TriplesOk tb'.toList →
      wpAny (model X.prog X.w) X.A (builtinsFor X.env.globals X.env.builtins) (fun bi s4 => ∀ h' : Heap, h'.Ns s4.heap.objs.size (fun y => if y = ".0" then some (.ref s1.heap.objs.size) else none) → Heap.SameBut s4.heap.objs.size (s4.heap.push { cls := .type "frame", data := .dict #[] }) h' →
        wpAny (model X.prog X.w) X.A (spliced (backTo pos (starEach [] X.env))) (fun us s2 => wpAny (model X.prog X.w) X.A (call (.type "tuple") (Value.ref h'.objs.size :: us)) (EP X pins σ Q) X.xe s2) X.xe { s4 with
          gens := s4.gens.push (.fresh (.compStart (.GeneratorExp (.Tuple [.Name xa q1, .Name xb q2] k1 q3) [⟨.Tuple [.Name xa pa, .Name xb pb, .Name xc pc] kt pt, iter, [], 0⟩] scope gpos) 0 (.ref s1.heap.objs.size) .none (genEnv scope (cloFrom X.env.cells scope.names []) s4.heap.objs.size code bi X.env))),
          toks := s4.toks + 1 + 1 + 1,
          heap := h'.push { cls := .type "generator", data := .fields #[.int s4.gens.size 0, .str "<genexpr>" (s4.toks + 1), .str (X.env.qual ++ "<genexpr>") (s4.toks + 1 + 1)] } }) X.xe { s1 with heap := h3, toks := tk } := by
    intro code h3 tk tb' hx hsz hP3 hmore ht3
    obtain ⟨bm, ob, e1, e2, e3, e4, e5, e6, e7, e8⟩ := TB.bm
    have hcP : cStatics ≠ P := fun e => by
      obtain ⟨_, hns, _⟩ := I1.nolimit
      obtain ⟨o', es, ep, ho', hd, _⟩ := hns
      rw [e, hPs] at ho'
      cases ho'
      cases hd
    have c_lt : cStatics < s1.heap.objs.size := let ⟨_, hns, _⟩ := I1.nolimit; hns.lt
    have sz2 : (s1.heap.push o).objs.size = s1.heap.objs.size + 1 := Heap.size_push ..
    have k3 : ∀ b u, b ≠ P → s1.heap.get? b = some u → h3.get? b = some u := fun b u hb e => hx b u hb (Heap.get?_push_of_some _ e)
    refine wpAny_builtinsFor (m := X.mg) (by rw [I1.ok.glob]; exact ((I1.mod.glob.keeps I1.bk).push o).extBut hx TB.gP) e1 e2 (k3 _ _ e4 (I1.bk _ _ e5)) e6 e7 e8 ?_
    intro h' hn' hs'
    have C_ge : s1.heap.objs.size < h3.objs.size := by omega
    have lP : l ≠ P := fun z => by
      obtain ⟨_, e, hc1, _, hd1⟩ := _root_.id isl
      rw [z, hPs] at e
      cases e
      cases hd1
    have l3 : h3.IsList l its.toArray := by
      obtain ⟨ob, e, r⟩ := _root_.id isl
      exact ⟨ob, k3 _ _ lP e, r⟩
    have it3 : h3.IsListIter s1.heap.objs.size l 0 := it2.at fun u e => hx _ u (Nat.ne_of_gt P_lt) e
    have hsz' : h'.objs.size = h3.objs.size + 1 := by
      rw [hs'.1]
      exact Heap.size_push ..
    have k4 : ∀ b u, h3.get? b = some u → h'.get? b = some u := fun b u e => hs'.extBut b u (Nat.ne_of_lt (Heap.lt_size e)) (Heap.get?_push_of_some _ e)
    generalize hgo : ({ cls := .type "generator", data := .fields #[.int ({ s1 with heap := h3, toks := tk } : Shared).gens.size 0, .str "<genexpr>" (({ s1 with heap := h3, toks := tk } : Shared).toks + 1), .str (X.env.qual ++ "<genexpr>") (({ s1 with heap := h3, toks := tk } : Shared).toks + 1 + 1)] } : Obj) = go
    have k5 : ∀ b u, h3.get? b = some u → (h'.push go).get? b = some u := fun b u e => Heap.get?_push_of_some _ (k4 b u e)
    refine PyProof.Rows.args_nil ?_
    -- the walk over the generator
    have hh : X.A.handled = none := hr.hd
    have ne_l : l ≠ s1.heap.objs.size := Nat.ne_of_lt l_lt
    have W0 : ∀ A' : Around, A'.handled = none → Walks X.prog X.w A' s1.heap.objs.size (List.range h3.objs.size) [s1.heap.objs.size] its.toArray.size (fun i v => its.toArray[i]? = some v) (fun i h => h.IsListIter s1.heap.objs.size l i ∧ h.IsList l its.toArray) := fun A' hA =>
      (Walks.list hA _ _ ne_l _).mono_fp fun b hb => by
        rcases List.mem_cons.mp hb with z | z
        · rw [z]; exact List.mem_range.mpr C_ge
        · rcases List.mem_cons.mp z with z | z
          · rw [z]; exact List.mem_range.mpr (Nat.lt_trans l_lt C_ge)
          · cases z
    have hsub : ∀ b ∈ [s1.heap.objs.size], b ∈ List.range h3.objs.size := fun b hb => by
      rw [List.mem_singleton.mp hb]
      exact List.mem_range.mpr C_ge
    have a_ne : h'.objs.size ≠ h3.objs.size := by omega
    have a_nf : h'.objs.size ∉ List.range h3.objs.size := fun z => by have := List.mem_range.mp z; omega
    have W4 := walks_px (prog := X.prog) (w := X.w) (A := X.A.in4) hh (a := h'.objs.size) (g := s1.gens.size) (C := h3.objs.size) (fp := List.range h3.objs.size) (wr := [s1.heap.objs.size]) (n := its.toArray.size) (rows := qs) a_ne a_nf hsub (fun b hb => List.mem_range.mp hb)
      (by have := hr.dp; exact Nat.lt_of_le_of_lt (Nat.le_refl _) (show X.A.depth < recursionLimit by omega)) (List.mem_range.mpr (Nat.lt_trans c_lt C_ge)) (fun z => Nat.ne_of_lt c_lt (List.mem_singleton.mp z))
    have W3 : WalksP X.prog X.w X.A.in1.in1.in1 h'.objs.size (h'.objs.size :: h3.objs.size :: List.range h3.objs.size) (h3.objs.size :: [s1.heap.objs.size]) (GenOnlyQ s1.gens.size) its.toArray.size (PairAt qs h3.objs.size) (PxAt X.prog X.w X.A.in4 h'.objs.size s1.gens.size h3.objs.size (List.range h3.objs.size) [s1.heap.objs.size] its.toArray.size qs) := WalksP.up (A := X.A.in1.in1.in1) W4
    have NA : NamesAt (genEnv scope (cloFrom X.env.cells scope.names []) h3.objs.size code builtinsNs X.env) xa xb xc := ⟨S.la, S.lb, S.lc, S.ab, S.ac, S.bc, S.kind, S.co, S.da, S.db⟩
    have RA : RowsAt its.toArray qs (List.range h3.objs.size) [s1.heap.objs.size] (h'.push go) := ⟨fun i v hv => by
      obtain ⟨t, x, y, z, rfl, ⟨u, hu⟩, tp, e⟩ := hq i v (by simpa using hv)
      have t_lt : t < s1.heap.objs.size := I1.hok.lt hu
      have tP : t ≠ P := fun z' => by
        obtain ⟨o', g, c', _⟩ := tp
        rw [z', hPs] at g
        cases g
        cases c'
      refine ⟨t, x, y, z, rfl, List.mem_range.mpr (Nat.lt_trans t_lt C_ge), fun z' => Nat.ne_of_lt t_lt (List.mem_singleton.mp z'), ?_, e⟩
      obtain ⟨o', g, r⟩ := tp
      exact ⟨o', k5 _ _ (k3 _ _ tP g), r⟩⟩
    have st0 : PxAt X.prog X.w X.A.in4 h'.objs.size s1.gens.size h3.objs.size (List.range h3.objs.size) [s1.heap.objs.size] its.toArray.size qs 0
        { s1 with
          gens := s1.gens.push (.fresh (.compStart (.GeneratorExp (.Tuple [.Name xa q1, .Name xb q2] k1 q3) [⟨.Tuple [.Name xa pa, .Name xb pb, .Name xc pc] kt pt, iter, [], 0⟩] scope gpos) 0 (.ref s1.heap.objs.size) .none (genEnv scope (cloFrom X.env.cells scope.names []) h3.objs.size code builtinsNs X.env))),
          toks := tk + 1 + 1 + 1
          heap := h'.push go } := by
      refine ⟨?_, ((lim2.extBut hx hcP).keeps k5), _, Array.getElem?_push_size .., fun s2 hal => ⟨rfl, ?_⟩⟩
      · subst hgo
        exact ⟨_, _, _, Heap.get?_push_size _ rfl, rfl, rfl, rfl⟩
      · refine seg_pairs0 (A := X.A.in4.in1) (cenv := genEnv scope (cloFrom X.env.cells scope.names []) h3.objs.size code builtinsNs X.env) (m := fun y => if y = ".0" then some (.ref s1.heap.objs.size) else none) hh W0 (h'.push go) NA RA (fun i h q => ?_) (fun z => Nat.lt_irrefl _ (List.mem_range.mp z)) s2 s2 ?_ ?_ (GenSince.refl _ _ _) fun b hb _ ob e => hal b (List.mem_cons_of_mem _ hb) ob e
        · obtain ⟨⟨oI, g, c', d'⟩, _⟩ := q
          exact ⟨oI, _, g, c', d'⟩
        · refine (W0 X.A hh).frame _ _ _ (⟨it3.at fun u e => k5 _ u e, ?_⟩ : (h'.push go).IsListIter s1.heap.objs.size l 0 ∧ (h'.push go).IsList l its.toArray) fun b hb ob e => hal b (List.mem_cons_of_mem _ hb) ob e
          obtain ⟨ob, e, r⟩ := l3
          exact ⟨ob, k5 _ _ e, r⟩
        · exact (hn'.push go).at' fun ob e => hal _ List.mem_cons_self ob e
    refine call_tuple_p W3 (fun i s9 q => q.1.typeIs) st0 (fun b hb => ?_) List.mem_cons_self (by simp only [List.size_toArray]; rw [len_its]; exact Nat.le_trans hlen (by decide)) fun s' acc hmv hacc => ?_
    · show b < (h'.push go).objs.size
      rw [Heap.size_push]
      rcases List.mem_cons.mp hb with z | z
      · rw [z]; exact Nat.lt_succ_self _
      · rcases List.mem_cons.mp z with z | z
        · rw [z, hsz']; exact Nat.lt_succ_of_lt (Nat.lt_succ_self _)
        · have lt : b < h3.objs.size := List.mem_range.mp z
          rw [hsz']; exact Nat.lt_succ_of_lt (Nat.lt_succ_of_lt lt)
    · -- behind it
      obtain ⟨more, em⟩ := hmore
      have nwr : ∀ b u, s1.heap.get? b = some u → b ∉ h3.objs.size :: [s1.heap.objs.size] := fun b u e hb => by
        have lt := Heap.lt_size e
        rcases List.mem_cons.mp hb with z | z
        · rw [z] at lt; exact Nat.lt_asymm lt C_ge
        · rw [List.mem_singleton.mp z] at lt; exact Nat.lt_irrefl _ lt
      have bare : AllBare s'.gens := AllBare.movedS (I1.bare.push rfl) hmv
      have J := GxR.inv_tab (more := more) (h' := s'.heap) (g' := s'.gens) (d' := s'.drawn) (t' := s'.toks) I1 hP (fun b u hb e => hmv.heap b u (nwr b u e) (k5 b u (k3 b u hb e))) (by rw [← em]; exact hmv.heap P _ (nwr P _ hPs) (k5 P _ hP3)) bare
      rw [GxR.sh_eta s1 s' hmv.os] at J
      have nt0 : NewTup s1.heap.objs.size (upd H1 P (.tbl (tb ++ more))) := fun b hb => .inl (by
        rw [upd_ne (fun z => by rw [z] at hb; exact absurd (Nat.lt_of_lt_of_le P_lt hb) (Nat.lt_irrefl _))]
        exact I1.hok.fresh hb)
      have hal : acc.toList.length = qs.length := by
        rw [Array.length_toList, hacc.1, List.size_toArray]
        exact lq.symm
      obtain ⟨H2, as, J2, va, pp, kk, _⟩ := track_all I1 (Nat.le_of_lt C_ge) ps qs acc.toList _ rp J nt0 hal fun i v e => hacc.2 i v (by simpa using e)
      have hf : H2 s'.heap.objs.size = none := J2.hok.fresh (Nat.le_refl _)
      have J3 : Inv X pins σ (upd H2 s'.heap.objs.size (.tup (as.map V.ref))) { s' with heap := s'.heap.push { cls := .type "tuple", data := .seq acc } } :=
        J2.laid (t' := s'.toks) (fun b u e => Heap.get?_push_of_some _ e) (Nat.le_refl _) (show ObjOk X.prog X.w _ _ _ (.tup (as.map V.ref)) from ⟨by
          rw [va.length, Array.length_toList, hacc.1, List.size_toArray, len_its]
          exact Nat.le_trans hlen (by decide), acc.toList, va, ⟨_, Heap.get?_push_size _ rfl, rfl, 0, (by show Data.seq acc 0 = Data.seq acc.toList.toArray 0; rw [Array.toArray_toList])⟩⟩)
      have kp : ∀ b o', H2 b = some o' → upd H2 s'.heap.objs.size (.tup (as.map V.ref)) b = some o' := fun b o' e => by rw [upd_ne (ne_of_none e hf)]; exact e
      refine ⟨V.ref s'.heap.objs.size, _, J3, rfl, qq _ _ as ?_ upd_same (fun b o' hb e => kp b o' (kk b o' (by rw [upd_ne hb]; exact e))) ⟨tb ++ more, kp P _ (kk P _ upd_same), by rw [← em]; exact ht3⟩⟩
      exact Paired.mapP pp fun a p e => kp a _ e
  refine ⟨lim2, ?_⟩
  cases hf : codeAmong gpos tb.toList with
  | none =>
    refine wpAny_genexprCodeX hcode (cd.code hP2 htb) (cd.tab hP2) hf fun c' h3 tk hx hge hlt hco' _ htab' _ => ?_
    obtain ⟨o1, vs, f1, tf, fl, tg, inF, tx, tt, op, _, _, _, _, _, _, _, _, _, htr, _⟩ := hco'
    exact rest _ h3 tk _ hx (Nat.le_trans hge (Nat.le_of_lt hlt)) htab'.2 ⟨_, rfl⟩ htr
  | some cv =>
    refine wpAny_genexprCode_hit hcode (cd.code hP2 htb) hf ?_
    exact rest cv (s1.heap.push o) s1.toks tb (Heap.ExtBut.refl _ _) (Nat.le_refl _) hP2 ⟨#[], by simp⟩ htb
end
end Pw
namespace Pw
open PySem PySem.Spec PyProof.Rows L2
theorem enum_new_tup {v : Value} {o : Obj} {HH : Heap → Prop} (B : Begins v o HH) :
    Meets (Builtin.«enumerate.__new__» ⟨[.type "enumerate", v], []⟩) (fun _ R s => HH s.heap ∧
      R (.ok (.ret (.ref (s.heap.push o).objs.size))) { s with heap := (s.heap.push o).push { cls := .type "enumerate", data := .fields #[.none, .bool false, .ref s.heap.objs.size, rawInt 0, .none, .none] } }) :=
  .of_wp fun prog w A R s h => by
    obtain ⟨hp, g, d, tk, os⟩ := s
    obtain ⟨hB, h⟩ := h
    have isEnum := sub_enumerate
    have begun : ∀ {A' : Around} {E : Value → Shared → Prop} {Q : Value → Shared → Prop}, Q (.ref hp.objs.size) ⟨hp.push o, g, d, tk, os⟩ → wpAny (model prog w) A' (pyIter v) Q E ⟨hp, g, d, tk, os⟩ :=
      fun q => B.iter prog w _ _ ⟨hp, g, d, tk, os⟩ _ hB q
    wp_walk using begun
    refine wpAny_stack_any fun st => wpAny_pure ?_
    split
    · rename_i c _ _ _ _ _
      cases (c == Value.type "enumerate") <;> (wp_walk using begun; exact ⟨_, rfl, h⟩)
    · wp_walk using begun
      exact ⟨_, rfl, h⟩
section
variable {prog : Program} {w : World} {A : Around} {E : Value → Shared → Prop} {s : Shared}
theorem call_enum_tup {t : Addr} {items : Array Value} {Q : Value → Shared → Prop} (hT : IsTup s.heap t items)
    (h : ∀ h', IsEnum h' (s.heap.objs.size + 1) s.heap.objs.size 0 .none → h'.IsTupleIter s.heap.objs.size t 0 → (∀ b o, s.heap.get? b = some o → h'.get? b = some o) → Q (.ref (s.heap.objs.size + 1)) { s with heap := h' }) :
    wpAny (model prog w) A (call (.type "enumerate") [.ref t]) Q E s := by
  refine callType_new F.called_enumerate (by decide) (F.typeCall_enumerate_1 _) (F.newCall_enumerate_1 _) (fun obj => F.args_object_init_2 obj _) F.entry_enumerate_new (enum_new_tup (begins_tuple t items)) ⟨hT, ?_⟩
  generalize ho : ({ cls := .type "tuple_iterator", data := .fields #[.ref t, .int 0 0] } : Obj) = o
  have fr : o.isFreed = false := by subst ho; rfl
  have hz : (s.heap.push o).objs.size = s.heap.objs.size + 1 := Heap.size_push ..
  show _ ∧ _
  rw [hz]
  generalize hq : ({ cls := .type "enumerate", data := .fields #[.none, .bool false, .ref s.heap.objs.size, rawInt 0, .none, .none] } : Obj) = q
  have he : ((s.heap.push o).push q).get? (s.heap.objs.size + 1) = some q := by
    have z := Heap.get?_push_size (s.heap.push o) (o := q) (by subst hq; rfl)
    rw [hz] at z
    exact z
  have he' : IsEnum ((s.heap.push o).push q) (s.heap.objs.size + 1) s.heap.objs.size 0 .none := by subst hq; exact he
  refine ⟨⟨_, he', rfl⟩, h _ he' ?_ fun b ob x => Heap.get?_push_of_some _ (Heap.get?_push_of_some _ x)⟩
  subst ho
  exact ⟨_, Heap.get?_push_of_some _ (Heap.get?_push_size _ rfl), rfl, rfl⟩
end
/-- the tuple at a, its items in new pairs -/
def Itte (K : PySem.W.Frag) (a : Addr) (xs : List V) : It :=
  ⟨fun i H => SqT K H a xs ∧ i < xs.length, fun i H v H' => ∃ T x, v = .ref T ∧ H T = none ∧ H' = upd H T (.tup [.int (i : Nat), x]) ∧ xs[i]? = some x, fun i H => SqT K H a xs ∧ i = xs.length⟩
theorem turn_enumT {P : Program} {w : World} {K : PySem.W.Frag} {elts : List Expr} {kk : Nat} {tpos : Pos} (a e it : Addr) (xs : List V) :
    Turn P w K (.Tuple elts kk tpos) (Itte K a xs) [e, it] e (fun i h => (∃ old, IsEnum h e it ((i : Nat) : Int) old) ∧ h.IsTupleIter it a i ∧ e ≠ it ∧ a ≠ it ∧ a ≠ e) where
  mem := by simp
  obj := fun i h st b hb => by
    obtain ⟨⟨old, he⟩, ⟨o, ho, hc, hd⟩, _⟩ := st
    rcases (by simpa using hb : b = e ∨ b = it) with z | z
    · rw [z]; exact ⟨_, he, fun v q => nomatch q⟩
    · rw [z]; exact ⟨o, ho, fun v q => by rw [hd] at q; cases q⟩
  keep := fun i h h' st k => by
    obtain ⟨⟨old, he⟩, hi, hne⟩ := st
    exact ⟨⟨old, k e (by simp) _ he⟩, hi.at fun o q => k it (by simp) o q, hne⟩
  item := by
    intro X hP hw hK hc i pins s σ H E I hf st hg
    subst hP hw hK
    obtain ⟨⟨old, he⟩, hit, hne, hai, hae⟩ := st
    obtain ⟨hq, hi⟩ := hg
    obtain ⟨its, rv, tp, hz⟩ := I.tuple hq
    have hl := rv.length
    have e_lt : e < s.heap.objs.size := Heap.lt_size he
    have i_lt : it < s.heap.objs.size := by obtain ⟨_, q, _⟩ := hit; exact Heap.lt_size q
    have D := Draws.tuple (prog := X.prog) (w := X.w) (A := X.A.in1) (I.ok.hd hc) it a hai its.toArray
    refine wpAny_pyNext_enum_itemD D he ⟨hit, tp⟩ (by simp only [List.size_toArray]; omega) hne (by simp [hne, hae.symm]) fun u h' tk hu ho st' hT hsz hk => ?_
    obtain ⟨x, hx, ru⟩ : ∃ x, xs[i]? = some x ∧ RelV x u := by
      obtain ⟨u', hu', ru⟩ := rv.get (List.getElem?_eq_getElem hi)
      have hu2 : its[i]? = some u := by simpa using hu
      rw [hu2] at hu'
      cases hu'
      exact ⟨_, List.getElem?_eq_getElem hi, ru⟩
    refine ⟨_, rfl, wpAny_letOwnedTupleGo_enum (s := { s with heap := h', toks := tk + 1 }) ho fun h2 he2 sb => ?_⟩
    have hT2 : h2.get? s.heap.objs.size = some { cls := .type "tuple", data := .seq #[.int i tk, u] } := (sb.2 _ (Nat.ne_of_gt e_lt)).trans hT
    have new : ObjOk X.prog X.w (upd H s.heap.objs.size (.tup [.int (i : Nat), x])) h2 s.heap.objs.size (.tup [.int (i : Nat), x]) :=
      ⟨by show 2 ≤ sizeLine; decide, [.int i tk, u], .cons ⟨_, rfl⟩ (.cons ru .nil), ⟨_, hT2, rfl, _, rfl⟩⟩
    have I1 : Inv X pins σ (upd H s.heap.objs.size (.tup [.int (i : Nat), x])) { s with heap := h2, toks := tk + 1 } :=
      I.turnedNew (ch := [e, it]) (fun b ob hb q => (sb.2 b (fun z => hb (by simp [z]))).trans (hk b ob (fun z => hb (by simp [z])) (fun z => hb (by simp [z])) q)) hf (Nat.le_refl _) new
    refine ⟨.ref s.heap.objs.size, _, I1, rfl, ⟨_, x, rfl, I.hok.fresh (Nat.le_refl _), rfl, hx⟩, ⟨⟨u, ?_⟩, st'.1.at fun o q => (sb.2 it (Ne.symm hne)).trans q, hne, hai, hae⟩, fun b hb => ?_⟩
    · rw [show ((i + 1 : Nat) : Int) = (i : Int) + 1 by omega]
      exact he2
    · have lt : b < s.heap.objs.size := by
        rcases (by simpa using hb : b = e ∨ b = it) with z | z
        · rw [z]; exact e_lt
        · rw [z]; exact i_lt
      rw [upd_ne (Nat.ne_of_lt lt)]
      exact (hf b hb).1
  done := by
    intro X hP hw hK hc i pins s σ H E I hf st hg
    subst hP hw hK
    obtain ⟨⟨old, he⟩, hit, hne, hai, hae⟩ := st
    obtain ⟨hq, rfl⟩ := hg
    obtain ⟨its, rv, tp, hz⟩ := I.tuple hq
    obtain ⟨f0, f1, f2, f3, f4, f5⟩ := hf it (by simp)
    have hl := rv.length
    have D := Draws.tuple (prog := X.prog) (w := X.w) (A := X.A.in1) (I.ok.hd hc) it a hai its.toArray
    have e1 : xs.length = its.toArray.size := by simp only [List.size_toArray]; omega
    rw [e1] at hit he
    exact wpAny_pyNext_enum_endD D he ⟨hit, tp⟩ fun h' eb => ⟨rfl, I.turned (t' := s.toks) (fun b o hb q => eb b o hb q) f0 f1 f3 f4 f5⟩
  self := fun A i s Q E st h => let ⟨⟨_, he⟩, _⟩ := st; wpAny_pyIter_enum he h
def iEnumT (K : PySem.W.Frag) (ta : TA) : TI := fun σ H R => ta σ H fun vs H1 => ∃ a xs, vs = [.ref a] ∧ SqT K H1 a xs ∧ R (Itte K a xs) H1
theorem pi_enumT {X : Cx} {e : Expr} {ta : TA} {p pos tpos : Pos} {elts : List Expr} {kk : Nat} (hg : Gl X "enumerate") (hm : X.mg "enumerate" = none) (ha : PA X [e] ta) (hs : starEach [e] X.env = [(false, eval e X.env)] := by rfl) :
    PI X (.Tuple elts kk tpos) (.Call (.Name "enumerate" p) [e] [] pos) (iEnumT X.K ta) := by
  refine ⟨fun pins s σ H R I h => ?_⟩
  refine Call_ (ld_blt I hg hm boot_enumerate (PyProof.Rows.callWith_type1 (thn (ha.run pos pins s σ H _ I h) fun us s1 ⟨vs, H1, I1, r1, qq⟩ => ?_) hs rfl))
  obtain ⟨a, xs, rfl, hq, q⟩ := qq
  cases r1 with
  | cons r rr =>
    cases rr
    cases r
    obtain ⟨its, rv, tp, hz⟩ := I1.tuple hq
    have a_lt : a < s1.heap.objs.size := tp.lt
    refine call_enum_tup tp fun h' he hit hk => wpAny_pyIter_enum he ?_
    have I2 : Inv X pins σ H1 { s1 with heap := h' } := I1.kept (t' := s1.toks) hk
    refine ⟨s1.heap.objs.size + 1, [s1.heap.objs.size + 1, s1.heap.objs.size], _, _, H1, rfl, I2, turn_enumT a (s1.heap.objs.size + 1) s1.heap.objs.size xs, ⟨⟨.none, he⟩, hit, Nat.succ_ne_self _, Nat.ne_of_lt a_lt, Nat.ne_of_lt (Nat.lt_succ_of_lt a_lt)⟩, fun b hb => ?_, q⟩
    have hle : s1.heap.objs.size ≤ b := by
      rcases (by simpa using hb : b = s1.heap.objs.size + 1 ∨ b = s1.heap.objs.size) with z | z
      · rw [z]; exact Nat.le_add_right _ _
      · rw [z]; exact Nat.le_refl _
    exact I1.fpOk hle (I1.hok.fresh hle)
/-- a for over it -/
theorem for_enumT {K : PySem.W.Frag} {a : Addr} {xs : List V} {g : TG} {tb : TS} {D : Ends} {σ : L2.St} {H : Hp} (Pv : Nat → L2.St → Hp → Prop) (h0 : Pv 0 σ H) (hl : ∀ i σ H, i ≤ xs.length → Pv i σ H → SqT K H a xs)
    (hs : ∀ i x σ H T, xs[i]? = some x → Pv i σ H → H T = none → g (.ref T) σ (upd H T (.tup [.int (i : Nat), x])) fun σ2 H2 => tb { D with nx := Pv (i + 1), ct := Pv (i + 1), bk := D.nx } σ2 H2) (hd : ∀ σ H, Pv xs.length σ H → D.nx σ H) :
    ∃ W : Nat → Nat → L2.St → Hp → Prop, (∃ m, W 0 m σ H) ∧ ∀ i m σ H, W i m σ H →
      ((Itte K a xs).stop i H ∧ D.nx σ H) ∨ ((Itte K a xs).go i H ∧ ∃ N : L2.St → Hp → Prop, (∀ σ' H', N σ' H' → ∃ m', m' < m ∧ W (i + 1) m' σ' H') ∧ ∀ x H', (Itte K a xs).yld i H x H' → g x σ H' fun σ2 H2 => tb { D with nx := N, ct := N, bk := D.nx } σ2 H2) := by
  refine ⟨fun i m σ H => m = xs.length - i ∧ i ≤ xs.length ∧ Pv i σ H, ⟨xs.length, by simp, Nat.zero_le _, h0⟩, ?_⟩
  rintro i m σ H ⟨rfl, hi, p⟩
  have q := hl i σ H hi p
  by_cases lt : i < xs.length
  · refine .inr ⟨⟨q, lt⟩, Pv (i + 1), fun σ' H' p' => ⟨xs.length - (i + 1), by omega, rfl, lt, p'⟩, fun v H' y => ?_⟩
    obtain ⟨T, x, rfl, hT, rfl, hx⟩ := y
    exact hs i x σ H T hx p hT
  · obtain rfl : i = xs.length := by omega
    exact .inl ⟨⟨q, rfl⟩, hd σ H p⟩
end Pw
namespace Pw
open PySem PySem.Spec PyProof.Rows L2
/-! ### templates -/
inductive Tp where
  | text (s : Str) | «show» (e : E)
  | box (tag : Str) (key : Option E) (action : Option Nat) (cs : List Tp)
  | when (e : E) (cs os : List Tp)
  | each (e : E) (cs : List Tp)
  | child (c : Nat) (key : Option E) (props : List E)
  | part (k : Nat) | input (tag : Str) (cell : Nat)
def keyT : Option E → T
  | none => .non
  | some e => e.toT
def actT : Option Nat → T
  | none => .non
  | some n => .int (n : Int)
mutual
def Tp.toT : Tp → T
  | .text s => .tup [.str "text", .str s]
  | .show e => .tup [.str "show", e.toT]
  | .box tag key action cs => .tup [.str "box", .str tag, keyT key, actT action, .tup (Tp.toTs cs)]
  | .when e cs os => .tup [.str "when", e.toT, .tup (Tp.toTs cs), .tup (Tp.toTs os)]
  | .each e cs => .tup [.str "each", e.toT, .tup (Tp.toTs cs)]
  | .child c key props => .tup [.str "child", .int (c : Int), keyT key, .tup (props.map E.toT)]
  | .part k => .tup [.str "part", .int (k : Int)]
  | .input tag cell => .tup [.str "input", .str tag, .int (cell : Int)]
def Tp.toTs : List Tp → List T
  | [] => []
  | t :: ts => t.toT :: Tp.toTs ts
end
mutual
def Tp.dep : Tp → Nat
  | .box _ _ _ cs | .each _ cs => Tp.deps cs + 1
  | .when _ cs os => max (Tp.deps cs) (Tp.deps os) + 1
  | _ => 0
def Tp.deps : List Tp → Nat
  | [] => 0
  | t :: ts => max t.dep (Tp.deps ts)
end
mutual
def Tp.cnt : Tp → Nat
  | .box _ _ _ cs | .each _ cs => Tp.cnts cs + 1
  | .when _ cs os => Tp.cnts cs + Tp.cnts os + 1
  | _ => 1
def Tp.cnts : List Tp → Nat
  | [] => 0
  | t :: ts => t.cnt + Tp.cnts ts
end
mutual
/-- the expressions are no deeper than 3, the props few -/
def Tp.Fine : Tp → Prop
  | .text _ | .part _ | .input _ _ => True
  | .show e => e.depth ≤ 3
  | .box _ key _ cs => (∀ e ∈ key, e.depth ≤ 3) ∧ Tp.Fines cs
  | .when e cs os => e.depth ≤ 3 ∧ Tp.Fines cs ∧ Tp.Fines os
  | .each e cs => e.depth ≤ 3 ∧ Tp.Fines cs
  | .child _ key props => (∀ e ∈ key, e.depth ≤ 3) ∧ props.length ≤ 10 ∧ ∀ e ∈ props, e.depth ≤ 3
def Tp.Fines : List Tp → Prop
  | [] => True
  | t :: ts => t.Fine ∧ Tp.Fines ts
end
/-- a template with its place and the kinds around it -/
structure Rw where
  place : List Int
  tp : Tp
  ar : List Str
mutual
def Tp.under (pl : List Int) (ar : List Str) : Tp → List Rw
  | .box _ _ _ cs => Tp.lst pl 0 (ar ++ [("box" : Str)]) cs
  | .each _ cs => Tp.lst pl 0 (ar ++ [("each" : Str)]) cs
  | .when _ cs os => Tp.lst (pl ++ [0]) 0 (ar ++ [("when" : Str)]) cs ++ Tp.lst (pl ++ [1]) 0 (ar ++ [("when" : Str)]) os
  | _ => []
def Tp.lst (pl : List Int) (k : Nat) (ar : List Str) : List Tp → List Rw
  | [] => []
  | t :: ts => ⟨pl ++ [(k : Int)], t, ar⟩ :: (t.under (pl ++ [(k : Int)]) ar ++ Tp.lst pl (k + 1) ar ts)
end
mutual
theorem Tp.under_len : ∀ (t : Tp) (pl : List Int) (ar : List Str), (t.under pl ar).length + 1 = t.cnt
  | .box _ _ _ cs, pl, ar => by simp only [Tp.under, Tp.cnt]; rw [Tp.lst_len cs]
  | .each _ cs, pl, ar => by simp only [Tp.under, Tp.cnt]; rw [Tp.lst_len cs]
  | .when _ cs os, pl, ar => by simp only [Tp.under, Tp.cnt, List.length_append]; rw [Tp.lst_len cs, Tp.lst_len os]
  | .text _, pl, ar | .show _, pl, ar | .child _ _ _, pl, ar | .part _, pl, ar | .input _ _, pl, ar => by simp [Tp.under, Tp.cnt]
theorem Tp.lst_len : ∀ (ts : List Tp) (pl : List Int) (k : Nat) (ar : List Str), (Tp.lst pl k ar ts).length = Tp.cnts ts
  | [], pl, k, ar => rfl
  | t :: ts, pl, k, ar => by
    have h := Tp.under_len t (pl ++ [(k : Int)]) ar
    simp only [Tp.lst, Tp.cnts, List.length_cons, List.length_append]
    rw [Tp.lst_len ts]
    omega
end
theorem Tp.toTs_map : ∀ ts : List Tp, Tp.toTs ts = ts.map Tp.toT
  | [] => rfl
  | t :: ts => by rw [Tp.toTs, Tp.toTs_map ts]; rfl
theorem Tp.cnt_pos (t : Tp) : 1 ≤ t.cnt := by cases t <;> simp [Tp.cnt]
theorem Tp.cnts_len : ∀ ts : List Tp, ts.length ≤ Tp.cnts ts
  | [] => Nat.le_refl _
  | t :: ts => by
    have := Tp.cnt_pos t
    have := Tp.cnts_len ts
    simp only [List.length_cons, Tp.cnts]
    omega
theorem Tp.lst_app : ∀ (ts us : List Tp) (pl : List Int) (k : Nat) (ar : List Str), Tp.lst pl k ar (ts ++ us) = Tp.lst pl k ar ts ++ Tp.lst pl (k + ts.length) ar us
  | [], us, pl, k, ar => rfl
  | t :: ts, us, pl, k, ar => by
    simp only [List.cons_append, Tp.lst, Tp.lst_app ts us, List.append_assoc, List.length_cons]
    rw [show k + 1 + ts.length = k + (ts.length + 1) by omega]
/-! ### how deep the data are -/
theorem E.dep : ∀ e : E, Dep (e.depth + 2) e.toT
  | .num n => .tup _ _ (by simp) (by simp; exact ⟨.str _ _, .int _ _⟩)
  | .cell i => .tup _ _ (by simp) (by simp; exact ⟨.str _ _, .int _ _⟩)
  | .prop i => .tup _ _ (by simp) (by simp; exact ⟨.str _ _, .int _ _⟩)
  | .store i => .tup _ _ (by simp) (by simp; exact ⟨.str _ _, .int _ _⟩)
  | .index => .tup _ _ (by simp) (by simp; exact .str _ _)
  | .plus a b => .tup _ _ (by simp) (by simp; exact ⟨.str _ _, (E.dep a).mono (by simp only [E.depth]; omega), (E.dep b).mono (by simp only [E.depth]; omega)⟩)
  | .minus a b => .tup _ _ (by simp) (by simp; exact ⟨.str _ _, (E.dep a).mono (by simp only [E.depth]; omega), (E.dep b).mono (by simp only [E.depth]; omega)⟩)
  | .same a b => .tup _ _ (by simp) (by simp; exact ⟨.str _ _, (E.dep a).mono (by simp only [E.depth]; omega), (E.dep b).mono (by simp only [E.depth]; omega)⟩)
  | .less a b => .tup _ _ (by simp) (by simp; exact ⟨.str _ _, (E.dep a).mono (by simp only [E.depth]; omega), (E.dep b).mono (by simp only [E.depth]; omega)⟩)
  | .ite c a b => .tup _ _ (by simp) (by simp; exact ⟨.str _ _, (E.dep c).mono (by simp only [E.depth]; omega), (E.dep a).mono (by simp only [E.depth]; omega), (E.dep b).mono (by simp only [E.depth]; omega)⟩)
theorem E.dep5 {e : E} (h : e.depth ≤ 3) (n : Nat) : Dep (5 + n) e.toT := (E.dep e).mono (by omega)
theorem key_dep {k : Option E} (h : ∀ e ∈ k, e.depth ≤ 3) (n : Nat) : Dep (5 + n) (keyT k) := by
  cases k with
  | none => rw [Nat.add_comm]; exact .non _
  | some e => exact E.dep5 (h e rfl) n
theorem act_dep (k : Option Nat) (n : Nat) : Dep (5 + n) (actT k) := by
  rw [Nat.add_comm]
  cases k with
  | none => exact .non _
  | some e => exact .int _ _
mutual
theorem Tp.dep_ok : ∀ t : Tp, t.Fine → t.cnt ≤ 5000 → Dep (6 + 2 * t.dep + 1) t.toT
  | .text s, h, hc => .tup _ _ (by simp) (by simp; exact ⟨.str _ _, .str _ _⟩)
  | .show e, h, hc => .tup _ _ (by simp) (by simp; exact ⟨.str _ _, (E.dep5 h 1).mono (by omega)⟩)
  | .box tag key a cs, h, hc => by
    simp only [Tp.cnt] at hc
    have q := Tp.deps_ok cs h.2 (by omega)
    refine .tup _ _ (by simp) ?_
    simp only [List.mem_cons, List.not_mem_nil, or_false, forall_eq_or_imp, forall_eq, Tp.dep]
    exact ⟨.str _ _, .str _ _, (key_dep h.1 0).mono (by omega), (act_dep a 0).mono (by omega), q.mono (by omega)⟩
  | .when e cs os, h, hc => by
    simp only [Tp.cnt] at hc
    have q1 := Tp.deps_ok cs h.2.1 (by omega)
    have q2 := Tp.deps_ok os h.2.2 (by omega)
    refine .tup _ _ (by simp) ?_
    simp only [List.mem_cons, List.not_mem_nil, or_false, forall_eq_or_imp, forall_eq, Tp.dep]
    exact ⟨.str _ _, (E.dep5 h.1 0).mono (by omega), q1.mono (by omega), q2.mono (by omega)⟩
  | .each e cs, h, hc => by
    simp only [Tp.cnt] at hc
    have q := Tp.deps_ok cs h.2 (by omega)
    refine .tup _ _ (by simp) ?_
    simp only [List.mem_cons, List.not_mem_nil, or_false, forall_eq_or_imp, forall_eq, Tp.dep]
    exact ⟨.str _ _, (E.dep5 h.1 0).mono (by omega), q.mono (by omega)⟩
  | .child c key props, h, hc => by
    refine .tup _ _ (by simp) ?_
    simp only [List.mem_cons, List.not_mem_nil, or_false, forall_eq_or_imp, forall_eq]
    refine ⟨.str _ _, .int _ _, (key_dep h.1 1).mono (by omega), .tup 5 _ (by rw [List.length_map]; have := h.2.1; omega) fun t ht => ?_⟩
    obtain ⟨e, he, rfl⟩ := List.mem_map.mp ht
    exact E.dep5 (h.2.2 e he) 0
  | .part k, h, hc => .tup _ _ (by simp) (by simp; exact ⟨.str _ _, .int _ _⟩)
  | .input tag c, h, hc => .tup _ _ (by simp) (by simp; exact ⟨.str _ _, .str _ _, .int _ _⟩)
theorem Tp.deps_ok : ∀ ts : List Tp, Tp.Fines ts → Tp.cnts ts ≤ 5000 → Dep (6 + 2 * Tp.deps ts + 2) (.tup (Tp.toTs ts))
  | [], h, hc => .tup _ _ (by simp [Tp.toTs]) (by simp [Tp.toTs])
  | t :: ts, h, hc => by
    have z := Tp.cnts_len ts
    simp only [Tp.cnts] at hc
    have q1 := Tp.dep_ok t h.1 (by omega)
    have q2 := Tp.deps_ok ts h.2 (by omega)
    cases q2 with
    | tup _ _ l q2 =>
      refine .tup _ _ (by simp only [Tp.toTs, List.length_cons, Tp.toTs_map, List.length_map]; omega) ?_
      simp only [Tp.toTs, List.mem_cons, Tp.deps]
      rintro u (rfl | hu)
      · exact q1.mono (by omega)
      · exact (q2 u hu).mono (by omega)
end
/-! ### tuples added -/
theorem cat_t {K : PySem.W.Frag} {H : Hp} {a b : Addr} {xs ys : List V} {Q : VK} (ha : H a = some (.tup xs)) (hb : H b = some (.tup ys)) (hz : xs.length + ys.length ≤ 100000)
    (q : ∀ (c : Addr) (H' : Hp), Oth [] H H' → H' c = some (.tup (xs ++ ys)) → Q (.ref c) H') : rCatA K (.ref a) (.ref b) H Q := by
  refine ⟨a, b, xs, ys, rfl, rfl, SqT.of ha, SqT.of hb, Nat.le_trans hz (by decide), fun e => ?_, fun _ e => ?_, fun _ _ p hp => ?_⟩
  · exact q b H Oth.refl (by rw [e]; exact hb)
  · exact q a H Oth.refl (by rw [e, List.append_nil]; exact ha)
  · exact q p _ (Oth.new hp) upd_same
end Pw
namespace Pw
open PySem PySem.Spec PyProof.Rows L2
/-! ### the rows of contents -/
def Tp.kind : Tp → Str
  | .text _ => "text" | .show _ => "show" | .box .. => "box" | .when .. => "when" | .each .. => "each" | .child .. => "child" | .part _ => "part" | .input .. => "input"
def Tp.withins : Tp → List (List Int × List Tp)
  | .box _ _ _ cs => [([], cs)]
  | .each _ cs => [([], cs)]
  | .when _ cs os => [([0], cs), ([1], os)]
  | _ => []
def Tp.rowsOf (pl : List Int) (ar : List Str) (k : Str) : List (List Int × List Tp) → List Rw
  | [] => []
  | p :: r => Tp.lst (pl ++ p.1) 0 (ar ++ [k]) p.2 ++ Tp.rowsOf pl ar k r
theorem Tp.under_eq (t : Tp) (pl : List Int) (ar : List Str) : t.under pl ar = Tp.rowsOf pl ar t.kind t.withins := by
  cases t <;> simp [Tp.under, Tp.withins, Tp.rowsOf, Tp.kind]
theorem Tp.rowsOf_app (pl : List Int) (ar : List Str) (k : Str) : ∀ (a b : List (List Int × List Tp)), Tp.rowsOf pl ar k (a ++ b) = Tp.rowsOf pl ar k a ++ Tp.rowsOf pl ar k b
  | [], b => rfl
  | p :: a, b => by simp only [List.cons_append, Tp.rowsOf, Tp.rowsOf_app pl ar k a b, List.append_assoc]
def pairT (p : List Int × List Tp) : T := .tup [.tup (p.1.map .int), .tup (Tp.toTs p.2)]
theorem Tp.withins_dep (t : Tp) : ∀ p ∈ t.withins, Tp.deps p.2 < t.dep := by
  cases t <;> simp [Tp.withins, Tp.dep] <;> omega
theorem Tp.withins_cnt (t : Tp) : ∀ p ∈ t.withins, Tp.cnts p.2 < t.cnt := by
  cases t <;> simp [Tp.withins, Tp.cnt] <;> omega
theorem Tp.withins_len (t : Tp) : t.withins.length ≤ 2 ∧ ∀ p ∈ t.withins, p.1.length ≤ 1 := by
  cases t <;> simp [Tp.withins]
/-- every template is a tuple that begins with its kind -/
theorem Tp.kindAt {H : Hp} {v : V} : ∀ (t : Tp), IsT H t.toT v → ∃ a r, v = .ref a ∧ H a = some (.tup (.str t.kind :: r))
  | .text _, h => by obtain ⟨a, _, x, rfl, e, p, _⟩ := IsT.inv2 h; rw [p.of_str] at e; exact ⟨a, _, rfl, e⟩
  | .show _, h => by obtain ⟨a, _, x, rfl, e, p, _⟩ := IsT.inv2 h; rw [p.of_str] at e; exact ⟨a, _, rfl, e⟩
  | .box .., h => by obtain ⟨a, _, x, y, z, u, rfl, e, p, _⟩ := IsT.inv5 h; rw [p.of_str] at e; exact ⟨a, _, rfl, e⟩
  | .when .., h => by obtain ⟨a, _, x, y, z, rfl, e, p, _⟩ := IsT.inv4 h; rw [p.of_str] at e; exact ⟨a, _, rfl, e⟩
  | .each .., h => by obtain ⟨a, _, x, y, rfl, e, p, _⟩ := IsT.inv3 h; rw [p.of_str] at e; exact ⟨a, _, rfl, e⟩
  | .child .., h => by obtain ⟨a, _, x, y, z, rfl, e, p, _⟩ := IsT.inv4 h; rw [p.of_str] at e; exact ⟨a, _, rfl, e⟩
  | .part _, h => by obtain ⟨a, _, x, rfl, e, p, _⟩ := IsT.inv2 h; rw [p.of_str] at e; exact ⟨a, _, rfl, e⟩
  | .input .., h => by obtain ⟨a, _, x, y, rfl, e, p, _⟩ := IsT.inv3 h; rw [p.of_str] at e; exact ⟨a, _, rfl, e⟩
def spWithin : Sp := fun vs H Q _ => ∃ (t : Tp) (v : V), vs = [v] ∧ IsT H t.toT v ∧ ∀ r H', IsT H' (.tup (t.withins.map pairT)) r → Oth [] H H' → Q r H'
def rowT (r : Rw) : T := .tup [.tup (r.place.map .int), r.tp.toT, .tup (r.ar.map .str)]
def RowsT (H : Hp) (rows : List Rw) (vs : List V) : Prop := Paired (fun r v => IsT H (rowT r) v) rows vs
theorem RowsT.oth {H H' : Hp} {S : List Addr} (o : Oth S H H') : ∀ {rows : List Rw} {vs : List V}, RowsT H rows vs → RowsT H' rows vs
  | _, _, .nil => .nil
  | _, _, .cons h t => .cons (h.oth o) (RowsT.oth o t)
theorem RowsT.len {H : Hp} : ∀ {rows : List Rw} {vs : List V}, RowsT H rows vs → vs.length = rows.length
  | _, _, .nil => rfl
  | _, _, .cons _ t => congrArg (· + 1) (RowsT.len t)
def spWalk (n : Nat) : Sp := fun vs H Q _ => ∃ (ts : List Tp) (pl : List Int) (ar : List Str) (vc vb va : V), vs = [vc, vb, va] ∧ IsT H (.tup (Tp.toTs ts)) vc ∧ IsT H (.tup (pl.map .int)) vb ∧ IsT H (.tup (ar.map .str)) va ∧
  Tp.deps ts < n ∧ Tp.cnts ts ≤ 5000 ∧ pl.length + 2 * n ≤ 1000 ∧ ar.length + n ≤ 1000 ∧
  ∀ (p : Addr) (H' : Hp) (rs : List V), H p = none → Oth [] H H' → H' p = some (.lst rs) → RowsT H' (Tp.lst pl 0 ar ts) rs → Q (.ref p) H'
theorem strs_paired {H : Hp} : ∀ (ns : List Str), Paired (IsT H) (ns.map T.str) (ns.map V.str)
  | [] => .nil
  | n :: ns => .cons (.str n) (strs_paired ns)
theorem paired_strs {H : Hp} : ∀ {ns : List Str} {xs : List V}, Paired (IsT H) (ns.map T.str) xs → xs = ns.map V.str
  | [], _, .nil => rfl
  | n :: ns, _, .cons r q => by cases r; rw [paired_strs q]; rfl
theorem IsT.strs {H : Hp} {v : V} {ns : List Str} (h : IsT H (.tup (ns.map T.str)) v) : ∃ a, v = .ref a ∧ H a = some (.tup (ns.map V.str)) := by
  obtain ⟨a, xs, rfl, e, p⟩ := h.inv
  rw [paired_strs p] at e
  exact ⟨a, rfl, e⟩
theorem IsT.mkInts {H : Hp} {a : Addr} {ns : List Int} (e : H a = some (.tup (ns.map V.int))) : IsT H (.tup (ns.map .int)) (.ref a) := .mk e (int_paired ns)
theorem IsT.mkStrs {H : Hp} {a : Addr} {ns : List Str} (e : H a = some (.tup (ns.map V.str))) : IsT H (.tup (ns.map .str)) (.ref a) := .mk e (strs_paired ns)
theorem take_succ {α : Type} {l : List α} {i : Nat} {x : α} (h : l[i]? = some x) : l.take (i + 1) = l.take i ++ [x] := by
  rw [List.take_add_one, h]
  rfl
end Pw
namespace Pw
open PySem PySem.Spec PyProof.Rows L2
/-! ### a def with its own code object -/
def CodeAt (K : PySem.W.Frag) (x : Str) (st : Stmt) (f : Addr) (fd : FuncData) (c : Addr) : Prop :=
  ∃ (oc kV doc pm ct : Value) (od an : Option Addr) (osl : Array (Option Value)), fd = PySem.W.fnOf x x (defArgs st) (defBody st) (defScope st) .none kV doc pm an (.ref c) ct ∧ K.lookup f = some ⟨oc, od, .func fd, osl⟩ ∧ PySem.W.codeIn K (.ref c) x = true ∧ PySem.W.keepIn K (.ref f) = true
theorem CodeAt.plain {K : PySem.W.Frag} {x : Str} {st : Stmt} {f c : Addr} {fd : FuncData} (C : CodeAt K x st f fd c) : Fun K x x st f fd := by
  obtain ⟨oc, kV, doc, pm, ct, od, an, osl, e, lk, hcd, kp⟩ := C
  exact ⟨⟨oc, od, kV, doc, pm, an, _, ct, osl, e, lk, hcd⟩, kp⟩
theorem CodeAt.ok {P : Program} {w : World} {K : PySem.W.Frag} {mg : Str → Option Value} {base : Heap} {x : Str} {st : Stmt} {f c : Addr} {fd : FuncData} {N ps : List Str} {k : Nat} {sp : Sp} (C : CodeAt K x st f fd c) (S : FnScope N ps (defScope st))
    (hlen : ∀ vs H Q E, sp vs H Q E → vs.length = ps.length)
    (hb : ∀ (A : Around) (outer : List Env) (s : Shared) (H : Hp) (vs : List V) (Q : VK) (E : XK), Room k (A.deeper (envOfC x (defScope st) s.heap.objs.size f (.ref c))) → sp vs H Q E →
      ∃ t, PSs (cxOf CX0 P w K mg base N x (defScope st) f (.ref c) A outer s H E).nox (defBody st) t ∧ t { nx := fun _ H' => Q .non H', rt := Q } (start N vs) H) : FnOk P w K mg base CX0 (k + 1) f fd ps sp := by
  obtain ⟨oc, kV, doc, pm, ct, od, an, osl, rfl, lk, hcd, _⟩ := C
  refine fn_of lk hcd S hlen fun A outer s H vs Q E hr hsp => ?_
  obtain ⟨t, h, q⟩ := hb A outer s H vs Q E hr hsp
  exact ⟨t, h.nox, q⟩
/-! ### the end, with the table of one def -/
def TabAt (K : PySem.W.Frag) (f : Addr) (h : Heap) : Prop := ∀ (c P : Addr) (o : Obj) (fd : FuncData) (e : Value) (dd : Option Addr) (vs : Array Value) (sl : Array (Option Value)),
  K.lookup f = some o → o.data = .func fd → fd.code = .ref c → K.lookup c = some ⟨e, dd, .fields vs, sl⟩ → vs[11]? = some (.ref P) → h.get? P = some { cls := .none, data := .fields #[] } ∧ PySem.W.CodeHd h c P
theorem walk_tab {l : PySem.W.OpenLaw} {n k : Nat} {q : Program} {loose : List Str} {XP : (Str → Option Value) → Heap → Prop} {YP : World → Heap → Prop} {d : DefRec} {K : Params → PySem.W.Frag} {x nm : Str}
    (hn : l.most = some n) (hn2 : n ≤ sizeLine) (hdf : d.params.defaults = []) (hr : Room k callerA) (hrec : ((recsOf q).any fun e => e.name == nm) = true) (hY : ∀ (w : World) (h : Heap), YP w h → (K w.params).In h)
    (F : ∀ (w : World) (mg : Str → Option Value) (fa f : Addr) (h : Heap), (K w.params).In h → h.Ns mainGlobals mg → mg d.name = some (.ref fa) → mg nm = some (.ref f) → TabAt (K w.params) f h → LamX.LawAtS l w (K w.params) CX0 k n x mg fa h) :
    PySem.W.WalkO q loose XP YP l.row.toRowW d [] (fun f vs => PySem.call f vs) := by
  refine Att.attach_callB hn hdf fun w s0 s1 mg mb fa o pm cd doc a vs ns G Y ho hd hcd hmg hobj hints hlen hbits hg => ?_
  have KX := hY w _ Y
  obtain ⟨e, em, en⟩ := List.any_eq_true.mp hrec
  obtain ⟨f, o', fd', c', P', h1, h2, h3, h4, h5, h6⟩ := G.T.tab e em
  rw [beq_iff_eq.mp en] at h1
  have own : TabAt (K w.params) f s1.heap := by
    intro c P o1 fd1 ee dd vs1 sl k1 k2 k3 k4 k5
    have g1 := KX _ _ k1
    rw [h2] at g1
    cases g1
    rw [h3] at k2
    cases k2
    rw [h4] at k3
    cases k3
    have cd := PySem.W.CodeHd.of h5 h6
    obtain ⟨⟨oc, vc, e1, e2, e3, e4⟩, hP⟩ := h6
    have g2 := KX _ _ k4
    rw [e1] at g2
    cases g2
    cases e3
    rw [e4] at k5
    cases k5
    exact ⟨hP, cd⟩
  obtain ⟨fd, cs, sp, hT, nT, C, hb, hsp, hF⟩ := F w mg fa f _ KX G.T.g hmg h1 own
  exact LamX.law_callTs KX G.T.g G.T.b G.T.builtins G.T.nolimit hg hT nT C G.T.bmain hobj hints (Nat.le_trans hlen hn2) hr hF hb (fun H hH hS => hsp H a ns hlen hbits hH hS) fun H e s' z => z
theorem no_free {l : List (Str × NameKind)} (h : (l.all fun y => decide (y.2 ≠ .free)) = true) : ∀ y ∈ l, y.2 ≠ .free := fun y hy => of_decide_eq_true (List.all_eq_true.mp h y hy)
/-! ### the table in the tracked heap -/
theorem TabG.oth {H H' : Hp} {P : Addr} {S : List Addr} (h : GxR.TabG H P) (o : Oth S H H') (hP : P ∉ S) : GxR.TabG H' P := by
  obtain ⟨ps, e, t⟩ := h
  exact ⟨ps, o.keep P _ hP e, t⟩
def pairsT (rows : List Rw) : T := .tup (rows.map fun r => .tup [.tup (r.place.map .int), r.tp.toT])
/-- templates(contents): P is the table of its code object -/
def spTemplates (P : Addr) : Sp := fun vs H Q _ => ∃ (ts : List Tp) (v : V), vs = [v] ∧ IsT H (.tup (Tp.toTs ts)) v ∧ Tp.deps ts < 4 ∧ Tp.cnts ts ≤ 5000 ∧ GxR.TabG H P ∧
  ∀ (r : V) (H' : Hp), IsT H' (pairsT (Tp.lst [] 0 [] ts)) r → Oth [P] H H' → GxR.TabG H' P → Q r H'
theorem rows_split {H : Hp} : ∀ {rows : List Rw} {vs : List V}, RowsT H rows vs → ∃ ps : List (V × V), RowsV H vs ps ∧ Paired (fun (r : Rw) (p : V × V) => IsT H (.tup (r.place.map .int)) p.1 ∧ IsT H r.tp.toT p.2) rows ps
  | _, _, .nil => ⟨[], .nil, .nil⟩
  | _, _, .cons h t => by
    obtain ⟨ps, a, b⟩ := rows_split t
    obtain ⟨ad, x, y, z, rfl, e, p, q, s⟩ := IsT.inv3 h
    exact ⟨(x, y) :: ps, .cons ⟨ad, z, rfl, e⟩ a, .cons ⟨p, q⟩ b⟩
theorem pairs_join {H H2 : Hp} {S : List Addr} (o : Oth S H H2) : ∀ {rows : List Rw} {ps : List (V × V)} {as : List Addr}, Paired (fun (r : Rw) (p : V × V) => IsT H (.tup (r.place.map .int)) p.1 ∧ IsT H r.tp.toT p.2) rows ps → PairsV H2 as ps →
    Paired (IsT H2) (rows.map fun r => T.tup [.tup (r.place.map .int), r.tp.toT]) (as.map V.ref)
  | _, _, _, .nil, .nil => .nil
  | _, _, _, .cons h t, .cons e u => .cons (.mk2 e (h.1.oth o) (h.2.oth o)) (pairs_join o t u)
end Pw
namespace Pw
open PySem PySem.Spec PyProof.Rows L2
def natV (n : Nat) : V := .int (n : Int)
/-- the law's box, its counters and the parts that are left -/
structure Bx (H : Hp) (b d pl : Addr) : Prop where
  box : ∃ n2 n3 n4 : Int, Box H b d [.int n2, .int n3, .int n4, .ref pl]
  parts : ∃ ps : List Nat, H pl = some (.lst (ps.map natV)) ∧ ps.length ≤ 2
  nd : pl ≠ d
section
variable {H H' : Hp} {b d pl p : Addr} {S : List Addr} {o : HO}
theorem Bx.get (h : Bx H b d pl) : ∃ (at' : Nat) (n2 n3 n4 : Int), H b = some (.lst [.ref d, .int (at' : Int), .int n2, .int n3, .int n4, .ref pl]) := by
  obtain ⟨⟨n2, n3, n4, ds, at', h1, h2⟩, _, _⟩ := h
  exact ⟨at', n2, n3, n4, h1⟩
theorem Bx.dig (h : Bx H b d pl) : ∃ ds : List Int, H d = some (.lst (ds.map V.int)) := by
  obtain ⟨⟨n2, n3, n4, ds, at', h1, h2⟩, _, _⟩ := h
  exact ⟨ds, h2⟩
theorem Bx.ndb (h : Bx H b d pl) : d ≠ b := by
  intro e
  obtain ⟨at', n2, n3, n4, h1⟩ := h.get
  obtain ⟨ds, h2⟩ := h.dig
  rw [e, h1] at h2
  cases ds with
  | nil => cases h2
  | cons x r => cases h2
theorem Bx.npb (h : Bx H b d pl) : pl ≠ b := by
  intro e
  obtain ⟨at', n2, n3, n4, h1⟩ := h.get
  obtain ⟨ps, h2, _⟩ := h.parts
  rw [e, h1] at h2
  cases ps with
  | nil => cases h2
  | cons x r => cases h2
theorem Bx.put (h : Bx H b d pl) (at' : Nat) (n2 n3 n4 : Int) : Bx (upd H b (.lst [.ref d, .int (at' : Int), .int n2, .int n3, .int n4, .ref pl])) b d pl := by
  obtain ⟨ds, h2⟩ := h.dig
  obtain ⟨ps, h3, h4⟩ := h.parts
  exact ⟨⟨n2, n3, n4, ds, at', upd_same, by rw [upd_ne h.ndb]; exact h2⟩, ⟨ps, by rw [upd_ne h.npb]; exact h3, h4⟩, h.nd⟩
theorem Bx.oth (h : Bx H b d pl) (o : Oth S H H') (nb : b ∉ S) (nd : d ∉ S) (np : pl ∉ S) : Bx H' b d pl := by
  obtain ⟨n2, n3, n4, hb⟩ := h.box
  obtain ⟨ps, h3, h4⟩ := h.parts
  exact ⟨⟨n2, n3, n4, hb.oth o nb nd⟩, ⟨ps, o.keep _ _ np h3, h4⟩, h.nd⟩
theorem Bx.new (h : Bx H b d pl) (n : H p = none) : Bx (upd H p o) b d pl := h.oth (S := []) (Oth.new n) (by simp) (by simp) (by simp)
theorem Bx.is (h : Bx H b d pl) : ∃ xs, H b = some (.lst xs) := let ⟨_, _, _, _, e⟩ := h.get; ⟨_, e⟩
theorem Bx.nb (h : Bx H b d pl) (n : H p = none) : b ≠ p := let ⟨_, _, _, _, e⟩ := h.get; ne_of_none e n
theorem Bx.ndn (h : Bx H b d pl) (n : H p = none) : d ≠ p := let ⟨_, e⟩ := h.dig; ne_of_none e n
theorem Bx.npn (h : Bx H b d pl) (n : H p = none) : pl ≠ p := let ⟨_, e, _⟩ := h.parts; ne_of_none e n
end
theorem Bx.swap {H : Hp} {b d pl q : Addr} (h : Bx H b d pl) (hq : H q = none) (ps : List Nat) (hl : ps.length ≤ 2) (at' : Nat) (n2 n3 n4 : Int) :
    Bx (upd (upd H q (.lst (ps.map natV))) b (.lst [.ref d, .int (at' : Int), .int n2, .int n3, .int n4, .ref q])) b d q := by
  obtain ⟨ds, h2⟩ := h.dig
  exact ⟨⟨n2, n3, n4, ds, at', upd_same, by rw [upd_ne h.ndb, upd_ne (h.ndn hq)]; exact h2⟩, ⟨ps, by rw [upd_ne (h.nb hq).symm]; exact upd_same, hl⟩, (h.ndn hq).symm⟩
theorem Bx.fresh {H H' : Hp} {b d pl p : Addr} (h : Bx H' b d pl) (o : Oth [b] H H') (hp : H' p = none) : H p = none := by
  cases e : H p with
  | none => rfl
  | some x =>
    obtain ⟨xs, hb⟩ := h.is
    by_cases z : p = b
    · rw [z, hb] at hp; cases hp
    · rw [o.keep p _ (by simp [z]) e] at hp; cases hp
theorem bo_max : bootBuiltins "max" = some (.builtin "max") := by decide +kernel
theorem rgV_nat (n : Nat) : rgV 0 (n : Int) = (List.range n).map natV := by
  unfold rgV
  rw [Int.sub_zero, Int.toNat_natCast]
  exact List.map_congr_left fun i _ => by rw [Int.zero_add]; rfl
def spDrawX : Sp := fun vs H Q _ => ∃ (b d pl : Addr) (m : Int), vs = [.ref b, .int m] ∧ 0 < m ∧ Bx H b d pl ∧
  ∀ (r : Int) (H' : Hp), 0 ≤ r → r < m → Bx H' b d pl → Oth [b] H H' → Q (.int r) H'
theorem draw_x {vs : List V} {H : Hp} {Q : VK} {E : XK} (h : spDrawX vs H Q E) : spDraw vs H Q E := by
  obtain ⟨b, d, pl, m, rfl, hm, h, q⟩ := h
  obtain ⟨n2, n3, n4, hb⟩ := h.box
  refine ⟨b, d, m, _, rfl, hm, hb, fun r H' l u hb' o => q r H' l u ?_ o⟩
  obtain ⟨ps, h3, h4⟩ := h.parts
  exact ⟨⟨n2, n3, n4, hb'⟩, ⟨ps, o.keep _ _ (by simp [h.npb]) h3, h4⟩, h.nd⟩
theorem FnOk.weak {P : Program} {w : World} {K : PySem.W.Frag} {mg : Str → Option Value} {base : Heap} {CX : CXT} {k : Nat} {f : Addr} {fd : FuncData} {ps : List Str} {sp sp' : Sp} (o : FnOk P w K mg base CX k f fd ps sp) (h : ∀ vs H Q E, sp' vs H Q E → sp vs H Q E) : FnOk P w K mg base CX k f fd ps sp' :=
  ⟨fun vs H Q E q => o.len _ _ _ _ (h _ _ _ _ q), fun A outer s H args us vs Q E hr e0 hb r q => o.run A outer s H args us vs Q E hr e0 hb r (h _ _ _ _ q)⟩
theorem toTs_app (a b : List Tp) : Tp.toTs (a ++ b) = Tp.toTs a ++ Tp.toTs b := by rw [Tp.toTs_map, Tp.toTs_map, Tp.toTs_map, List.map_append]
theorem deps_app (b : List Tp) : ∀ a : List Tp, Tp.deps (a ++ b) = max (Tp.deps a) (Tp.deps b)
  | [] => by simp [Tp.deps]
  | t :: a => by simp only [List.cons_append, Tp.deps, deps_app b a]; omega
theorem cnts_app (b : List Tp) : ∀ a : List Tp, Tp.cnts (a ++ b) = Tp.cnts a + Tp.cnts b
  | [] => by simp [Tp.cnts]
  | t :: a => by simp only [List.cons_append, Tp.cnts, cnts_app b a]; omega
theorem fines_app {b : List Tp} (hb : Tp.Fines b) : ∀ a : List Tp, Tp.Fines a → Tp.Fines (a ++ b)
  | [], _ => hb
  | t :: a, h => ⟨h.1, fines_app hb a h.2⟩
theorem deps_parts : ∀ us : List Nat, Tp.deps (us.map Tp.part) = 0
  | [] => rfl
  | u :: us => by simp only [List.map_cons, Tp.deps, Tp.dep, deps_parts us]; rfl
theorem cnts_parts : ∀ us : List Nat, Tp.cnts (us.map Tp.part) = us.length
  | [] => rfl
  | u :: us => by simp only [List.map_cons, Tp.cnts, Tp.cnt, cnts_parts us, List.length_cons]; omega
theorem fines_parts : ∀ us : List Nat, Tp.Fines (us.map Tp.part)
  | [] => trivial
  | u :: us => ⟨trivial, fines_parts us⟩
theorem at_mem : ∀ {xs : List V} {r : Int}, 0 ≤ r → r < (xs.length : Int) → ∃ v ∈ xs, atI xs r = some v := by
  intro xs r h0 h1
  obtain ⟨j, rfl⟩ := Int.eq_ofNat_of_zero_le h0
  have hj : j < xs.length := by omega
  exact ⟨xs[j], List.getElem_mem hj, atI_nat (List.getElem?_eq_getElem hj)⟩
theorem Bx.lit {H H1 : Hp} {b d pl l : Addr} {xs : List V} (h : Bx H b d pl) (hl : H l = none) (o : Oth [b] (upd H l (.lst xs)) H1) : H1 l = some (.lst xs) := o.keep l _ (by simp [(h.nb hl).symm]) upd_same
theorem Oth.two {b pl : Addr} {H H' : Hp} (o : Oth [b] H H') : Oth [b, pl] H H' := o.mono (by simp)
def spExpr (n : Nat) : Sp := fun vs H Q _ => ∃ (b dg pl : Addr) (d : Nat), vs = [.ref b, .int (d : Int)] ∧ d < n ∧ Bx H b dg pl ∧
  ∀ (e : E) (v : V) (H' : Hp), e.depth ≤ d → IsT H' e.toT v → Bx H' b dg pl → Oth [b] H H' → Q v H'
def spKey : Sp := fun vs H Q _ => ∃ (b dg pl : Addr), vs = [.ref b] ∧ Bx H b dg pl ∧
  ∀ (k : Option E) (v : V) (H' : Hp), (∀ e ∈ k, e.depth ≤ 1) → IsT H' (keyT k) v → Bx H' b dg pl → Oth [b] H H' → Q v H'
def numT : Nat → Nat
  | 0 => 1
  | r + 1 => 6 * numT r + 1
theorem numT_mono : ∀ r, numT r ≤ numT (r + 1) := fun r => by simp only [numT]; omega
theorem numT_pos : ∀ r, 1 ≤ numT r
  | 0 => Nat.le_refl _
  | r + 1 => by simp only [numT]; omega
def spTemplate (n : Nat) : Sp := fun vs H Q _ => ∃ (b dg pl : Addr) (own level last r : Nat) (free : Bool), vs = [.ref b, .int (own : Int), .int (level : Int), .int (last : Int), .bl free] ∧ level + r = 3 ∧ r < n ∧ Bx H b dg pl ∧
  ∀ (t : Tp) (v : V) (H' : Hp), t.dep ≤ r → t.cnt ≤ numT r → t.Fine → IsT H' t.toT v → Bx H' b dg pl → Oth [b, pl] H H' → Q v H'
def spContents (n : Nat) : Sp := fun vs H Q _ => ∃ (b dg pl : Addr) (own level last r : Nat) (free : Bool), vs = [.ref b, .int (own : Int), .int (level : Int), .int (last : Int), .bl free] ∧ level + r = 3 ∧ r < n ∧ Bx H b dg pl ∧
  ∀ (ts : List Tp) (v : V) (H' : Hp), Tp.deps ts ≤ r → Tp.cnts ts ≤ 3 * numT r → Tp.Fines ts → IsT H' (.tup (Tp.toTs ts)) v → Bx H' b dg pl → Oth [b, pl] H H' → Q v H'
/-- the steps of actions: their kinds are all that is asked -/
def spActions : Sp := fun vs H Q _ => ∃ (b dg pl : Addr), vs = [.ref b] ∧ Bx H b dg pl ∧
  ∀ (v : V) (H' : Hp), Bx H' b dg pl → Oth [b] H H' → Q v H'
def CompT (H : Hp) (v : V) : Prop := ∃ (a : Addr) (x y z : V) (ts : List Tp), v = .ref a ∧ H a = some (.tup [.str "component", x, y, z]) ∧ IsT H (.tup (Tp.toTs ts)) y ∧ Tp.deps ts ≤ 3 ∧ Tp.cnts ts ≤ 2000 ∧ Tp.Fines ts
theorem CompT.oth {H H' : Hp} {v : V} {S : List Addr} (h : CompT H v) (o : Oth S H H') : CompT H' v := by
  obtain ⟨a, x, y, z, ts, rfl, e, t, r⟩ := h
  exact ⟨a, x, y, z, ts, rfl, o.tup _ _ e, t.oth o, r⟩
def spProgram : Sp := fun vs H Q _ => ∃ (b dg pl : Addr), vs = [.ref b] ∧ Bx H b dg pl ∧
  ∀ (a c : Addr) (x y : V) (cs : List V) (H' : Hp), H' a = some (.tup [.str "program", .ref c, x, y]) → H' c = some (.tup cs) → (∀ v ∈ cs, CompT H' v) → Oth [b] H H' → Q (.ref a) H'
def spBox (K : PySem.W.Frag) : Sp := fun vs H Q _ => ∃ (a : Addr) (ns : List Int) (i j : Nat), vs = [.ref a, .int (i : Int), .int (j : Int)] ∧ SqL K H a (ns.map V.int) ∧ i ≤ 100 ∧ j ≤ 100 ∧
  ∀ (b d pl : Addr) (H' : Hp), H b = none → Oth [] H H' → Bx H' b d pl → Q (.ref b) H'
end Pw
namespace Pw
open PySem PySem.Spec PyProof.Rows L2
theorem cnts_take : ∀ {ts : List Tp} {i : Nat} {t : Tp}, ts[i]? = some t → Tp.cnts (ts.take i) + t.cnt ≤ Tp.cnts ts
  | [], i, t, h => by simp at h
  | u :: ts, 0, t, h => by cases h; simp [Tp.cnts]
  | u :: ts, i + 1, t, h => by
    have q := cnts_take (ts := ts) (i := i) (t := t) h
    simp only [List.take_succ_cons, Tp.cnts]
    omega
theorem deps_get : ∀ {ts : List Tp} {i : Nat} {t : Tp}, ts[i]? = some t → t.dep ≤ Tp.deps ts
  | [], i, t, h => by simp at h
  | u :: ts, 0, t, h => by cases h; simp only [Tp.deps]; omega
  | u :: ts, i + 1, t, h => by
    have q := deps_get (ts := ts) (i := i) (t := t) h
    simp only [Tp.deps]
    omega
def LRow (H : Hp) (r : Rw) (v : V) : Prop := ∃ (a : Addr) (x y z : V), v = .ref a ∧ H a = some (.lst [x, y, z]) ∧ IsT H (.tup (r.place.map .int)) x ∧ IsT H r.tp.toT y
def LRows (H : Hp) (R : List Rw) (rs : List V) : Prop := Paired (fun r v => LRow H r v) R rs
theorem LRows.oth {H H' : Hp} {S : List Addr} (o : Oth S H H') : ∀ {R : List Rw} {rs : List V}, LRows H R rs → (∀ v ∈ rs, ∀ a ∈ S, v ≠ .ref a) → LRows H' R rs
  | _, _, .nil, _ => .nil
  | _, _, .cons ⟨a, x, y, z, e, h, p, q⟩ t, n => .cons ⟨a, x, y, z, e, o.keep a _ (fun z => n _ List.mem_cons_self a z e) h, p.oth o, q.oth o⟩ (LRows.oth o t fun v hv => n v (List.mem_cons_of_mem _ hv))
theorem LRows.len {H : Hp} : ∀ {R : List Rw} {rs : List V}, LRows H R rs → rs.length = R.length
  | _, _, .nil => rfl
  | _, _, .cons _ t => congrArg (· + 1) (LRows.len t)
theorem LRows.ne {H : Hp} {p : Addr} (h : H p = none) : ∀ {R : List Rw} {rs : List V}, LRows H R rs → ∀ v ∈ rs, v ≠ .ref p
  | _, _, .nil => fun v hv => absurd hv (by simp)
  | _, _, .cons ⟨a, x, y, z, e, ha, _⟩ t => fun v hv => by
    rcases List.mem_cons.mp hv with rfl | hv
    · rw [e]; intro z; cases z; rw [h] at ha; cases ha
    · exact LRows.ne h t v hv
/-- the list at p, new since H, holds the rows R -/
structure LSt (H H1 : Hp) (p : Addr) (R : List Rw) (rs : List V) : Prop where
  new : H p = none
  oth : Oth [] H H1
  at_ : H1 p = some (.lst rs)
  rows : LRows H1 R rs
  ne : ∀ v ∈ rs, v ≠ .ref p
section
variable {H H1 H2 : Hp} {p a p4 p3 : Addr} {R R' : List Rw} {rs rs' : List V} {x y z : V} {r : Rw}
theorem LSt.go (h : LSt H H1 p R rs) (o : Oth [] H1 H2) : LSt H H2 p R rs := ⟨h.new, h.oth.trans o, o.keep p _ (by simp) h.at_, h.rows.oth o (by simp), h.ne⟩
theorem LSt.push (h : LSt H H1 p R rs) (ha : H1 a = none) (hx : IsT H1 (.tup (r.place.map .int)) x) (hy : IsT H1 r.tp.toT y) :
    LSt H (upd (upd H1 a (.lst [x, y, z])) p (.lst (rs ++ [.ref a]))) p (R ++ [r]) (rs ++ [.ref a]) := by
  have h1 := h.go (Oth.new (o := .lst [x, y, z]) ha)
  have o1 : Oth [] H1 (upd H1 a (.lst [x, y, z])) := Oth.new ha
  have op : Oth [p] (upd H1 a (.lst [x, y, z])) (upd (upd H1 a (.lst [x, y, z])) p (.lst (rs ++ [.ref a]))) := Oth.put (by simp) h1.at_
  have nap : a ≠ p := fun e => by rw [e] at ha; rw [h.at_] at ha; cases ha
  refine ⟨h.new, Oth.drop (p := p) ((h1.oth.mono (by simp)).trans op) h.new, upd_same, Paired.appendP (h1.rows.oth op fun v hv b hb => ?_) (.cons ⟨a, x, y, z, rfl, op.keep a _ (by simp [nap]) upd_same, (hx.oth o1).oth op, (hy.oth o1).oth op⟩ .nil), fun v hv => ?_⟩
  · rw [List.mem_singleton.mp hb]; exact h.ne v hv
  · rcases List.mem_append.mp hv with q | q
    · exact h.ne v q
    · rw [List.mem_singleton.mp q]; intro e; cases e; exact nap rfl
theorem LSt.cat (h : LSt H H1 p R rs) (o : Oth [] H1 H2) (q : LRows H2 R' rs') (n : H2 p4 = none) : LSt H (upd H2 p4 (.lst (rs ++ rs'))) p4 (R ++ R') (rs ++ rs') := by
  have h1 := h.go o
  have on : Oth [] H2 (upd H2 p4 (.lst (rs ++ rs'))) := Oth.new n
  refine ⟨?_, h1.oth.trans on, upd_same, Paired.appendP (h1.rows.oth on (by simp)) (q.oth on (by simp)), fun v hv => ?_⟩
  · cases e : H p4 with
    | none => rfl
    | some u => rw [h1.oth.keep p4 _ (by simp) e] at n; cases n
  · rcases List.mem_append.mp hv with z | z
    · exact LRows.ne n h1.rows v z
    · exact LRows.ne n q v z
end
def spListed (n : Nat) : Sp := fun vs H Q _ => ∃ (ts : List Tp) (pl : List Int) (ar : List Str) (vc vb : V) (aa : Addr) (as : List V), vs = [vc, vb, .ref aa] ∧ IsT H (.tup (Tp.toTs ts)) vc ∧ IsT H (.tup (pl.map .int)) vb ∧ H aa = some (.lst as) ∧
  Tp.deps ts < n ∧ Tp.cnts ts ≤ 5000 ∧ pl.length + 2 * n ≤ 1000 ∧ as.length + n ≤ 1000 ∧
  ∀ (p : Addr) (H' : Hp) (rs : List V), LSt H H' p (Tp.lst pl 0 ar ts) rs → Q (.ref p) H'
end Pw
namespace Pw
open PySem PySem.Spec PyProof.Rows L2
mutual
theorem under_mem : ∀ (t : Tp) (pl : List Int) (ar : List Str) (r : Rw), r ∈ t.under pl ar → r.tp.dep ≤ t.dep ∧ r.tp.cnt ≤ t.cnt ∧ (t.Fine → r.tp.Fine) ∧ r.place.length ≤ pl.length + 2 * t.dep
  | .box _ _ _ cs, pl, ar, r, h => by
    obtain ⟨a, b, c, d⟩ := lst_mem cs pl 0 _ r h
    simp only [Tp.dep, Tp.cnt, Tp.Fine]
    exact ⟨by omega, by omega, fun f => c f.2, by omega⟩
  | .each _ cs, pl, ar, r, h => by
    obtain ⟨a, b, c, d⟩ := lst_mem cs pl 0 _ r h
    simp only [Tp.dep, Tp.cnt, Tp.Fine]
    exact ⟨by omega, by omega, fun f => c f.2, by omega⟩
  | .when _ cs os, pl, ar, r, h => by
    simp only [Tp.dep, Tp.cnt, Tp.Fine]
    rcases List.mem_append.mp h with h | h
    · obtain ⟨a, b, c, d⟩ := lst_mem cs _ 0 _ r h
      rw [List.length_append, List.length_singleton] at d
      exact ⟨by omega, by omega, fun f => c f.2.1, by omega⟩
    · obtain ⟨a, b, c, d⟩ := lst_mem os _ 0 _ r h
      rw [List.length_append, List.length_singleton] at d
      exact ⟨by omega, by omega, fun f => c f.2.2, by omega⟩
  | .text _, pl, ar, r, h | .show _, pl, ar, r, h | .child _ _ _, pl, ar, r, h | .part _, pl, ar, r, h | .input _ _, pl, ar, r, h => by simp [Tp.under] at h
theorem lst_mem : ∀ (ts : List Tp) (pl : List Int) (k : Nat) (ar : List Str) (r : Rw), r ∈ Tp.lst pl k ar ts → r.tp.dep ≤ Tp.deps ts ∧ r.tp.cnt ≤ Tp.cnts ts ∧ (Tp.Fines ts → r.tp.Fine) ∧ r.place.length ≤ pl.length + 1 + 2 * Tp.deps ts
  | [], pl, k, ar, r, h => by simp [Tp.lst] at h
  | t :: ts, pl, k, ar, r, h => by
    simp only [Tp.lst] at h
    simp only [Tp.deps, Tp.cnts, Tp.Fines]
    rcases List.mem_cons.mp h with rfl | h
    · refine ⟨Nat.le_max_left _ _, by simp, fun f => f.1, ?_⟩
      simp only [List.length_append, List.length_singleton]
      omega
    · rcases List.mem_append.mp h with h | h
      · obtain ⟨a, b, c, d⟩ := under_mem t _ _ r h
        rw [List.length_append, List.length_singleton] at d
        exact ⟨by omega, by omega, fun f => c f.1, by omega⟩
      · obtain ⟨a, b, c, d⟩ := lst_mem ts _ _ _ r h
        exact ⟨by omega, by omega, fun f => c f.2, by omega⟩
end
theorem ints_dep (ns : List Int) (n : Nat) (h : ns.length ≤ 100000) : Dep (n + 2) (.tup (ns.map .int)) := .tup _ _ (by rw [List.length_map]; exact h) fun t ht => by
  obtain ⟨i, _, rfl⟩ := List.mem_map.mp ht
  exact .int _ _
theorem row_dep {r : Rw} (hd : r.tp.dep ≤ 3) (hc : r.tp.cnt ≤ 5000) (hf : r.tp.Fine) (hp : r.place.length ≤ 1000) : Dep 15 (.tup [.tup (r.place.map .int), r.tp.toT]) := by
  refine .tup 14 _ (by simp) ?_
  simp only [List.mem_cons, List.not_mem_nil, or_false, forall_eq_or_imp, forall_eq]
  exact ⟨ints_dep _ 12 (by omega), (Tp.dep_ok r.tp hf hc).mono (by omega)⟩
theorem pairs_dep {ts : List Tp} (hd : Tp.deps ts ≤ 3) (hc : Tp.cnts ts ≤ 5000) (hf : Tp.Fines ts) : Dep 16 (pairsT (Tp.lst [] 0 [] ts)) := by
  refine .tup 15 _ (by rw [List.length_map, Tp.lst_len]; omega) fun t ht => ?_
  obtain ⟨r, hr, rfl⟩ := List.mem_map.mp ht
  obtain ⟨a, b, c, d⟩ := lst_mem ts [] 0 [] r hr
  refine row_dep (by omega) (by omega) (c hf) ?_
  simp only [List.length_nil] at d
  omega
theorem lrows_get {H : Hp} : ∀ {R : List Rw} {rs : List V}, LRows H R rs → ∀ {i : Nat} {v : V}, rs[i]? = some v → ∃ r, R[i]? = some r ∧ LRow H r v
  | _, _, .nil, i, v, e => by simp at e
  | _, _, .cons h t, 0, v, e => by cases e; exact ⟨_, rfl, h⟩
  | _, _, .cons h t, i + 1, v, e => lrows_get t (i := i) e
def pairT' (r : Rw) : T := .tup [.tup (r.place.map .int), r.tp.toT]
def spLawK (T : Addr) (K : PySem.W.Frag) : Sp := fun vs H Q _ => ∃ (a : Addr) (ns : List Int), vs = [.ref a] ∧ SqL K H a (ns.map V.int) ∧ ns.length ≤ 63 ∧ GxR.TabG H T ∧ ∀ H', Q (.bl true) H'
end Pw
namespace Pw
open PySem PySem.Spec PyProof.Rows L2
def topS (i : Nat) : Stmt := PySem.Challenge.pw_pagewake_k00_templates_in_order.main.body.getD i (.Pass ⟨0, 0, 0, 0⟩)
abbrev sCell : Stmt := topS 5
abbrev sDigits : Stmt := topS 6
abbrev sDraw : Stmt := topS 7
theorem scCell : FnScope ["script", "k"] ["script", "k"] (defScope sCell) := ⟨rfl, rfl, rfl, by decide +kernel, rfl, by decide +kernel, by decide +kernel⟩
theorem scDigits : FnScope ["script", "first", "last", "digits", "k", "cell", "turn", "seed"] ["script", "first", "last"] (defScope sDigits) := ⟨rfl, rfl, rfl, by decide +kernel, rfl, by decide +kernel, by decide +kernel⟩
theorem scDraw : FnScope ["box", "many", "at"] ["box", "many"] (defScope sDraw) := ⟨rfl, rfl, rfl, by decide +kernel, rfl, by decide +kernel, by decide +kernel⟩
section
variable {P : Program} {w : World} {K : PySem.W.Frag} {mg : Str → Option Value} {base : Heap}
theorem ok_cell {f : Addr} {fd : FuncData} {k : Nat} (F : Fun K "_law_cell" "_law_cell" sCell f fd) (ml : mg "len" = none) : FnOk P w K mg base CX0 (k + 1) f fd ["script", "k"] (spCell' K) := by
  refine F.ok scCell (fun vs H Q E h => ?_) (fun cdv A outer s H vs Q E hr h => ?_)
  · obtain ⟨a, xs, i, rfl, _⟩ := h
    rfl
  obtain ⟨a, ns, i, rfl, hS, q⟩ := h
  refine ⟨_, pss_cons (ps_if (pt_cmpR op_lt (pv 1) (pe_callB call_len_seq (by rfl) ml PySem.boot_len (pa_cons (pv 0) pa_nil)) (nomark _)) (pss_one (ps_ret (pe_ix ix_list (pv 0) (pv 1) (fun _ _ => rfl)))) pss_nil)
    (pss_one (ps_ret pe_int)), ?_⟩
  refine ⟨_, rfl, _, rfl, a, _, rfl, .inl hS, _, _, rfl, rfl, _, rfl, ite2 (fun c => ?_) (fun c => ?_)⟩
  · have c' : (i : Int) < (((ns.map V.int).length : Nat) : Int) := of_decide_eq_true c
    have c2 : i < (ns.map V.int).length := by omega
    rw [List.length_map] at c2
    have g : (ns.map V.int)[i]? = some (.int ns[i]) := by rw [List.getElem?_map, List.getElem?_eq_getElem c2]; rfl
    exact ⟨_, rfl, _, rfl, a, _, _, _, rfl, rfl, hS, atI_nat g, q _⟩
  · exact q 0
theorem ok_draw {f : Addr} {fd : FuncData} {k : Nat} (F : Fun K "_law_draw" "_law_draw" sDraw f fd) (ml : mg "len" = none) (mi : mg "int" = none) : FnOk P w K mg base CX0 (k + 1) f fd ["box", "many"] spDraw := by
  refine F.ok scDraw (fun vs H Q E h => ?_) (fun cdv A outer s H vs Q E hr h => ?_)
  · obtain ⟨b, d, m, rest, rfl, _⟩ := h
    rfl
  obtain ⟨b, d, m, rest, rfl, hm, ⟨ds, at', hb, hd⟩, q⟩ := h
  have nd := scDraw.nd
  have i0 : ∀ (xs : List V) (x : V), atI (x :: xs) 0 = some x := fun xs x => atI_nat (j := 0) rfl
  have i1 : ∀ (xs : List V) (x y : V), atI (x :: y :: xs) 1 = some y := fun xs x y => atI_nat (j := 1) rfl
  refine ⟨_, pss_cons (ps_set (i := 2) nd rfl (.inl rfl) (pe_ix ix_list (pv 0) pe_int (fun _ _ => rfl)))
    (pss_cons (ps_asg (pe_op op_add (pv 2) pe_int) (pg_sub (pv 0) pe_int set_list))
    (pss_cons (ps_if (pt_cmpR op_lt (pv 2) (pe_callB call_len_seq (by rfl) ml PySem.boot_len (pa_cons (pe_ix ix_list (pv 0) pe_int (fun _ _ => rfl)) pa_nil)) (nomark _))
        (pss_one (ps_ret (pe_op op_mod (pe_callTy call_int1 (by rfl) mi bo_int (pa_cons (pe_ix ix_list (pe_ix ix_list (pv 0) pe_int (fun _ _ => rfl)) (pv 2) (fun _ _ => rfl)) pa_nil)) (pv 1)))) pss_nil)
      (pss_one (ps_ret pe_int)))), ?_⟩
  refine ⟨_, rfl, b, _, _, _, rfl, rfl, SqL.of hb, i1 _ _ _, ?_⟩
  refine ⟨_, rfl, _, _, rfl, rfl, _, rfl, b, _, 1, 1, rfl, rfl, hb, ?_, ?_⟩
  · show (if (0 : Int) ≤ 1 then (if (1 : Int) < ((rest.length + 1 + 1 : Nat) : Int) then some (1 : Int).toNat else none) else _) = some 1
    rw [if_pos (by decide), if_pos (by omega)]
    rfl
  have dne : d ≠ b := by
    intro e
    rw [e, hb] at hd
    cases ds with
    | nil => cases hd
    | cons x r => cases hd
  have hb' : upd H b (.lst (.ref d :: .int ((at' : Int) + 1) :: rest)) b = some (.lst (.ref d :: .int ((at' : Int) + 1) :: rest)) := upd_same
  have hd' : upd H b (.lst (.ref d :: .int ((at' : Int) + 1) :: rest)) d = some (.lst (ds.map V.int)) := by rw [upd_ne dne]; exact hd
  have o1 : Oth [b] H (upd H b (.lst (.ref d :: .int ((at' : Int) + 1) :: rest))) := Oth.put (by simp) hb
  have bx : Box (upd H b (.lst (.ref d :: .int ((at' : Int) + 1) :: rest))) b d rest := ⟨ds, at' + 1, by rw [hb']; rfl, hd'⟩
  refine ⟨_, rfl, _, rfl, b, _, _, _, rfl, rfl, SqL.of hb', i0 _ _, d, _, rfl, .inl (SqL.of hd'), _, _, rfl, rfl, _, rfl, ite2 (fun c => ?_) (fun c => ?_)⟩
  · have c' : (at' : Int) < (((ds.map V.int).length : Nat) : Int) := of_decide_eq_true c
    have c2 : at' < (ds.map V.int).length := by omega
    rw [List.length_map] at c2
    have g : (ds.map V.int)[at']? = some (.int ds[at']) := by rw [List.getElem?_map, List.getElem?_eq_getElem c2]; rfl
    refine ⟨_, rfl, b, _, _, _, rfl, rfl, SqL.of hb', i0 _ _, _, rfl, d, _, _, _, rfl, rfl, SqL.of hd', atI_nat g, .inl ⟨_, rfl, _, rfl, _, _, rfl, rfl, hm, ?_⟩⟩
    exact q _ _ (Int.emod_nonneg _ (by omega)) (Int.emod_lt_of_pos _ hm) bx o1
  · exact q 0 _ (by omega) hm bx o1
theorem ok_digits {f g : Addr} {fd gd : FuncData} {k : Nat} (F : Fun K "_law_digits" "_law_digits" sDigits f fd) (GC : FnOk P w K mg base CX0 k g gd ["script", "k"] (spCell' K)) (bC : Binds K gd ["script", "k"] []) (kC : PySem.W.keepIn K (.ref g) = true) (mC : mg "_law_cell" = some (.ref g))
    (m_range : mg "range" = none) (m_int : mg "int" = none) : FnOk P w K mg base CX0 (k + 1) f fd ["script", "first", "last"] (spDigits K) := by
  refine F.ok scDigits (fun vs H Q E h => ?_) (fun cdv A outer s H vs Q E hr h => ?_)
  · obtain ⟨a, ns, i, j, rfl, _⟩ := h
    rfl
  obtain ⟨a, ns, i0, j0, rfl, hS, hi0, hj0, q⟩ := h
  have nd := scDigits.nd
  refine ⟨_, (pss_cons (ps_set (i := 3) nd rfl (.inl rfl) (pe_lst pa_nil))
  (pss_cons (ps_for PassesOwn.never rfl (pi_range2 (by rfl) m_range (pa_cons (pv 1) (pa_cons (pv 2) pa_nil))) (pg_name (i := 4) nd rfl (.inl rfl))
  (pss_cons (ps_set (i := 5) nd rfl (.inl rfl) (pe_call GC hr rfl mC kC bC .nil pass0 (pa_cons (pv 0) (pa_cons (pv 4) pa_nil))))
  (pss_cut (ps_if (pt_cmpR op_lt (pv 5) pe_int (nomark _))
  (pss_one (ps_set (i := 5) nd rfl (.inl rfl) (pe_op op_sub pe_int (pe_op op_mul pe_int (pv 5)))))
  pss_nil)
  (pss_one (ps_if (pt_cmpR op_ge (pv 5) (pe_op op_pow pe_int pe_int) (nomark _))
  (pss_one (ps_for PassesOwn.never rfl (pi_range1 (by rfl) m_range (pa_cons pe_int pa_nil)) (pg_name (i := 6) nd rfl (.inl rfl))
  (pss_one (ps_if (pt_cmpR op_gt (pv 5) pe_int (nomark _))
  (pss_cons (ps_expr (pe_bm PySem.F.plainAttrs_list PySem.F.slot_list_append PySem.F.type_list_append mt_append (pv 3) (pa_cons (pe_op op_mod (pe_callTy call_int1 (by rfl) m_int bo_int (pa_cons (pv 5) pa_nil)) pe_int) pa_nil)))
  (pss_one (ps_set (i := 5) nd rfl (.inl rfl) (pe_op op_fdiv (pv 5) pe_int))))
  pss_nil))))
  (pss_cons (ps_set (i := 7) nd rfl (.inl rfl) (pe_op op_mod (pe_callTy call_int1 (by rfl) m_int bo_int (pa_cons (pe_op op_add (pe_op op_add (pe_op op_mul (pv 5) pe_int) (pe_op op_mul (pv 4) pe_int)) pe_int) pa_nil)) pe_int))
  (pss_one (ps_for PassesOwn.never rfl (pi_range1 (by rfl) m_range (pa_cons pe_int pa_nil)) (pg_name (i := 6) nd rfl (.inl rfl))
  (pss_cons (ps_set (i := 7) nd rfl (.inl rfl) (pe_op op_mod (pe_callTy call_int1 (by rfl) m_int bo_int (pa_cons (pe_op op_add (pe_op op_add (pe_op op_mul (pv 7) pe_int) (pe_op op_mul pe_int (pv 6))) pe_int) pa_nil)) pe_int))
  (pss_one (ps_expr (pe_bm PySem.F.plainAttrs_list PySem.F.slot_list_append PySem.F.type_list_append mt_append (pv 3) (pa_cons (pe_op op_mod (pe_callTy call_int1 (by rfl) m_int bo_int (pa_cons (pe_op op_fdiv (pv 7) pe_int) pa_nil)) pe_int) pa_nil)))))))))))))
  (pss_one (ps_ret (pv 3))))), ?_⟩
  refine ⟨Nat.zero_le _, fun p hp => ?_⟩
  refine ⟨_, rfl, _, rfl, (i0 : Int), (j0 : Int), rfl, ⟨by omega, by omega, by omega, by omega⟩, for_range (lo := (i0 : Int)) (n := ((j0 : Int) - (i0 : Int)).toNat)
    (fun i σ H1 => ∃ (x4 x5 x6 x7 : Option V) (ds : List Int), σ = [some (.ref a), some (.int (i0 : Int)), some (.int (j0 : Int)), some (.ref p), x4, x5, x6, x7] ∧ Oth [] H H1 ∧ H1 p = some (.lst (ds.map V.int)) ∧ ds.length ≤ 60 * i)
    ⟨none, none, none, none, [], rfl, Oth.new hp, upd_same, Nat.zero_le _⟩ (fun i σ H1 hi hW => ?_) (fun σ H1 hW => ?_)⟩
  · obtain ⟨x4, x5, x6, x7, ds, rfl, o1, hp1, hds⟩ := hW
    have hi2 : i < 100 := by omega
    refine ⟨_, rfl, _, rfl, a, ns, i0 + i, rfl, o1.sqL (by simp) hS, fun x => ?_⟩
    refine ⟨fun σ2 H2 => H2 = H1 ∧ ∃ c : Int, 0 ≤ c ∧ σ2 = [some (.ref a), some (.int (i0 : Int)), some (.int (j0 : Int)), some (.ref p), some (.int ((i0 : Int) + (i : Int))), some (.int c), x6, x7], ?_, ?_⟩
    · refine ⟨_, rfl, _, _, rfl, rfl, _, rfl, ite2 (fun c => ?_) (fun c => ?_)⟩
      · have c' : x < 0 := of_decide_eq_true c
        exact ⟨_, rfl, _, _, rfl, rfl, .inl ⟨by decide, by decide⟩, _, _, rfl, rfl, rfl, _, by omega, rfl⟩
      · have c' : ¬ x < 0 := of_decide_eq_false (Bool.eq_false_iff.mpr c)
        exact ⟨rfl, x, by omega, rfl⟩
    · rintro σ2 H2 ⟨rfl, c, hc, rfl⟩
      refine ⟨_, rfl, _, _, rfl, rfl, ⟨by decide, by decide, by decide⟩, _, _, rfl, rfl, _, rfl, ite2 (fun y => ?_) (fun y => ?_)⟩
      · refine ⟨60, rfl, by decide, by decide, for_range (lo := 0) (n := 60)
          (fun j σ H3 => ∃ (x6 : Option V) (c : Int) (ds : List Int), σ = [some (.ref a), some (.int (i0 : Int)), some (.int (j0 : Int)), some (.ref p), some (.int ((i0 : Int) + (i : Int))), some (.int c), x6, x7] ∧ Oth [] H H3 ∧ H3 p = some (.lst (ds.map V.int)) ∧ ds.length ≤ 60 * i + j)
          ⟨x6, c, ds, rfl, o1, hp1, by omega⟩ (fun j σ H3 hj hW => ?_) (fun σ H3 hW => ?_)⟩
        · obtain ⟨x6, c, ds, rfl, o3, hp3, hd3⟩ := hW
          refine ⟨_, rfl, _, _, rfl, rfl, _, rfl, ite2 (fun y => ?_) (fun y => ?_)⟩
          · have hs : (ds.map V.int).length < sizeLine := by rw [List.length_map]; exact Nat.lt_of_le_of_lt (by omega : ds.length ≤ 100000) (by decide)
            refine ⟨_, rfl, .inl ⟨rfl, _, SqL.of hp3⟩, _, rfl, .inl ⟨_, rfl, _, _, rfl, rfl, (by show (0 : Int) < 1000; decide), p, _, _, rfl, rfl, hp3, hs, ?_⟩⟩
            refine ⟨_, rfl, _, _, rfl, rfl, ⟨by decide, by decide⟩, _, _, ds ++ [c % 1000], rfl, (((o3.mono (S' := [p]) (by simp)).trans (Oth.put (by simp) hp3)).drop hp), ?_, ?_⟩
            · rw [upd_same, List.map_append]; rfl
            · rw [List.length_append]; simp; omega
          · exact ⟨_, c, ds, rfl, o3, hp3, by omega⟩
        · obtain ⟨x6, c, ds, rfl, o3, hp3, hd3⟩ := hW
          exact ⟨_, _, _, _, ds, rfl, o3, hp3, by omega⟩
      · have y' : c < 10 ^ 18 := Int.not_le.mp fun z => y (decide_eq_true z)
        have y2 : c < 1000000000000000000 := Int.lt_of_lt_of_le y' (by decide)
        refine ⟨_, rfl, _, _, rfl, rfl, .inl ⟨by omega, by omega⟩, _, rfl, _, _, rfl, rfl, .inl ⟨by omega, by omega⟩, _, _, rfl, rfl, _, _, rfl, rfl, .inl ⟨_, rfl, _, _, rfl, rfl, (by show (0 : Int) < 2147483647; decide), ?_⟩⟩
        have s0 : 0 ≤ (c * 48271 + ((i0 : Int) + (i : Int)) * 69621 + 11) % 2147483647 := Int.emod_nonneg _ (by decide)
        have s1 : (c * 48271 + ((i0 : Int) + (i : Int)) * 69621 + 11) % 2147483647 < 2147483647 := Int.emod_lt_of_pos _ (by decide)
        refine ⟨12, rfl, by decide, by decide, for_range (lo := 0) (n := 12)
          (fun j σ H3 => ∃ (x6 : Option V) (s : Int) (ds : List Int), σ = [some (.ref a), some (.int (i0 : Int)), some (.int (j0 : Int)), some (.ref p), some (.int ((i0 : Int) + (i : Int))), some (.int c), x6, some (.int s)] ∧ 0 ≤ s ∧ s < 2147483647 ∧ Oth [] H H3 ∧ H3 p = some (.lst (ds.map V.int)) ∧ ds.length ≤ 60 * i + j)
          ⟨x6, _, ds, rfl, s0, s1, o1, hp1, by omega⟩ (fun j σ H3 hj hW => ?_) (fun σ H3 hW => ?_)⟩
        · obtain ⟨x6, s', ds, rfl, t0, t1, o3, hp3, hd3⟩ := hW
          have hs : (ds.map V.int).length < sizeLine := by rw [List.length_map]; exact Nat.lt_of_le_of_lt (by omega : ds.length ≤ 100000) (by decide)
          refine ⟨_, rfl, _, _, rfl, rfl, .inl ⟨by omega, by omega⟩, _, rfl, _, _, rfl, rfl, .inl ⟨by decide, by decide⟩, _, _, rfl, rfl, _, _, rfl, rfl, .inl ⟨_, rfl, _, _, rfl, rfl, (by show (0 : Int) < 2147483647; decide), ?_⟩⟩
          refine ⟨_, rfl, .inl ⟨rfl, _, SqL.of hp3⟩, _, rfl, _, _, rfl, rfl, ⟨by decide, by decide⟩, .inl ⟨_, rfl, _, _, rfl, rfl, (by show (0 : Int) < 1000; decide), p, _, _, rfl, rfl, hp3, hs, ?_⟩⟩
          refine ⟨_, _, ds ++ [((s' * 16807 + 7 * (0 + (j : Int)) + 1) % 2147483647 / 997) % 1000], rfl, Int.emod_nonneg _ (by decide), Int.emod_lt_of_pos _ (by decide), (((o3.mono (S' := [p]) (by simp)).trans (Oth.put (by simp) hp3)).drop hp), ?_, ?_⟩
          · rw [upd_same, List.map_append]; rfl
          · rw [List.length_append]; simp; omega
        · obtain ⟨x6, s', ds, rfl, t0, t1, o3, hp3, hd3⟩ := hW
          exact ⟨_, _, _, _, ds, rfl, o3, hp3, by omega⟩
  · obtain ⟨x4, x5, x6, x7, ds, rfl, o1, hp1, hds⟩ := hW
    exact ⟨_, rfl, q p H1 ds hp o1 hp1⟩
end
end Pw
namespace Pw
open PySem PySem.Spec PyProof.Rows L2
abbrev sSame : Stmt := topS 8
theorem scSame : FnScope ["actual", "expected", "k"] ["actual", "expected"] (defScope sSame) := ⟨rfl, rfl, rfl, by decide +kernel, rfl, by decide +kernel, by decide +kernel⟩
section
variable {P : Program} {w : World} {K : PySem.W.Frag} {mg : Str → Option Value} {base : Heap}
theorem ok_same {f : Addr} {fd : FuncData} {k n : Nat} (F : Fun K "_law_same" "_law_same" sSame f fd)
    (GS : FnOk P w K mg base CX0 k f fd ["actual", "expected"] (spSame n)) (bS : Binds K fd ["actual", "expected"] []) (kS : PySem.W.keepIn K (.ref f) = true) (mS : mg "_law_same" = some (.ref f))
    (m_isinstance : mg "isinstance" = none) (m_tuple : mg "tuple" = none) (m_len : mg "len" = none) (m_range : mg "range" = none) (m_bool : mg "bool" = none) (m_int : mg "int" = none) (m_str : mg "str" = none) :
    FnOk P w K mg base CX0 (k + 1) f fd ["actual", "expected"] (spSame (n + 1)) := by
  refine F.ok scSame (fun vs H Q E h => ?_) (fun cdv A outer s H vs Q E hr h => ?_)
  · obtain ⟨t, v, u, rfl, _⟩ := h
    rfl
  obtain ⟨t, v, u, rfl, hv, hu, hd, q⟩ := h
  have nd := scSame.nd
  refine ⟨_, (pss_cons (ps_if (pt_val (pe_callB call_isi (by rfl) m_isinstance bo_isi (pa_cons (pv 1) (pa_cons (pe_bltn (v := .ty "tuple") (by rfl) m_tuple bo_tuple rfl) pa_nil))))
  (pss_cons (ps_if (PW.pt (pw_or (pt_not (pt_val (pe_callB call_isi (by rfl) m_isinstance bo_isi (pa_cons (pv 0) (pa_cons (pe_bltn (v := .ty "tuple") (by rfl) m_tuple bo_tuple rfl) pa_nil))))) (pw_or1 (pt_cmpR op_ne (pe_callB call_len_seq (by rfl) m_len PySem.boot_len (pa_cons (pv 0) pa_nil)) (pe_callB call_len_seq (by rfl) m_len PySem.boot_len (pa_cons (pv 1) pa_nil)) (nomark _)))))
  (pss_one (ps_ret pe_bl))
  pss_nil)
  (pss_cons (ps_for PassesOwn.never rfl (pi_range1 (by rfl) m_range (pa_cons (pe_callB call_len_seq (by rfl) m_len PySem.boot_len (pa_cons (pv 1) pa_nil)) pa_nil)) (pg_name (i := 2) nd rfl (.inl rfl))
  (pss_one (ps_if (pt_not (pt_val (pe_call GS hr rfl mS kS bS .nil pass0 (pa_cons (pe_ix ix_tup (pv 0) (pv 2) (fun _ _ => rfl)) (pa_cons (pe_ix ix_tup (pv 1) (pv 2) (fun _ _ => rfl)) pa_nil)))))
  (pss_one (ps_ret pe_bl))
  pss_nil)))
  (pss_one (ps_ret pe_bl))))
  pss_nil)
  (pss_cons (ps_if (pt_cmpR op_isN (pv 1) pe_non (nomark _))
  (pss_one (ps_ret (pe_cmpR op_isN (pv 0) pe_non (nomark _))))
  pss_nil)
  (pss_cons (ps_if (pt_val (pe_callB call_isi (by rfl) m_isinstance bo_isi (pa_cons (pv 1) (pa_cons (pe_bltn (v := .ty "bool") (by rfl) m_bool bo_bool rfl) pa_nil))))
  (pss_one (ps_ret (pe_and (pe_callB call_isi (by rfl) m_isinstance bo_isi (pa_cons (pv 0) (pa_cons (pe_bltn (v := .ty "bool") (by rfl) m_bool bo_bool rfl) pa_nil))) (pe_one (pe_cmpR op_eq (pv 0) (pv 1) (nomark _))))))
  pss_nil)
  (pss_cons (ps_if (pt_val (pe_callB call_isi (by rfl) m_isinstance bo_isi (pa_cons (pv 1) (pa_cons (pe_bltn (v := .ty "int") (by rfl) m_int bo_int rfl) pa_nil))))
  (pss_one (ps_ret (pe_and (pe_callB call_isi (by rfl) m_isinstance bo_isi (pa_cons (pv 0) (pa_cons (pe_bltn (v := .ty "int") (by rfl) m_int bo_int rfl) pa_nil))) (pe_and (pe_not (pe_callB call_isi (by rfl) m_isinstance bo_isi (pa_cons (pv 0) (pa_cons (pe_bltn (v := .ty "bool") (by rfl) m_bool bo_bool rfl) pa_nil)))) (pe_one (pe_cmpR op_eq (pv 0) (pv 1) (nomark _)))))))
  pss_nil)
  (pss_one (ps_ret (pe_and (pe_callB call_isi (by rfl) m_isinstance bo_isi (pa_cons (pv 0) (pa_cons (pe_bltn (v := .ty "str") (by rfl) m_str bo_str rfl) pa_nil))) (pe_one (pe_cmpR op_eq (pv 0) (pv 1) (nomark _)))))))))), ?_⟩
  cases hd with
  | non _ =>
    obtain rfl := hv.of_non
    obtain rfl := hu.of_non
    refine ⟨_, rfl, _, _, _, _, false, rfl, .ty "tuple", hu.ty, kit_ty kb_NoneType_tuple, _, rfl, iteF ?_⟩
    refine ⟨_, rfl, rfl, _, rfl, iteT ⟨_, rfl, rfl, ?_⟩⟩
    exact q
  | int _ i =>
    obtain rfl := hv.of_int
    obtain rfl := hu.of_int
    refine ⟨_, rfl, _, _, _, _, false, rfl, .ty "tuple", hu.ty, kit_ty kb_int_tuple, _, rfl, iteF ?_⟩
    refine ⟨_, rfl, rfl, _, rfl, iteF ?_⟩
    refine ⟨_, rfl, _, _, _, _, false, rfl, .ty "bool", hu.ty, kit_ty kb_int_bool, _, rfl, iteF ?_⟩
    refine ⟨_, rfl, _, _, _, _, true, rfl, .ty "int", hu.ty, kit_ty kb_int_int, _, rfl, iteT ?_⟩
    refine ⟨_, rfl, _, _, _, _, true, rfl, .ty "int", hu.ty, kit_ty kb_int_int, _, rfl, iteT ?_⟩
    refine ⟨_, rfl, _, _, _, _, false, rfl, .ty "bool", hu.ty, kit_ty kb_int_bool, _, rfl, _, rfl, iteT ?_⟩
    refine ⟨_, rfl, _, rfl, rfl, ?_⟩
    rw [decide_eq_true rfl]
    exact q
  | str _ x =>
    obtain rfl := hv.of_str
    obtain rfl := hu.of_str
    refine ⟨_, rfl, _, _, _, _, false, rfl, .ty "tuple", hu.ty, kit_ty kb_str_tuple, _, rfl, iteF ?_⟩
    refine ⟨_, rfl, rfl, _, rfl, iteF ?_⟩
    refine ⟨_, rfl, _, _, _, _, false, rfl, .ty "bool", hu.ty, kit_ty kb_str_bool, _, rfl, iteF ?_⟩
    refine ⟨_, rfl, _, _, _, _, false, rfl, .ty "int", hu.ty, kit_ty kb_str_int, _, rfl, iteF ?_⟩
    refine ⟨_, rfl, _, _, _, _, true, rfl, .ty "str", hu.ty, kit_ty kb_str_str, _, rfl, iteT ?_⟩
    refine ⟨_, rfl, _, rfl, rfl, ?_⟩
    rw [decide_eq_true rfl]
    exact q
  | tup _ ts hz hts =>
    obtain ⟨a, xs, rfl, ea, pa⟩ := hv.inv
    obtain ⟨b, ys, rfl, eb, pb⟩ := hu.inv
    have la := (paired_get pa).1
    have lb := (paired_get pb).1
    refine ⟨_, rfl, _, _, _, _, true, rfl, .ty "tuple", hu.ty, kit_ty kb_tuple_tuple, _, rfl, iteT ?_⟩
    refine ⟨_, rfl, _, _, _, _, true, rfl, .ty "tuple", hv.ty, kit_ty kb_tuple_tuple, _, rfl, iteF ?_⟩
    refine ⟨_, rfl, a, _, rfl, .inr (SqT.of ea), _, rfl, b, _, rfl, .inr (SqT.of eb), rfl, _, rfl, ?_⟩
    rw [la, lb, decide_eq_true rfl]
    refine iteF ?_
    refine ⟨_, rfl, b, _, rfl, .inr (SqT.of eb), _, rfl, by omega, by omega, for_range (lo := 0) (n := ((ys.length : Nat) : Int).toNat)
      (fun i σ H1 => H1 = H ∧ ∃ x2 : Option V, σ = [some (.ref a), some (.ref b), x2]) ⟨rfl, none, rfl⟩ (fun i σ H1 hi hW => ?_) (fun σ H1 hW => ?_)⟩
    · obtain ⟨rfl, x2, rfl⟩ := hW
      have hi1 : i < ts.length := by omega
      have ga : xs[i]? = some xs[i] := List.getElem?_eq_getElem (by omega)
      have gb : ys[i]? = some ys[i] := List.getElem?_eq_getElem (by omega)
      have gt : ts[i]? = some ts[i] := List.getElem?_eq_getElem hi1
      refine ⟨_, rfl, _, rfl, a, _, (i : Int), _, rfl, by rw [Int.zero_add], SqT.of ea, atI_nat ga, _, rfl, _, rfl, b, _, (i : Int), _, rfl, by rw [Int.zero_add], SqT.of eb, atI_nat gb, ?_⟩
      refine ⟨ts[i], _, _, rfl, (paired_get pa).2 i _ _ gt ga, (paired_get pb).2 i _ _ gt gb, hts _ (List.getElem_mem hi1), _, rfl, ?_⟩
      exact iteF ⟨rfl, _, rfl⟩
    · obtain ⟨rfl, x2, rfl⟩ := hW
      exact q
end
end Pw
namespace Pw
open PySem PySem.Spec PyProof.Rows L2
abbrev sWithin : Stmt := topS 3
abbrev sWalk : Stmt := topS 2
theorem scWithin : FnScope ["template", "contents", "others"] ["template"] (defScope sWithin) := ⟨rfl, rfl, rfl, by decide +kernel, rfl, by decide +kernel, by decide +kernel⟩
theorem scWalk : FnScope ["contents", "before", "around", "found", "number", "template", "place", "behind", "inner"] ["contents", "before", "around"] (defScope sWalk) := ⟨rfl, rfl, rfl, by decide +kernel, rfl, by decide +kernel, by decide +kernel⟩
section
variable {P : Program} {w : World} {K : PySem.W.Frag} {mg : Str → Option Value} {base : Heap}
theorem ok_within {f : Addr} {fd : FuncData} {k : Nat} (F : Fun K "_rows_within" "_rows_within" sWithin f fd) : FnOk P w K mg base CX0 (k + 1) f fd ["template"] spWithin := by
  refine F.ok scWithin (fun vs H Q E h => ?_) (fun cdv A outer s H vs Q E' hr h => ?_)
  · obtain ⟨t, v, rfl, _⟩ := h
    rfl
  obtain ⟨t, v, rfl, ht, q⟩ := h
  have nd := scWithin.nd
  refine ⟨_, (pss_one (ps_match (pv 0) (pcs_cons nd (pp_seq rfl (pps_cons' pp_str (pps_cons' pp_any (pps_cons' pp_any (pps_cons' pp_any (pps_cons' (pp_name 1) pps_nil')))))) (pss_one (ps_ret (pe_tup (pa_cons (pe_tup (pa_cons (pe_tup pa_nil) (pa_cons (pv 1) pa_nil))) pa_nil))))
  (pcs_cons nd (pp_seq rfl (pps_cons' pp_str (pps_cons' pp_any (pps_cons' (pp_name 1) pps_nil')))) (pss_one (ps_ret (pe_tup (pa_cons (pe_tup (pa_cons (pe_tup pa_nil) (pa_cons (pv 1) pa_nil))) pa_nil))))
  (pcs_cons nd (pp_seq rfl (pps_cons' pp_str (pps_cons' pp_any (pps_cons' (pp_name 1) (pps_cons' (pp_name 2) pps_nil'))))) (pss_one (ps_ret (pe_tup (pa_cons (pe_tup (pa_cons (pe_tup (pa_cons pe_int pa_nil)) (pa_cons (pv 1) pa_nil))) (pa_cons (pe_tup (pa_cons (pe_tup (pa_cons pe_int pa_nil)) (pa_cons (pv 2) pa_nil))) pa_nil)))))
  (pcs_cons nd pp_any (pss_one (ps_ret (pe_tup pa_nil)))
  pcs_nil)))))), ?_⟩
  cases t with
  | box tag key act cs =>
    obtain ⟨a, _, v1, v2, v3, v4, rfl, ha, p0, p1, p2, p3, p4⟩ := IsT.inv5 ht
    obtain rfl := p0.of_str
    refine ⟨_, rfl, case_hit (SqT.of ha) rfl ⟨_, _, rfl, _, _, rfl, _, _, rfl, _, _, rfl, sz, fun q0 h0 => ⟨_, rfl, sz, fun q1 h1 => ⟨sz, fun q2 h2 => ?_⟩⟩⟩⟩
    have o1 : Oth [] (upd H q0 (.tup [])) (upd (upd H q0 (.tup [])) q1 (.tup [.ref q0, v4])) := Oth.new h1
    have o2 : Oth [] (upd (upd H q0 (.tup [])) q1 (.tup [.ref q0, v4])) (upd (upd (upd H q0 (.tup [])) q1 (.tup [.ref q0, v4])) q2 (.tup [.ref q1])) := Oth.new h2
    have o0 : Oth [] H (upd H q0 (.tup [])) := Oth.new h0
    exact q _ _ (.mk1 upd_same (.mk2 (o2.tup _ _ upd_same) (.mk (o2.tup _ _ (o1.tup _ _ upd_same)) .nil) (((p4.oth o0).oth o1).oth o2))) (o0.trans (o1.trans o2))
  | each e cs =>
    obtain ⟨a, _, v1, v4, rfl, ha, p0, p1, p4⟩ := IsT.inv3 ht
    obtain rfl := p0.of_str
    refine ⟨_, rfl, case_skip (SqT.of ha) (by decide) (case_hit (SqT.of ha) rfl ⟨_, _, rfl, _, _, rfl, sz, fun q0 h0 => ⟨_, rfl, sz, fun q1 h1 => ⟨sz, fun q2 h2 => ?_⟩⟩⟩)⟩
    have o1 : Oth [] (upd H q0 (.tup [])) (upd (upd H q0 (.tup [])) q1 (.tup [.ref q0, v4])) := Oth.new h1
    have o2 : Oth [] (upd (upd H q0 (.tup [])) q1 (.tup [.ref q0, v4])) (upd (upd (upd H q0 (.tup [])) q1 (.tup [.ref q0, v4])) q2 (.tup [.ref q1])) := Oth.new h2
    have o0 : Oth [] H (upd H q0 (.tup [])) := Oth.new h0
    exact q _ _ (.mk1 upd_same (.mk2 (o2.tup _ _ upd_same) (.mk (o2.tup _ _ (o1.tup _ _ upd_same)) .nil) (((p4.oth o0).oth o1).oth o2))) (o0.trans (o1.trans o2))
  | when e cs os =>
    obtain ⟨a, _, v1, v4, v5, rfl, ha, p0, p1, p4, p5⟩ := IsT.inv4 ht
    obtain rfl := p0.of_str
    refine ⟨_, rfl, case_skip (SqT.of ha) (by decide) (case_skip (SqT.of ha) (by decide) (case_hit (SqT.of ha) rfl ⟨_, _, rfl, _, _, rfl, _, _, rfl, sz, fun q0 h0 => ⟨_, rfl, sz, fun q1 h1 => ⟨sz, fun q2 h2 => ⟨_, rfl, sz, fun q3 h3 => ⟨sz, fun q4 h4 => ?_⟩⟩⟩⟩⟩))⟩
    have o0 := Oth.new (S := []) (o := .tup [.int 0]) h0
    have o1 := Oth.new (S := []) (o := .tup [.ref q0, v4]) h1
    have o2 := Oth.new (S := []) (o := .tup [.int 1]) h2
    have o3 := Oth.new (S := []) (o := .tup [.ref q2, v5]) h3
    have o4 := Oth.new (S := []) (o := .tup [.ref q1, .ref q3]) h4
    have o34 := o3.trans o4
    have o234 := o2.trans o34
    have o14 := o1.trans o234
    have o04 := o0.trans o14
    exact q _ _ (.mk2 upd_same (.mk2 (o234.tup _ _ upd_same) (.mk1 (o14.tup _ _ upd_same) (.int _)) (p4.oth o04)) (.mk2 (o4.tup _ _ upd_same) (.mk1 (o34.tup _ _ upd_same) (.int _)) (p5.oth o04))) o04
  | _ =>
    obtain ⟨a, r, rfl, ha⟩ := Tp.kindAt _ ht
    refine ⟨_, rfl, case_skip (SqT.of ha) (by simp only [Tp.kind]; decide) (case_skip (SqT.of ha) (by simp only [Tp.kind]; decide) (case_skip (SqT.of ha) (by simp only [Tp.kind]; decide) ⟨sz, fun p hp => ?_⟩))⟩
    exact q _ _ (.mk upd_same .nil) (Oth.new hp)
theorem ok_walk {f g : Addr} {fd gd : FuncData} {k n : Nat} (F : Fun K "_walk" "_walk" sWalk f fd)
    (GW : FnOk P w K mg base CX0 k f fd ["contents", "before", "around"] (spWalk n)) (bW : Binds K fd ["contents", "before", "around"] []) (kW : PySem.W.keepIn K (.ref f) = true) (mW : mg "_walk" = some (.ref f))
    (GI : FnOk P w K mg base CX0 k g gd ["template"] spWithin) (bI : Binds K gd ["template"] []) (kI : PySem.W.keepIn K (.ref g) = true) (mI : mg "_rows_within" = some (.ref g)) (m_enumerate : mg "enumerate" = none) :
    FnOk P w K mg base CX0 (k + 1) f fd ["contents", "before", "around"] (spWalk (n + 1)) := by
  refine F.ok scWalk (fun vs H Q E h => ?_) (fun cdv A outer s H vs Q E' hr h => ?_)
  · obtain ⟨ts, pl, ar, vc, vb, va, rfl, _⟩ := h
    rfl
  obtain ⟨ts, pl, ar, vc, vb, va, rfl, hc, hb, ha, hd, hz, hpl, har, q⟩ := h
  have nd := scWalk.nd
  refine ⟨_, (pss_cons (ps_set (i := 3) nd rfl (.inl rfl) (pe_lst pa_nil))
  (pss_cons (ps_for PassesOwn.never rfl (pi_enumT (by rfl) m_enumerate (pa_cons (pv 0) pa_nil)) (pg_tup rfl (pgs_cons (pg_name (i := 4) nd rfl (.inl rfl)) (pgs_cons (pg_name (i := 5) nd rfl (.inl rfl)) pgs_nil)))
  (pss_cons (ps_set (i := 6) nd rfl (.inl rfl) (pe_op op_catA (pv 1) (pe_tup (pa_cons (pv 4) pa_nil))))
  (pss_cons (ps_expr (pe_bm PySem.F.plainAttrs_list PySem.F.slot_list_append PySem.F.type_list_append mt_append (pv 3) (pa_cons (pe_tup (pa_cons (pv 6) (pa_cons (pv 5) (pa_cons (pv 2) pa_nil)))) pa_nil)))
  (pss_one (ps_for PassesOwn.never rfl (pi_tup (pe_call GI hr rfl mI kI bI .nil pass0 (pa_cons (pv 5) pa_nil))) (pg_tup rfl (pgs_cons (pg_name (i := 7) nd rfl (.inl rfl)) (pgs_cons (pg_name (i := 8) nd rfl (.inl rfl)) pgs_nil)))
  (pss_one (ps_expr (pe_bm PySem.F.plainAttrs_list PySem.F.slot_list_extend PySem.F.type_list_extend mt_extend (pv 3) (pa_cons (pe_call GW hr rfl mW kW bW .nil pass0 (pa_cons (pv 8) (pa_cons (pe_op op_catA (pv 6) (pv 7)) (pa_cons (pe_op op_catA (pv 2) (pe_tup (pa_cons (pe_ix ix_tup (pv 5) pe_int (fun _ _ => rfl)) pa_nil))) pa_nil)))) pa_nil)))))))))
  (pss_one (ps_ret (pv 3))))), ?_⟩
  obtain ⟨ac, xs, rfl, ec, pc⟩ := hc.inv
  obtain ⟨ab, rfl, eb⟩ := hb.ints
  obtain ⟨aa, rfl, ea⟩ := ha.strs
  have lxs := (paired_get pc).1
  rw [Tp.toTs_map, List.length_map] at lxs
  refine ⟨sz, fun p hp => ?_⟩
  have o0 := Oth.new (S := []) (o := .lst []) hp
  refine ⟨_, rfl, ac, xs, rfl, SqT.of (o0.tup _ _ ec), for_enumT
    (fun i σ H1 => ∃ (x4 x5 x6 x7 x8 : Option V) (rs : List V), σ = [some (.ref ac), some (.ref ab), some (.ref aa), some (.ref p), x4, x5, x6, x7, x8] ∧ Oth [] H H1 ∧ H1 p = some (.lst rs) ∧ RowsT H1 (Tp.lst pl 0 ar (ts.take i)) rs)
    ⟨none, none, none, none, none, [], rfl, o0, upd_same, .nil⟩ (fun i σ H1 _ hW => ?_) (fun i x σ H1 Tt hx hW hT => ?_) (fun σ H1 hW => ?_)⟩
  · obtain ⟨_, _, _, _, _, _, _, o1, _, _⟩ := hW
    exact SqT.of (o1.tup _ _ ec)
  · obtain ⟨x4, x5, x6, x7, x8, rs, rfl, o1, hp1, hr1⟩ := hW
    have hi : i < ts.length := by rw [← lxs]; exact (List.getElem?_eq_some_iff.mp hx).1
    obtain ⟨t, gt⟩ : ∃ t, ts[i]? = some t := ⟨ts[i], List.getElem?_eq_getElem hi⟩
    have ht : IsT H t.toT x := (paired_get pc).2 i _ _ (by rw [Tp.toTs_map, List.getElem?_map, gt]; rfl) hx
    have oT := Oth.new (S := []) (o := .tup [.int ((i : Nat) : Int), x]) hT
    have o2 := o1.trans oT
    have hp2 := oT.keep p _ (by simp) hp1
    have tm : t ∈ ts := List.mem_of_getElem? gt
    have all : Tp.cnts (ts.take i) + t.cnt ≤ Tp.cnts ts := by
      have e1 : ts = ts.take i ++ t :: ts.drop (i + 1) := by
        have e3 : t = ts[i] := by rw [List.getElem?_eq_getElem hi] at gt; exact (Option.some.inj gt).symm
        rw [e3, ← List.drop_eq_getElem_cons hi, List.take_append_drop]
      have e2 : ∀ a b : List Tp, Tp.cnts (a ++ b) = Tp.cnts a + Tp.cnts b := fun a b => by
        induction a with
        | nil => simp [Tp.cnts]
        | cons u a ih => simp only [List.cons_append, Tp.cnts, ih]; omega
      have e4 := congrArg Tp.cnts e1
      rw [e2, Tp.cnts] at e4
      omega
    have tdep : t.dep ≤ Tp.deps ts := by
      have : ∀ l : List Tp, t ∈ l → t.dep ≤ Tp.deps l := fun l => by
        induction l with
        | nil => intro h; cases h
        | cons u l ih =>
          intro h
          simp only [Tp.deps]
          rcases List.mem_cons.mp h with rfl | h
          · omega
          · have := ih h; omega
      exact this ts tm
    -- the place
    refine ⟨Tt, _, rfl, SqT.of upd_same, rfl, _, _, rfl, _, _, rfl, rfl, ?_⟩
    refine ⟨_, rfl, _, rfl, sz, fun r1 hr1' => cat_t ((o2.trans (Oth.new hr1')).tup _ _ eb) upd_same (by simp; omega) fun r2 H3 o3 e3 => ?_⟩
    have o3' := (Oth.new (S := []) (o := .tup [.int ((i : Nat) : Int)]) hr1').trans o3
    have o4 := o2.trans o3'
    have hp3 := o3'.keep p _ (by simp) hp2
    have e3' : H3 r2 = some (.tup ((pl ++ [(i : Int)]).map V.int)) := by rw [e3, List.map_append]; rfl
    -- the row
    refine ⟨_, rfl, .inl ⟨rfl, _, SqL.of hp3⟩, _, rfl, _, rfl, _, rfl, sz, fun r3 hr3 => ?_⟩
    have o5 := Oth.new (S := []) (o := .tup [.ref r2, x, .ref aa]) hr3
    have hp4 := o5.keep p _ (by simp) hp3
    have lrs : rs.length ≤ 5000 := by
      rw [hr1.len, Tp.lst_len]
      omega
    refine ⟨p, _, _, rfl, rfl, hp4, Nat.lt_of_le_of_lt lrs (by decide), ?_⟩
    have o6 : Oth [p] (upd H3 r3 (.tup [.ref r2, x, .ref aa])) (upd (upd H3 r3 (.tup [.ref r2, x, .ref aa])) p (.lst (rs ++ [.ref r3]))) := Oth.put (by simp) hp4
    have o46 : Oth [] H (upd (upd H3 r3 (.tup [.ref r2, x, .ref aa])) p (.lst (rs ++ [.ref r3]))) := Oth.drop (p := p) (((o4.trans o5).mono (by simp)).trans o6) hp
    have rr : RowsT (upd (upd H3 r3 (.tup [.ref r2, x, .ref aa])) p (.lst (rs ++ [.ref r3]))) (Tp.lst pl 0 ar (ts.take i) ++ [⟨pl ++ [(i : Int)], t, ar⟩]) (rs ++ [.ref r3]) := by
      refine Paired.appendP (RowsT.oth o6 (RowsT.oth o5 (RowsT.oth o3' (RowsT.oth oT hr1)))) (.cons ?_ .nil)
      exact .mk3 (o6.tup _ _ upd_same) (.mkInts (o6.tup _ _ (o5.tup _ _ e3'))) (ht.oth o46) (.mkStrs (o46.tup _ _ ea))
    -- what stands within
    refine ⟨_, rfl, t, x, rfl, ht.oth o46, fun rw H7 hw o7 => ?_⟩
    obtain ⟨aw, ws, rfl, ew, pw⟩ := hw.inv
    have lws := (paired_get pw).1
    rw [List.length_map] at lws
    have hp7 := o7.keep p _ (by simp) upd_same
    refine ⟨aw, rfl, ⟨ws, SqT.of ew⟩, for_tup (xs := ws)
      (fun j σ H8 => ∃ (x7 x8 : Option V) (rs : List V), σ = [some (.ref ac), some (.ref ab), some (.ref aa), some (.ref p), some (.int ((i : Nat) : Int)), some x, some (.ref r2), x7, x8] ∧ Oth [] H H8 ∧ H8 aw = some (.tup ws) ∧ H8 r2 = some (.tup ((pl ++ [(i : Int)]).map V.int)) ∧ Paired (IsT H8) (t.withins.map pairT) ws ∧ H8 p = some (.lst rs) ∧
        RowsT H8 (Tp.lst pl 0 ar (ts.take i) ++ [⟨pl ++ [(i : Int)], t, ar⟩] ++ Tp.rowsOf (pl ++ [(i : Int)]) ar t.kind (t.withins.take j)) rs)
      ⟨x7, x8, _, rfl, o46.trans o7, ew, (o7.tup _ _ (o6.tup _ _ (o5.tup _ _ e3'))), pw, hp7, by simpa [Tp.rowsOf] using RowsT.oth o7 rr⟩ (fun j σ H8 _ hW => ?_) (fun j y σ H8 hy hW => ?_) (fun σ H8 hW => ?_)⟩
    · obtain ⟨_, _, _, _, _, e8, _⟩ := hW
      exact SqT.of e8
    · obtain ⟨x7, x8, rs, rfl, o8, ew8, er8, pw8, hp8, hr8⟩ := hW
      have hj : j < t.withins.length := by rw [← lws]; exact (List.getElem?_eq_some_iff.mp hy).1
      obtain ⟨pr, gp⟩ : ∃ pr, t.withins[j]? = some pr := ⟨t.withins[j], List.getElem?_eq_getElem hj⟩
      have pm : pr ∈ t.withins := List.mem_of_getElem? gp
      have hy2 : IsT H8 (pairT pr) y := (paired_get pw8).2 j _ _ (by rw [List.getElem?_map, gp]; rfl) hy
      obtain ⟨ay, b1, b2, rfl, ey, y1, y2⟩ := IsT.inv2 hy2
      obtain ⟨ab1, rfl, eb1⟩ := y1.ints
      obtain ⟨at', rt, rfl, et⟩ := Tp.kindAt t (ht.oth o8)
      have wl := (Tp.withins_len t).2 pr pm
      have wd := Tp.withins_dep t pr pm
      have wc := Tp.withins_cnt t pr pm
      refine ⟨ay, _, rfl, SqT.of ey, rfl, _, _, rfl, _, _, rfl, rfl, ?_⟩
      refine ⟨_, rfl, .inl ⟨rfl, _, SqL.of hp8⟩, _, rfl, _, rfl, _, rfl, cat_t er8 eb1 (by simp; omega) fun s1 H9 o9 e9 => ?_⟩
      have o89 := o8.trans o9
      refine ⟨_, rfl, _, rfl, at', _, _, _, rfl, rfl, SqT.of (o9.tup _ _ et), at0, sz, fun s2 hs2 => cat_t ((o89.trans (Oth.new hs2)).tup _ _ ea) upd_same (by simp; omega) fun s3 H10 o10 e10 => ?_⟩
      have o10' := (Oth.new (S := []) (o := .tup [.str t.kind]) hs2).trans o10
      have o910 := o9.trans o10'
      have f9 : H10 s1 = some (.tup ((pl ++ [(i : Int)] ++ pr.1).map V.int)) := by rw [o10'.tup _ _ e9, ← List.map_append]
      have f10 : H10 s3 = some (.tup ((ar ++ [t.kind]).map V.str)) := by rw [e10, List.map_append]; rfl
      refine ⟨pr.2, pl ++ [(i : Int)] ++ pr.1, ar ++ [t.kind], _, _, _, rfl, y2.oth o910, .mkInts f9, .mkStrs f10, by omega, by omega, by simp only [List.length_append, List.length_cons, List.length_nil]; omega, by simp only [List.length_append, List.length_cons, List.length_nil]; omega, fun pz H11 zs hpz o11 e11 r11 => ?_⟩
      have hp11 := o11.keep p _ (by simp) (o910.keep p _ (by simp) hp8)
      have lzs : zs.length ≤ 5000 := by rw [r11.len, Tp.lst_len]; omega
      have lrs8 : rs.length ≤ 20000 := by
        rw [hr8.len]
        have e1 : ∀ l : List (List Int × List Tp), (∀ p ∈ l, Tp.cnts p.2 ≤ 5000) → l.length ≤ 2 → (Tp.rowsOf (pl ++ [(i : Int)]) ar t.kind l).length ≤ 10000 := fun l hl h2 => by
          match l, hl, h2 with
          | [], _, _ => simp [Tp.rowsOf]
          | [a], hl, _ => simp only [Tp.rowsOf, List.append_nil, Tp.lst_len]; have := hl a (by simp); omega
          | [a, b], hl, _ => simp only [Tp.rowsOf, List.append_nil, List.length_append, Tp.lst_len]; have := hl a (by simp); have := hl b (by simp); omega
        have e2 := e1 (t.withins.take j) (fun p hp => by have := Tp.withins_cnt t p (List.mem_of_mem_take hp); omega) (by rw [List.length_take]; have := (Tp.withins_len t).1; omega)
        simp only [List.length_append, Tp.lst_len, List.length_cons, List.length_nil]
        omega
      refine ⟨p, pz, _, _, rfl, rfl, hp11, e11, Nat.le_trans (by omega : rs.length + zs.length ≤ 100000) (by decide), ?_⟩
      have o12 : Oth [p] H11 (upd H11 p (.lst (rs ++ zs))) := Oth.put (by simp) hp11
      have o8_12 : Oth [p] H8 (upd H11 p (.lst (rs ++ zs))) := ((o910.trans o11).mono (by simp)).trans o12
      refine ⟨_, _, rs ++ zs, rfl, Oth.drop (p := p) ((o8.mono (by simp)).trans o8_12) hp, o8_12.tup _ _ ew8, o8_12.tup _ _ er8, paired_oth pw8 o8_12, upd_same, ?_⟩
      rw [take_succ gp, Tp.rowsOf_app, ← List.append_assoc]
      refine Paired.appendP (RowsT.oth o8_12 hr8) ?_
      simp only [Tp.rowsOf, List.append_nil]
      exact RowsT.oth o12 r11
    · obtain ⟨x7, x8, rs, rfl, o8, ew8, er8, pw8, hp8, hr8⟩ := hW
      refine ⟨_, _, _, _, _, rs, rfl, o8, hp8, ?_⟩
      rw [lws, List.take_length, ← Tp.under_eq] at hr8
      rw [take_succ gt, Tp.lst_app]
      have hl : (ts.take i).length = i := by rw [List.length_take]; omega
      simp only [Tp.lst, List.append_nil, hl, Nat.zero_add]
      simpa [List.append_assoc] using hr8
  · obtain ⟨x4, x5, x6, x7, x8, rs, rfl, o1, hp1, hr1⟩ := hW
    rw [lxs, List.take_length] at hr1
    exact ⟨_, rfl, q p H1 rs hp o1 hp1 hr1⟩
end
end Pw
namespace Pw
open PySem PySem.Spec PyProof.Rows L2
abbrev sTemplates : Stmt := topS 1
theorem scTemplates : FnScope ["contents"] ["contents"] (defScope sTemplates) := ⟨rfl, rfl, rfl, by decide +kernel, rfl, by decide +kernel, by decide +kernel⟩
section
variable {P : Program} {w : World} {K : PySem.W.Frag} {mg : Str → Option Value} {base : Heap}
theorem ok_templates {c T f g : Addr} {fd gd : FuncData} {k : Nat} (C : CodeAt K "templates" sTemplates f fd c) (TB : GxR.TabB base mg c T)
    (GW : FnOk P w K mg base CX0 k g gd ["contents", "before", "around"] (spWalk 4)) (bW : Binds K gd ["contents", "before", "around"] []) (kW : PySem.W.keepIn K (.ref g) = true) (mW : mg "_walk" = some (.ref g)) (m_tuple : mg "tuple" = none) :
    FnOk P w K mg base CX0 (k + 1) f fd ["contents"] (spTemplates T) := by
  refine C.ok scTemplates (fun vs H Q E h => ?_) (fun A outer s H vs Q E hr h => ?_)
  · obtain ⟨ts, v, rfl, _⟩ := h
    rfl
  obtain ⟨ts, v, rfl, ht, hd, hz, htg, q⟩ := h
  have nd := scTemplates.nd
  refine ⟨_, pss_one (ps_ret (pe_tupGen hr TB rfl ⟨rfl, rfl, by decide +kernel, by decide +kernel, by decide +kernel, by decide +kernel, by decide +kernel, by decide, by decide, by decide, by decide, by decide, fun y hy hf => absurd hf (no_free (by decide +kernel) y hy)⟩ (by rfl) m_tuple (pe_call GW hr rfl mW kW bW .nil pass0 (pa_cons (pv 0) (pa_cons (pe_tup pa_nil) (pa_cons (pe_tup pa_nil) pa_nil)))))), ?_⟩
  refine ⟨_, rfl, sz, fun p0 h0 => ⟨sz, fun p1 h1 => ?_⟩⟩
  have o0 := Oth.new (S := []) (o := .tup []) h0
  have o1 := Oth.new (S := []) (o := .tup []) h1
  have o2 := o0.trans o1
  refine ⟨ts, [], [], _, _, _, rfl, ht.oth o2, .mk (o1.tup _ _ upd_same) .nil, .mk upd_same .nil, hd, hz, by simp, by simp, fun p H' rs hp o e r => ?_⟩
  obtain ⟨ps, rv, pr⟩ := rows_split r
  have len : rs.length ≤ 5000 := by rw [r.len, Tp.lst_len]; exact hz
  have o3 := o2.trans o
  refine ⟨p, rs, ps, rfl, SqL.of e, rv, by omega, TabG.oth htg o3 (by simp), fun H2 qa as pv2 e2 kp tg => ?_⟩
  obtain ⟨tb, etb, _⟩ := TabG.oth htg o3 (by simp)
  have o4 : Oth [T] H' H2 := ⟨fun a o' n h => kp a o' (by simpa using n) h, fun a xs h => kp a _ (fun z => by rw [z, etb] at h; cases h) h⟩
  exact q _ _ (.mk e2 (pairs_join o4 pr pv2)) ((o3.mono (by simp)).trans o4) tg
end
end Pw
namespace Pw
open PySem PySem.Spec PyProof.Rows L2
abbrev sExpr : Stmt := topS 9
abbrev sKey : Stmt := topS 10
theorem scExpr : FnScope ["box", "depth", "kind", "leaves", "one", "two"] ["box", "depth"] (defScope sExpr) := ⟨rfl, rfl, rfl, by decide +kernel, rfl, by decide +kernel, by decide +kernel⟩
theorem scKey : FnScope ["box"] ["box"] (defScope sKey) := ⟨rfl, rfl, rfl, by decide +kernel, rfl, by decide +kernel, by decide +kernel⟩
section
variable {P : Program} {w : World} {K : PySem.W.Frag} {mg : Str → Option Value} {base : Heap}
theorem ok_expr {f g : Addr} {fd gd : FuncData} {k n : Nat} (F : Fun K "_law_expr" "_law_expr" sExpr f fd)
    (GE : FnOk P w K mg base CX0 k f fd ["box", "depth"] (spExpr n)) (bE : Binds K fd ["box", "depth"] []) (kE : PySem.W.keepIn K (.ref f) = true) (mE : mg "_law_expr" = some (.ref f))
    (GR : FnOk P w K mg base CX0 k g gd ["box", "many"] spDrawX) (bR : Binds K gd ["box", "many"] []) (kR : PySem.W.keepIn K (.ref g) = true) (mR : mg "_law_draw" = some (.ref g)) (m_int : mg "int" = none) :
    FnOk P w K mg base CX0 (k + 1) f fd ["box", "depth"] (spExpr (n + 1)) := by
  refine F.ok scExpr (fun vs H Q E h => ?_) (fun cdv A outer s H vs Q E' hr h => ?_)
  · obtain ⟨b, dg, pl, d, rfl, _⟩ := h
    rfl
  obtain ⟨b, dg, pl, d, rfl, hdn, bx, q⟩ := h
  have nd := scExpr.nd
  refine ⟨_, (pss_cons (ps_set (i := 2) nd rfl (.inl rfl) (pe_call GR hr rfl mR kR bR .nil pass0 (pa_cons (pv 0) (pa_cons pe_int pa_nil))))
  (pss_cons (ps_if (PW.pt (pw_or (pt_cmpR op_eq (pv 1) pe_int (nomark _)) (pw_or1 (pt_cmpR op_lt (pv 2) pe_int (nomark _)))))
  (pss_cons (ps_set (i := 3) nd rfl (.inl rfl) (pe_lst (pa_cons (pe_tup (pa_cons pe_str (pa_cons pe_int pa_nil))) (pa_cons (pe_tup (pa_cons pe_str (pa_cons pe_int pa_nil))) (pa_cons (pe_tup (pa_cons pe_str (pa_cons pe_int pa_nil))) (pa_cons (pe_tup (pa_cons pe_str (pa_cons pe_int pa_nil))) (pa_cons (pe_tup (pa_cons pe_str (pa_cons pe_int pa_nil))) (pa_cons (pe_tup (pa_cons pe_str pa_nil)) pa_nil))))))))
  (pss_one (ps_ret (pe_ix ix_list (pe_op op_cat (pe_lst (pa_cons (pe_tup (pa_cons pe_str (pa_cons (pe_call GR hr rfl mR kR bR .nil pass0 (pa_cons (pv 0) (pa_cons pe_int pa_nil))) pa_nil))) pa_nil)) (pv 3)) (pe_op op_mod (pe_callTy call_int1 (by rfl) m_int bo_int (pa_cons (pv 2) pa_nil)) pe_int) (fun _ _ => rfl)))))
  pss_nil)
  (pss_cons (ps_set (i := 4) nd rfl (.inl rfl) (pe_call GE hr rfl mE kE bE .nil pass0 (pa_cons (pv 0) (pa_cons (pe_op op_sub (pv 1) pe_int) pa_nil))))
  (pss_cons (ps_set (i := 5) nd rfl (.inl rfl) (pe_call GE hr rfl mE kE bE .nil pass0 (pa_cons (pv 0) (pa_cons (pe_op op_sub (pv 1) pe_int) pa_nil))))
  (pss_cons (ps_if (pt_cmpR op_eq (pv 2) pe_int (nomark _))
  (pss_one (ps_ret (pe_tup (pa_cons pe_str (pa_cons (pv 4) (pa_cons (pv 5) (pa_cons (pe_call GE hr rfl mE kE bE .nil pass0 (pa_cons (pv 0) (pa_cons (pe_op op_sub (pv 1) pe_int) pa_nil))) pa_nil)))))))
  pss_nil)
  (pss_one (ps_ret (pe_tup (pa_cons (pe_ix ix_list (pe_lst (pa_cons pe_str (pa_cons pe_str (pa_cons pe_str (pa_cons pe_str pa_nil))))) (pe_op op_mod (pe_callTy call_int1 (by rfl) m_int bo_int (pa_cons (pv 2) pa_nil)) pe_int) (fun _ _ => rfl)) (pa_cons (pv 4) (pa_cons (pv 5) pa_nil))))))))))), ?_⟩
  refine ⟨_, rfl, b, dg, pl, _, rfl, by decide, bx, fun kind H0 k0 k1 bx0 o0 => ?_⟩
  refine ⟨_, rfl, rfl, _, rfl, ?_⟩
  refine (fun leaf => ite2 (fun c => iteT leaf) (fun c => ⟨_, rfl, _, _, rfl, rfl, _, rfl, ite2 (fun c2 => leaf) (fun c2 => ?node)⟩)) ?leaf
  case node =>
    have hk6 : ¬ kind < 7 := of_decide_eq_false (Bool.eq_false_iff.mpr c2)
    obtain ⟨d', rfl⟩ : ∃ d', d = d' + 1 := by
      cases d with
      | zero => exact absurd (show decide (V.int ((0 : Nat) : Int) = V.int 0) = true from decide_eq_true rfl) c
      | succ d' => exact ⟨d', rfl⟩
    have hd' : ([V.ref b, V.int (((d' + 1 : Nat) : Int) - 1)] : List V) = [V.ref b, V.int (d' : Int)] := by rw [show ((d' + 1 : Nat) : Int) - 1 = (d' : Int) by omega]
    refine ⟨_, rfl, _, rfl, _, _, rfl, rfl, b, dg, pl, d', hd', by omega, bx0, fun e1 v1 H1 d1 t1 bx1 o1 => ?_⟩
    refine ⟨_, rfl, _, rfl, _, _, rfl, rfl, b, dg, pl, d', hd', by omega, bx1, fun e2 v2 H2 d2 t2 bx2 o2 => ?_⟩
    refine ⟨_, rfl, rfl, _, rfl, ite2 (fun c3 => ?_) (fun c3 => ?_)⟩
    · refine ⟨_, rfl, _, rfl, _, rfl, _, rfl, _, _, rfl, rfl, b, dg, pl, d', hd', by omega, bx2, fun e3 v3 H3 d3 t3 bx3 o3 => ⟨sz, fun p hp => ?_⟩⟩
      have on : Oth [b] H3 (upd H3 p (.tup [.str "if", v1, v2, v3])) := Oth.new hp
      refine q (.ite e1 e2 e3) _ _ (by simp only [E.depth]; omega) ?_ (bx3.new hp) (o0.trans (o1.trans (o2.trans (o3.trans on))))
      exact IsT.mk4 upd_same (.str _) (((t1.oth o2).oth o3).oth on) ((t2.oth o3).oth on) (t3.oth on)
    · have fin : ∀ (x : Str) (mk : E → E → E), (∀ a b, (mk a b).depth = max a.depth b.depth + 1) → (∀ a b, (mk a b).toT = .tup [.str x, a.toT, b.toT]) → ∀ H3 p, Oth [b] H2 H3 → Bx H3 b dg pl → H3 p = none →
          Q (.ref p) (upd H3 p (.tup [.str x, v1, v2])) := fun x mk h1 h4 H3 p o3 bx3 hp => by
        have on : Oth [b] H3 (upd H3 p (.tup [.str x, v1, v2])) := Oth.new hp
        refine q (mk e1 e2) _ _ (by rw [h1]; omega) ?_ (bx3.new hp) (o0.trans (o1.trans (o2.trans (o3.trans on))))
        rw [h4]
        exact IsT.mk3 upd_same (.str _) (((t1.oth o2).oth o3).oth on) ((t2.oth o3).oth on)
      have cs : kind % 4 = 0 ∨ kind % 4 = 1 ∨ kind % 4 = 2 ∨ kind % 4 = 3 := by omega
      refine ⟨sz, fun l hl => ⟨_, rfl, .inl ⟨_, rfl, _, _, rfl, rfl, (by show (0 : Int) < 4; decide), l, _, _, ?zzv, rfl, rfl, SqL.of upd_same, ?zza, ?zzb⟩⟩⟩
      case zzv => exact if kind % 4 = 0 then .str "plus" else if kind % 4 = 1 then .str "minus" else if kind % 4 = 2 then .str "same" else .str "less"
      case zza => rcases cs with e | e | e | e <;> rw [e] <;> first | exact at0 | exact at1 | exact at2 | exact at3
      case zzb =>
        refine ⟨_, rfl, _, rfl, sz, fun p hp => ?_⟩
        have ol : Oth [b] H2 (upd H2 l (.lst [.str "plus", .str "minus", .str "same", .str "less"])) := Oth.new hl
        rcases cs with e | e | e | e
        · rw [if_pos e]; exact fin "plus" .plus (fun _ _ => rfl) (fun _ _ => rfl) _ p ol (bx2.new hl) hp
        · rw [if_neg (by omega), if_pos e]; exact fin "minus" .minus (fun _ _ => rfl) (fun _ _ => rfl) _ p ol (bx2.new hl) hp
        · rw [if_neg (by omega), if_neg (by omega), if_pos e]; exact fin "same" .same (fun _ _ => rfl) (fun _ _ => rfl) _ p ol (bx2.new hl) hp
        · rw [if_neg (by omega), if_neg (by omega), if_neg (by omega)]; exact fin "less" .less (fun _ _ => rfl) (fun _ _ => rfl) _ p ol (bx2.new hl) hp
  case leaf =>
    refine ⟨sz, fun p1 hp1 => ⟨sz, fun p2 hp2 => ⟨sz, fun p3 hp3 => ⟨sz, fun p4 hp4 => ⟨sz, fun p5 hp5 => ⟨sz, fun p6 hp6 => ⟨sz, fun l hl => ?_⟩⟩⟩⟩⟩⟩⟩
    have bx1 := ((((((bx0.new (o := .tup [.str "cell", .int 0]) hp1).new (o := .tup [.str "cell", .int 1]) hp2).new (o := .tup [.str "prop", .int 0]) hp3).new (o := .tup [.str "store", .int 0]) hp4).new (o := .tup [.str "store", .int 1]) hp5).new (o := .tup [.str "index"]) hp6).new (o := .lst [.ref p1, .ref p2, .ref p3, .ref p4, .ref p5, .ref p6]) hl
    have g7 := Oth.new (S := [b]) (o := .lst [.ref p1, .ref p2, .ref p3, .ref p4, .ref p5, .ref p6]) hl
    have g6 := (Oth.new (S := [b]) (o := .tup [.str "index"]) hp6).trans g7
    have g5 := (Oth.new (S := [b]) (o := .tup [.str "store", .int 1]) hp5).trans g6
    have g4 := (Oth.new (S := [b]) (o := .tup [.str "store", .int 0]) hp4).trans g5
    have g3 := (Oth.new (S := [b]) (o := .tup [.str "prop", .int 0]) hp3).trans g4
    have g2 := (Oth.new (S := [b]) (o := .tup [.str "cell", .int 1]) hp2).trans g3
    have g1 := (Oth.new (S := [b]) (o := .tup [.str "cell", .int 0]) hp1).trans g2
    have nlb : l ≠ b := fun z => by
      have z' := ((((((bx0.new (o := .tup [.str "cell", .int 0]) hp1).new (o := .tup [.str "cell", .int 1]) hp2).new (o := .tup [.str "prop", .int 0]) hp3).new (o := .tup [.str "store", .int 0]) hp4).new (o := .tup [.str "store", .int 1]) hp5).new (o := .tup [.str "index"]) hp6).nb hl
      exact z' z.symm
    refine ⟨_, rfl, b, dg, pl, _, rfl, by decide, bx1, fun r1 H2 l1 u1 bx2 o2 => ⟨sz, fun p7 hp7 => ⟨sz, fun l2 hl2 => ?_⟩⟩⟩
    have g8 := Oth.new (S := [b]) (o := .tup [.str "num", .int r1]) hp7
    have g9 := Oth.new (S := [b]) (o := .lst [.ref p7]) hl2
    have g89 := g8.trans g9
    have ll := g89.keep l _ (by simp [nlb]) (o2.keep l _ (by simp [nlb]) upd_same)
    refine ⟨_, rfl, l2, l, _, _, rfl, rfl, upd_same, ll, sz, fun l3 hl3 => ?_⟩
    have g10 := Oth.new (S := [b]) (o := .lst ([.ref p7] ++ [.ref p1, .ref p2, .ref p3, .ref p4, .ref p5, .ref p6])) hl3
    have cs : kind % 7 = 0 ∨ kind % 7 = 1 ∨ kind % 7 = 2 ∨ kind % 7 = 3 ∨ kind % 7 = 4 ∨ kind % 7 = 5 ∨ kind % 7 = 6 := by omega
    refine ⟨_, rfl, .inl ⟨_, rfl, _, _, rfl, rfl, (by show (0 : Int) < 7; decide), l3, _, _, ?yyv, rfl, rfl, SqL.of upd_same, ?yya, ?yyb⟩⟩
    case yyv => exact if kind % 7 = 0 then .ref p7 else if kind % 7 = 1 then .ref p1 else if kind % 7 = 2 then .ref p2 else if kind % 7 = 3 then .ref p3 else if kind % 7 = 4 then .ref p4 else if kind % 7 = 5 then .ref p5 else .ref p6
    case yya => rcases cs with e | e | e | e | e | e | e <;> rw [e] <;> first | exact at0 | exact at1 | exact at2 | exact at3 | exact at4 | exact at5 | exact atI_nat (j := 6) rfl
    case yyb =>
      have t1 := o2.trans (g89.trans g10)
      have g0 := o0.trans (g1.trans t1)
      have bxf := ((bx2.new (o := .tup [.str "num", .int r1]) hp7).new (o := .lst [.ref p7]) hl2).new (o := .lst ([.ref p7] ++ [.ref p1, .ref p2, .ref p3, .ref p4, .ref p5, .ref p6])) hl3
      rcases cs with e | e | e | e | e | e | e
      · rw [if_pos e]; exact q (.num r1) _ _ (Nat.zero_le _) (IsT.mk2 ((g9.trans g10).tup _ _ upd_same) (.str _) (.int _)) bxf g0
      · rw [if_neg (by omega), if_pos e]; exact q (.cell 0) _ _ (Nat.zero_le _) (IsT.mk2 ((g2.trans t1).tup _ _ upd_same) (.str _) (.int _)) bxf g0
      · rw [if_neg (by omega), if_neg (by omega), if_pos e]; exact q (.cell 1) _ _ (Nat.zero_le _) (IsT.mk2 ((g3.trans t1).tup _ _ upd_same) (.str _) (.int _)) bxf g0
      · rw [if_neg (by omega), if_neg (by omega), if_neg (by omega), if_pos e]; exact q (.prop 0) _ _ (Nat.zero_le _) (IsT.mk2 ((g4.trans t1).tup _ _ upd_same) (.str _) (.int _)) bxf g0
      · rw [if_neg (by omega), if_neg (by omega), if_neg (by omega), if_neg (by omega), if_pos e]; exact q (.store 0) _ _ (Nat.zero_le _) (IsT.mk2 ((g5.trans t1).tup _ _ upd_same) (.str _) (.int _)) bxf g0
      · rw [if_neg (by omega), if_neg (by omega), if_neg (by omega), if_neg (by omega), if_neg (by omega), if_pos e]; exact q (.store 1) _ _ (Nat.zero_le _) (IsT.mk2 ((g6.trans t1).tup _ _ upd_same) (.str _) (.int _)) bxf g0
      · rw [if_neg (by omega), if_neg (by omega), if_neg (by omega), if_neg (by omega), if_neg (by omega), if_neg (by omega)]; exact q .index _ _ (Nat.zero_le _) (IsT.mk1 ((g7.trans t1).tup _ _ upd_same) (.str _)) bxf g0
theorem ok_key {f fE fR : Addr} {fd dE dR : FuncData} {k : Nat} (F : Fun K "_law_key" "_law_key" sKey f fd)
    (GE : FnOk P w K mg base CX0 k fE dE ["box", "depth"] (spExpr 2)) (bE : Binds K dE ["box", "depth"] []) (kE : PySem.W.keepIn K (.ref fE) = true) (mE : mg "_law_expr" = some (.ref fE))
    (GR : FnOk P w K mg base CX0 k fR dR ["box", "many"] spDrawX) (bR : Binds K dR ["box", "many"] []) (kR : PySem.W.keepIn K (.ref fR) = true) (mR : mg "_law_draw" = some (.ref fR)) :
    FnOk P w K mg base CX0 (k + 1) f fd ["box"] spKey := by
  refine F.ok scKey (fun vs H Q E h => ?_) (fun cdv A outer s H vs Q E' hr h => ?_)
  · obtain ⟨b, dg, pl, rfl, _⟩ := h
    rfl
  obtain ⟨b, dg, pl, rfl, bx, q⟩ := h
  have nd := scKey.nd
  refine ⟨_, (pss_cons (ps_if (pt_cmpR op_eq (pe_call GR hr rfl mR kR bR .nil pass0 (pa_cons (pv 0) (pa_cons pe_int pa_nil))) pe_int (nomark _))
  (pss_one (ps_ret (pe_call GE hr rfl mE kE bE .nil pass0 (pa_cons (pv 0) (pa_cons pe_int pa_nil)))))
  pss_nil)
  (pss_one (ps_ret pe_non))), ?_⟩
  refine ⟨_, rfl, b, dg, pl, _, rfl, by decide, bx, fun kind H0 k0 k1 bx0 o0 => ⟨rfl, _, rfl, ite2 (fun c => ?_) (fun c => ?_)⟩⟩
  · exact ⟨_, rfl, b, dg, pl, 1, rfl, by decide, bx0, fun e v H1 d1 t1 bx1 o1 => q (some e) v H1 (fun e' h => by cases h; exact d1) t1 bx1 (o0.trans o1)⟩
  · exact q none _ H0 (fun e h => by cases h) .non bx0 o0
end
end Pw
namespace Pw
open PySem PySem.Spec PyProof.Rows L2
abbrev sTemplate : Stmt := topS 11
theorem scTemplate : FnScope ["box", "own", "level", "last", "free", "kind", "action", "key", "tag", "test", "yes", "count", "props", "k"] ["box", "own", "level", "last", "free"] (defScope sTemplate) := ⟨rfl, rfl, rfl, by decide +kernel, rfl, by decide +kernel, by decide +kernel⟩
section
variable {P : Program} {w : World} {K : PySem.W.Frag} {mg : Str → Option Value} {base : Heap}
theorem ok_template {f fE fR fK fN : Addr} {fd dE dR dK dN : FuncData} {k n : Nat} (F : Fun K "_law_template" "_law_template" sTemplate f fd)
    (GE : FnOk P w K mg base CX0 k fE dE ["box", "depth"] (spExpr 2)) (bE : Binds K dE ["box", "depth"] []) (kE : PySem.W.keepIn K (.ref fE) = true) (mE : mg "_law_expr" = some (.ref fE))
    (GR : FnOk P w K mg base CX0 k fR dR ["box", "many"] spDrawX) (bR : Binds K dR ["box", "many"] []) (kR : PySem.W.keepIn K (.ref fR) = true) (mR : mg "_law_draw" = some (.ref fR))
    (GK : FnOk P w K mg base CX0 k fK dK ["box"] spKey) (bK : Binds K dK ["box"] []) (kK : PySem.W.keepIn K (.ref fK) = true) (mK : mg "_law_key" = some (.ref fK))
    (GN : FnOk P w K mg base CX0 k fN dN ["box", "own", "level", "last", "free"] (spContents n)) (bN : Binds K dN ["box", "own", "level", "last", "free"] []) (kN : PySem.W.keepIn K (.ref fN) = true) (mN : mg "_law_contents" = some (.ref fN))
    (m_int : mg "int" = none) (m_len : mg "len" = none) (m_range : mg "range" = none) (m_tuple : mg "tuple" = none) :
    FnOk P w K mg base CX0 (k + 1) f fd ["box", "own", "level", "last", "free"] (spTemplate (n + 1)) := by
  refine F.ok scTemplate (fun vs H Q E h => ?_) (fun cdv A outer s H vs Q E' hr h => ?_)
  · obtain ⟨b, dg, pl, own, level, last, r, free, rfl, _⟩ := h
    rfl
  obtain ⟨b, dg, pl, own, level, last, r, free, rfl, hlr, hrn, bx, q⟩ := h
  have nd := scTemplate.nd
  refine ⟨_, (pss_cons (ps_asg (pe_op op_sub (pe_ix ix_list (pv 0) pe_int (fun _ _ => rfl)) pe_int) (pg_sub (pv 0) pe_int set_list))
  (pss_cons (ps_set (i := 5) nd rfl (.inl rfl) (pe_call GR hr rfl mR kR bR .nil pass0 (pa_cons (pv 0) (pa_cons pe_int pa_nil))))
  (pss_cons (ps_if (pt_cmpR op_eq (pv 5) pe_int (nomark _))
  (pss_one (ps_ret (pe_tup (pa_cons pe_str (pa_cons (pe_ix ix_list (pe_lst (pa_cons pe_str (pa_cons pe_str (pa_cons pe_str pa_nil)))) (pe_call GR hr rfl mR kR bR .nil pass0 (pa_cons (pv 0) (pa_cons pe_int pa_nil))) (fun _ _ => rfl)) pa_nil)))))
  pss_nil)
  (pss_cons (ps_if (PW.pt (pw_and (pt_cmpR op_lt (pv 5) pe_int (nomark _)) (pw_and (pt_cmpR op_lt (pv 2) pe_int (nomark _)) (pw_and1 (pt_cmpR op_gt (pe_ix ix_list (pv 0) pe_int (fun _ _ => rfl)) pe_int (nomark _))))))
  (pss_cons (ps_set (i := 6) nd rfl (.inl rfl) (pe_ix ix_list (pe_lst (pa_cons pe_non (pa_cons pe_int (pa_cons pe_int (pa_cons pe_int pa_nil))))) (pe_call GR hr rfl mR kR bR .nil pass0 (pa_cons (pv 0) (pa_cons pe_int pa_nil))) (fun _ _ => rfl)))
  (pss_cons (ps_set (i := 7) nd rfl (.inl rfl) (pe_call GK hr rfl mK kK bK .nil pass0 (pa_cons (pv 0) pa_nil)))
  (pss_cons (ps_set (i := 8) nd rfl (.inl rfl) (pe_ix ix_list (pe_lst (pa_cons pe_str (pa_cons pe_str (pa_cons pe_str pa_nil)))) (pe_call GR hr rfl mR kR bR .nil pass0 (pa_cons (pv 0) (pa_cons pe_int pa_nil))) (fun _ _ => rfl)))
  (pss_one (ps_ret (pe_tup (pa_cons pe_str (pa_cons (pv 8) (pa_cons (pv 7) (pa_cons (pv 6) (pa_cons (pe_call GN hr rfl mN kN bN .nil pass0 (pa_cons (pv 0) (pa_cons (pv 1) (pa_cons (pe_op op_add (pv 2) pe_int) (pa_cons (pv 3) (pa_cons (pv 4) pa_nil)))))) pa_nil)))))))))))
  pss_nil)
  (pss_cons (ps_if (PW.pt (pw_and (pt_cmpR op_eq (pv 5) pe_int (nomark _)) (pw_and (pt_cmpR op_lt (pv 2) pe_int (nomark _)) (pw_and1 (pt_cmpR op_gt (pe_ix ix_list (pv 0) pe_int (fun _ _ => rfl)) pe_int (nomark _))))))
  (pss_cons (ps_set (i := 9) nd rfl (.inl rfl) (pe_call GE hr rfl mE kE bE .nil pass0 (pa_cons (pv 0) (pa_cons pe_int pa_nil))))
  (pss_cons (ps_set (i := 10) nd rfl (.inl rfl) (pe_call GN hr rfl mN kN bN .nil pass0 (pa_cons (pv 0) (pa_cons (pv 1) (pa_cons (pe_op op_add (pv 2) pe_int) (pa_cons (pv 3) (pa_cons pe_bl pa_nil)))))))
  (pss_one (ps_ret (pe_tup (pa_cons pe_str (pa_cons (pv 9) (pa_cons (pv 10) (pa_cons (pe_call GN hr rfl mN kN bN .nil pass0 (pa_cons (pv 0) (pa_cons (pv 1) (pa_cons (pe_op op_add (pv 2) pe_int) (pa_cons (pv 3) (pa_cons pe_bl pa_nil)))))) pa_nil)))))))))
  pss_nil)
  (pss_cons (ps_if (PW.pt (pw_and (pt_cmpR op_eq (pv 5) pe_int (nomark _)) (pw_and (pt_cmpR op_lt (pv 2) pe_int (nomark _)) (pw_and (pt_cmpR op_gt (pe_ix ix_list (pv 0) pe_int (fun _ _ => rfl)) pe_int (nomark _)) (pw_and1 (pt_cmpR op_gt (pe_ix ix_list (pv 0) pe_int (fun _ _ => rfl)) pe_int (nomark _)))))))
  (pss_cons (ps_asg pe_int (pg_sub (pv 0) pe_int set_list))
  (pss_cons (ps_set (i := 11) nd rfl (.inl rfl) (pe_tup (pa_cons pe_str (pa_cons (pe_tup (pa_cons pe_str (pa_cons (pe_call GE hr rfl mE kE bE .nil pass0 (pa_cons (pv 0) (pa_cons pe_int pa_nil))) (pa_cons (pe_call GE hr rfl mE kE bE .nil pass0 (pa_cons (pv 0) (pa_cons pe_int pa_nil))) pa_nil)))) (pa_cons (pe_tup (pa_cons pe_str (pa_cons (pe_call GR hr rfl mR kR bR .nil pass0 (pa_cons (pv 0) (pa_cons pe_int pa_nil))) pa_nil))) pa_nil)))))
  (pss_one (ps_ret (pe_tup (pa_cons pe_str (pa_cons (pv 11) (pa_cons (pe_call GN hr rfl mN kN bN .nil pass0 (pa_cons (pv 0) (pa_cons (pv 1) (pa_cons (pe_op op_add (pv 2) pe_int) (pa_cons (pv 3) (pa_cons pe_bl pa_nil)))))) pa_nil))))))))
  pss_nil)
  (pss_cons (ps_if (PW.pt (pw_and (pt_cmpR op_lt (pv 5) pe_int (nomark _)) (pw_and (pt_cmpR op_lt (pv 1) (pv 3) (nomark _)) (pw_and1 (pt_cmpR op_gt (pe_ix ix_list (pv 0) pe_int (fun _ _ => rfl)) pe_int (nomark _))))))
  (pss_cons (ps_asg (pe_op op_sub (pe_ix ix_list (pv 0) pe_int (fun _ _ => rfl)) pe_int) (pg_sub (pv 0) pe_int set_list))
  (pss_cons (ps_set (i := 12) nd rfl (.inl rfl) (pe_tupleOf (by rfl) m_tuple (pe_lc (own := [("k", 13)]) (g := gName 13) (tt := tYes) rfl nd (pi_range1 (by rfl) m_range (pa_cons (pe_call GR hr rfl mR kR bR .nil pass0 (pa_cons (pv 0) (pa_cons pe_int pa_nil))) pa_nil)) (blkOk_by (N := ["box", "own", "level", "last", "free", "kind", "action", "key", "tag", "test", "yes", "count", "props", "k"]) (sc := defScope sTemplate) (by decide +kernel)) (fun _ _ _ _ _ => (pg_name (i := 13) nd rfl (.inl rfl))) (fun _ _ _ _ _ => pts_nil) (fun _ _ _ _ _ => (pe_call GE hr rfl mE kE bE .nil pass0 (pa_cons (pv 0) (pa_cons pe_int pa_nil)))))))
  (pss_one (ps_ret (pe_tup (pa_cons pe_str (pa_cons (pe_op op_add (pe_op op_add (pv 1) pe_int) (pe_call GR hr rfl mR kR bR .nil pass0 (pa_cons (pv 0) (pa_cons (pe_op op_sub (pv 3) (pv 1)) pa_nil)))) (pa_cons (pe_call GK hr rfl mK kK bK .nil pass0 (pa_cons (pv 0) pa_nil)) (pa_cons (pv 12) pa_nil)))))))))
  pss_nil)
  (pss_cons (ps_if (PW.pt (pw_and (pt_cmpR op_eq (pv 5) pe_int (nomark _)) (pw_and (pt_cmpR op_eq (pv 1) pe_int (nomark _)) (pw_and (pt_val (pv 4)) (pw_and1 (pt_cmpR op_gt (pe_callB call_len_seq (by rfl) m_len PySem.boot_len (pa_cons (pe_ix ix_list (pv 0) pe_int (fun _ _ => rfl)) pa_nil)) pe_int (nomark _)))))))
  (pss_one (ps_ret (pe_tup (pa_cons pe_str (pa_cons (pe_bm0 PySem.F.plainAttrs_list PySem.F.slot_list_pop PySem.F.type_list_pop mt_pop (pe_ix ix_list (pv 0) pe_int (fun _ _ => rfl))) pa_nil)))))
  pss_nil)
  (pss_cons (ps_if (pt_cmpR op_eq (pv 5) pe_int (nomark _))
  (pss_one (ps_ret (pe_tup (pa_cons pe_str (pa_cons pe_str (pa_cons (pe_call GR hr rfl mR kR bR .nil pass0 (pa_cons (pv 0) (pa_cons pe_int pa_nil))) pa_nil))))))
  pss_nil)
  (pss_one (ps_ret (pe_tup (pa_cons pe_str (pa_cons (pe_call GE hr rfl mE kE bE .nil pass0 (pa_cons (pv 0) (pa_cons pe_int pa_nil))) pa_nil)))))))))))))), ?_⟩
  obtain ⟨at', n2, n3, n4, hb⟩ := bx.get
  refine ⟨_, rfl, b, _, _, _, rfl, rfl, SqL.of hb, at2, _, _, rfl, rfl, ?_⟩
  refine ⟨_, rfl, b, _, 2, 2, rfl, rfl, hb, rfl, ?_⟩
  have bxa := bx.put at' (n2 - 1) n3 n4
  have oa : Oth [b, pl] H (upd H b (.lst [.ref dg, .int (at' : Int), .int (n2 - 1), .int n3, .int n4, .ref pl])) := Oth.put (by simp) hb
  refine ⟨_, rfl, b, dg, pl, _, rfl, by decide, bxa, fun kind H0 k0 k1 bx0 o0 => ?_⟩
  have o00 : Oth [b, pl] H H0 := oa.trans o0.two
  clear bxa
  -- text
  refine ⟨_, rfl, rfl, _, rfl, ite2 (fun c => ?text) (fun c => ?_)⟩
  case text =>
    refine ⟨sz, fun l hl => ⟨_, rfl, b, dg, pl, _, rfl, by decide, bx0.new hl, fun r1 H1 l1 u1 bx1 o1 => ?_⟩⟩
    obtain ⟨v, vm, hv⟩ := at_mem (xs := [.str "a", .str "b c", .str "7"]) l1 u1
    refine ⟨l, _, _, _, rfl, rfl, SqL.of (bx0.lit hl o1), hv, sz, fun p hp => ?_⟩
    obtain ⟨s, rfl⟩ : ∃ s, v = .str s := by
      simp only [List.mem_cons, List.not_mem_nil, or_false] at vm
      rcases vm with e | e | e <;> exact ⟨_, e⟩
    exact q (.text s) _ _ (Nat.zero_le _) (numT_pos r) trivial (.mk2 upd_same (.str _) (.str _)) (bx1.new hp) (o00.trans ((Oth.new hl).trans (o1.two.trans (Oth.new hp))))
  obtain ⟨a0, m2, m3, m4, hb0⟩ := bx0.get
  -- box
  refine (fun nx => ⟨_, rfl, _, _, rfl, rfl, _, rfl, ite2 (fun c1 => ⟨_, rfl, _, _, rfl, rfl, _, rfl, ite2 (fun c2 => ⟨_, rfl, b, _, _, _, rfl, rfl, SqL.of hb0, at2, _, _, rfl, rfl, _, rfl, ite2 (fun c3 => ?tbox) (fun _ => nx)⟩) (fun _ => iteF nx)⟩) (fun _ => iteF nx)⟩) ?_
  case tbox =>
    have hl3 : (level : Int) < 3 := of_decide_eq_true c2
    obtain ⟨r', rfl⟩ : ∃ r', r = r' + 1 := ⟨r - 1, by omega⟩
    refine ⟨sz, fun l hl => ⟨_, rfl, b, dg, pl, _, rfl, by decide, bx0.new hl, fun r1 H1 l1 u1 bx1 o1 => ?_⟩⟩
    obtain ⟨va, vam, hva⟩ := at_mem (xs := [.non, .int 0, .int 1, .int 2]) l1 u1
    obtain ⟨act, ta⟩ : ∃ act : Option Nat, ∀ H', IsT H' (actT act) va := by
      simp only [List.mem_cons, List.not_mem_nil, or_false] at vam
      rcases vam with e | e | e | e <;> rw [e]
      · exact ⟨none, fun _ => .non⟩
      · exact ⟨some 0, fun _ => .int _⟩
      · exact ⟨some 1, fun _ => .int _⟩
      · exact ⟨some 2, fun _ => .int _⟩
    refine ⟨l, _, _, _, rfl, rfl, SqL.of (bx0.lit hl o1), hva, ?_⟩
    refine ⟨_, rfl, b, dg, pl, rfl, bx1, fun key vk H2 dk tk bx2 o2 => ?_⟩
    refine ⟨sz, fun l2 hl2 => ⟨_, rfl, b, dg, pl, _, rfl, by decide, bx2.new hl2, fun r3 H3 l3 u3 bx3 o3 => ?_⟩⟩
    obtain ⟨vt, vtm, hvt⟩ := at_mem (xs := [.str "p", .str "div", .str "li"]) l3 u3
    obtain ⟨tag, rfl⟩ : ∃ s, vt = .str s := by
      simp only [List.mem_cons, List.not_mem_nil, or_false] at vtm
      rcases vtm with e | e | e <;> exact ⟨_, e⟩
    refine ⟨l2, _, _, _, rfl, rfl, SqL.of (bx2.lit hl2 o3), hvt, ?_⟩
    refine ⟨_, rfl, _, rfl, _, rfl, _, rfl, _, rfl, _, rfl, _, _, rfl, rfl, _, rfl, _, rfl, b, dg, pl, own, level + 1, last, r', free, rfl, by omega, by omega, bx3, fun cs vc H4 d4 n4' f4 t4 bx4 o4 => ⟨sz, fun p hp => ?_⟩⟩
    have on := Oth.new (S := [b, pl]) (o := .tup [.str "box", .str tag, vk, va, vc]) hp
    have o24 := ((Oth.new hl2).trans o3.two).trans o4
    refine q (.box tag key act cs) _ _ (by simp only [Tp.dep]; omega) (by simp only [Tp.cnt, numT]; omega) ⟨fun e he => Nat.le_trans (dk e he) (by decide), f4⟩ ?_ (bx4.new hp) (o00.trans (((Oth.new hl).trans o1.two).trans (o2.two.trans (o24.trans on))))
    exact .mk5 upd_same (.str _) (.str _) ((tk.oth o24).oth on) (ta _) (t4.oth on)
  clear c
  -- when
  refine (fun nx => ⟨_, rfl, rfl, _, rfl, ite2 (fun c1 => ⟨_, rfl, _, _, rfl, rfl, _, rfl, ite2 (fun c2 => ⟨_, rfl, b, _, _, _, rfl, rfl, SqL.of hb0, at2, _, _, rfl, rfl, _, rfl, ite2 (fun c3 => ?twhen) (fun _ => nx)⟩) (fun _ => iteF nx)⟩) (fun _ => iteF nx)⟩) ?_
  case twhen =>
    have hl3 : (level : Int) < 3 := of_decide_eq_true c2
    obtain ⟨r', rfl⟩ : ∃ r', r = r' + 1 := ⟨r - 1, by omega⟩
    refine ⟨_, rfl, b, dg, pl, 1, rfl, by decide, bx0, fun e1 v1 H1 d1 t1 bx1 o1 => ?_⟩
    refine ⟨_, rfl, _, rfl, _, rfl, _, _, rfl, rfl, _, rfl, b, dg, pl, own, level + 1, last, r', false, rfl, by omega, by omega, bx1, fun cs vc H2 d2 n2' f2 t2 bx2 o2 => ?_⟩
    refine ⟨_, rfl, _, rfl, _, rfl, _, rfl, _, rfl, _, _, rfl, rfl, _, rfl, b, dg, pl, own, level + 1, last, r', false, rfl, by omega, by omega, bx2, fun os vo H3 d3 n3' f3 t3 bx3 o3 => ⟨sz, fun p hp => ?_⟩⟩
    have on := Oth.new (S := [b, pl]) (o := .tup [.str "when", v1, vc, vo]) hp
    refine q (.when e1 cs os) _ _ (by simp only [Tp.dep]; omega) (by simp only [Tp.cnt, numT]; omega) ⟨by omega, f2, f3⟩ ?_ (bx3.new hp) (o00.trans (o1.two.trans (o2.trans (o3.trans on))))
    exact .mk4 upd_same (.str _) (((t1.oth o2).oth o3).oth on) ((t2.oth o3).oth on) (t3.oth on)
  -- each
  refine (fun nx => ⟨_, rfl, rfl, _, rfl, ite2 (fun c1 => ⟨_, rfl, _, _, rfl, rfl, _, rfl, ite2 (fun c2 => ⟨_, rfl, b, _, _, _, rfl, rfl, SqL.of hb0, at2, _, _, rfl, rfl, _, rfl, ite2 (fun c3 => ⟨_, rfl, b, _, _, _, rfl, rfl, SqL.of hb0, at4, _, _, rfl, rfl, _, rfl, ite2 (fun c4 => ?teach) (fun _ => nx)⟩) (fun _ => iteF nx)⟩) (fun _ => iteF nx)⟩) (fun _ => iteF nx)⟩) ?_
  case teach =>
    have hl3 : (level : Int) < 3 := of_decide_eq_true c2
    obtain ⟨r', rfl⟩ : ∃ r', r = r' + 1 := ⟨r - 1, by omega⟩
    refine ⟨_, rfl, b, _, 4, 4, rfl, rfl, hb0, rfl, ?_⟩
    have bxb := bx0.put a0 m2 m3 0
    have ob : Oth [b, pl] H0 (upd H0 b (.lst [.ref dg, .int (a0 : Int), .int m2, .int m3, .int 0, .ref pl])) := Oth.put (by simp) hb0
    refine ⟨_, rfl, b, dg, pl, 1, rfl, by decide, bxb, fun e1 v1 H1 d1 t1 bx1 o1 => ?_⟩
    refine ⟨_, rfl, b, dg, pl, 0, rfl, by decide, bx1, fun e2 v2 H2 d2 t2 bx2 o2 => ⟨sz, fun p1 hp1 => ?_⟩⟩
    refine ⟨_, rfl, b, dg, pl, _, rfl, by decide, bx2.new hp1, fun r3 H3 l3 u3 bx3 o3 => ⟨sz, fun p2 hp2 => ⟨sz, fun p3 hp3 => ?_⟩⟩⟩
    have s1 := Oth.new (S := [b, pl]) (o := .tup [.str "same", v1, v2]) hp1
    have s2 := Oth.new (S := [b, pl]) (o := .tup [.str "num", .int r3]) hp2
    have s3 := Oth.new (S := [b, pl]) (o := .tup [.str "plus", .ref p1, .ref p2]) hp3
    have s13 := s1.trans (o3.two.trans (s2.trans s3))
    refine ⟨_, rfl, _, rfl, _, rfl, _, rfl, _, _, rfl, rfl, _, rfl, b, dg, pl, own, level + 1, last, r', false, rfl, by omega, by omega, (bx3.new hp2).new hp3, fun cs vc H4 d4 n4' f4 t4 bx4 o4 => ⟨sz, fun p hp => ?_⟩⟩
    have on := Oth.new (S := [b, pl]) (o := .tup [.str "each", .ref p3, vc]) hp
    refine q (.each (.plus (.same e1 e2) (.num r3)) cs) _ _ (by simp only [Tp.dep]; omega) (by simp only [Tp.cnt, numT]; omega) ⟨by simp only [E.depth]; omega, f4⟩ ?_ (bx4.new hp) (o00.trans (ob.trans (o1.two.trans (o2.two.trans (s13.trans (o4.trans on))))))
    refine .mk3 upd_same (.str _) ?_ (t4.oth on)
    have o4n := o4.trans on
    refine .mk3 (o4n.tup _ _ upd_same) (.str _) (.mk3 ((o3.two.trans (s2.trans (s3.trans o4n))).tup _ _ upd_same) (.str _) (((t1.oth o2).oth s13).oth o4n) ((t2.oth s13).oth o4n)) (.mk2 ((s3.trans o4n).tup _ _ upd_same) (.str _) (.int _))
  -- child
  refine (fun nx => ⟨_, rfl, _, _, rfl, rfl, _, rfl, ite2 (fun c1 => ⟨_, rfl, _, rfl, _, _, rfl, rfl, _, rfl, ite2 (fun c2 => ⟨_, rfl, b, _, _, _, rfl, rfl, SqL.of hb0, at3, _, _, rfl, rfl, _, rfl, ite2 (fun c3 => ?tchild) (fun _ => nx)⟩) (fun _ => iteF nx)⟩) (fun _ => iteF nx)⟩) ?_
  case tchild =>
    have hol : (own : Int) < (last : Int) := of_decide_eq_true c2
    refine ⟨_, rfl, b, _, _, _, rfl, rfl, SqL.of hb0, at3, _, _, rfl, rfl, _, rfl, b, _, 3, 3, rfl, rfl, hb0, rfl, ?_⟩
    have bxb := bx0.put a0 m2 (m3 - 1) m4
    have ob : Oth [b, pl] H0 (upd H0 b (.lst [.ref dg, .int (a0 : Int), .int m2, .int (m3 - 1), .int m4, .ref pl])) := Oth.put (by simp) hb0
    refine ⟨_, rfl, b, dg, pl, _, rfl, by decide, bxb, fun m H1 l1 u1 bx1 o1 => ?_⟩
    have s01 := ob.trans o1.two
    refine ⟨m, rfl, by omega, by omega, fun D hD => lc_range (lo := 0) (n := m.toNat)
      (fun j H4 => Bx H4 b dg pl ∧ ∃ (es : List E) (vs : List V), H4 D = some (.lst vs) ∧ Paired (IsT H4) (es.map E.toT) vs ∧ es.length = j ∧ (∀ e ∈ es, e.depth ≤ 1) ∧ Oth [b, D] H1 H4)
      ⟨bx1.new hD, [], [], upd_same, .nil, rfl, by simp, Oth.new hD⟩ (fun j H4 hj hW => ?_) (fun H4 hW => ?_)⟩
    · obtain ⟨bx4, es, vs, hD4, pv4, ej, dj, o4⟩ := hW
      have nbD : b ≠ D := bx1.nb hD
      refine ⟨rfl, ⟨_, rfl, b, dg, pl, 1, rfl, by decide, bx4, fun e v H5 d5 t5 bx5 o5 => ?_⟩⟩
      have hD5 := o5.keep D _ (by simp [nbD.symm]) hD4
      have lv : vs.length = j := by rw [(paired_get pv4).1, List.length_map, ej]
      have op : Oth [b, D] H5 (upd H5 D (.lst (vs ++ [v]))) := Oth.put (by simp) hD5
      refine ⟨vs, hD5, small1000 (by omega), ?_, es ++ [e], vs ++ [v], upd_same, ?_, by rw [List.length_append, ej]; rfl, ?_, (o4.trans (o5.mono (by simp))).trans op⟩
      · exact bx5.oth (S := [D]) (Oth.put (by simp) hD5) (by simp [nbD]) (by simp [bx1.ndn hD]) (by simp [bx1.npn hD])
      · rw [List.map_append]
        exact paired_app (paired_oth (paired_oth pv4 o5) op) (.cons (t5.oth op) .nil)
      · intro e' he
        rcases List.mem_append.mp he with h | h
        · exact dj e' h
        · rw [List.mem_singleton.mp h]; exact d5
    · obtain ⟨bx4, es, vs, hD4, pv4, ej, dj, o4⟩ := hW
      have o4' := Oth.drop2 o4 hD
      refine .inl ⟨D, _, rfl, SqL.of hD4, fun t ht => ?_⟩
      have ot := Oth.new (S := [b, pl]) (o := .tup vs) ht
      refine ⟨_, rfl, _, _, rfl, rfl, _, rfl, _, rfl, _, rfl, _, _, rfl, rfl, b, dg, pl, _, rfl, by omega, bx4.new ht, fun r5 H5 l5 u5 bx5 o5 => ⟨_, _, rfl, rfl, _, rfl, b, dg, pl, rfl, bx5, fun key vk H6 dk tk bx6 o6 => ⟨_, rfl, sz, fun p hp => ?_⟩⟩⟩
      obtain ⟨n5, rfl⟩ := Int.eq_ofNat_of_zero_le l5
      have on := Oth.new (S := [b, pl]) (o := .tup [.str "child", .int ((own : Int) + 1 + (n5 : Int)), vk, .ref t]) hp
      have o56 := o5.two.trans (o6.two.trans on)
      refine q (.child (own + 1 + n5) key es) _ _ (Nat.zero_le _) (numT_pos r) ⟨fun e he => Nat.le_trans (dk e he) (by decide), by omega, fun e he => Nat.le_trans (dj e he) (by decide)⟩ ?_ (bx6.new hp) (o00.trans (s01.trans (o4'.two.trans (ot.trans o56))))
      exact .mk4 upd_same (.str _) (.int _) (tk.oth on) (.mk (o56.tup _ _ upd_same) (paired_oth pv4 (ot.trans o56)))
  -- part
  obtain ⟨ps, hpl, hps⟩ := bx0.parts
  refine (fun nx => ⟨_, rfl, rfl, _, rfl, ite2 (fun c1 => ⟨_, rfl, rfl, _, rfl, ite2 (fun c2 => ⟨_, rfl, _, rfl, ite2 (fun c3 => ⟨_, rfl, b, _, _, _, rfl, rfl, SqL.of hb0, at5, pl, _, rfl, .inl (SqL.of hpl), _, _, rfl, rfl, _, rfl, ite2 (fun c4 => ?tpart) (fun _ => nx)⟩) (fun _ => iteF nx)⟩) (fun _ => iteF nx)⟩) (fun _ => iteF nx)⟩) ?_
  case tpart =>
    have hne : (0 : Int) < (((ps.map natV).length : Nat) : Int) := of_decide_eq_true c4
    rw [List.length_map] at hne
    have hlt : ps.length - 1 < ps.length := by omega
    have g : (ps.map natV)[(ps.map natV).length - 1]? = some (natV ps[ps.length - 1]) := by rw [List.length_map, List.getElem?_map, List.getElem?_eq_getElem hlt]; rfl
    refine ⟨_, rfl, b, _, _, _, rfl, rfl, SqL.of hb0, at5, .inl ⟨rfl, _, SqL.of hpl⟩, pl, _, _, rfl, rfl, hpl, g, sz, fun p hp => ?_⟩
    have ob : Oth [b, pl] H0 (upd H0 pl (.lst (ps.map natV).dropLast)) := Oth.put (by simp) hpl
    have on := Oth.new (S := [b, pl]) (o := .tup [.str "part", natV ps[ps.length - 1]]) hp
    have bxp : Bx (upd H0 pl (.lst (ps.map natV).dropLast)) b dg pl := by
      obtain ⟨ds, hds⟩ := bx0.dig
      exact ⟨⟨m2, m3, m4, ds, a0, by rw [upd_ne (bx0.npb.symm)]; exact hb0, by rw [upd_ne (fun e => bx0.nd e.symm)]; exact hds⟩, ⟨ps.dropLast, by rw [upd_same, List.map_dropLast], by rw [List.length_dropLast]; omega⟩, bx0.nd⟩
    exact q (.part _) _ _ (Nat.zero_le _) (numT_pos r) trivial (.mk2 upd_same (.str _) (.int _)) (bxp.new hp) (o00.trans (ob.trans on))
  -- input
  refine ⟨_, rfl, rfl, _, rfl, ite2 (fun c1 => ?_) (fun c1 => ?_)⟩
  · refine ⟨_, rfl, b, dg, pl, _, rfl, by decide, bx0, fun r1 H1 l1 u1 bx1 o1 => ⟨sz, fun p hp => ?_⟩⟩
    obtain ⟨n1, rfl⟩ := Int.eq_ofNat_of_zero_le l1
    exact q (.input "q" n1) _ _ (Nat.zero_le _) (numT_pos r) trivial (.mk3 upd_same (.str _) (.str _) (.int _)) (bx1.new hp) (o00.trans (o1.two.trans (Oth.new hp)))
  · refine ⟨_, rfl, b, dg, pl, 1, rfl, by decide, bx0, fun e1 v1 H1 d1 t1 bx1 o1 => ⟨sz, fun p hp => ?_⟩⟩
    have on := Oth.new (S := [b, pl]) (o := .tup [.str "show", v1]) hp
    exact q (.show e1) _ _ (Nat.zero_le _) (numT_pos r) (Nat.le_trans d1 (by decide)) (.mk2 upd_same (.str _) (t1.oth on)) (bx1.new hp) (o00.trans (o1.two.trans on))
end
end Pw
namespace Pw
open PySem PySem.Spec PyProof.Rows L2
abbrev sContents : Stmt := topS 12
theorem scContents : FnScope ["box", "own", "level", "last", "free", "rows", "k"] ["box", "own", "level", "last", "free"] (defScope sContents) := ⟨rfl, rfl, rfl, by decide +kernel, rfl, by decide +kernel, by decide +kernel⟩
abbrev sActions : Stmt := topS 13
theorem scActions : FnScope ["box", "actions", "k", "steps", "j", "kind"] ["box"] (defScope sActions) := ⟨rfl, rfl, rfl, by decide +kernel, rfl, by decide +kernel, by decide +kernel⟩
abbrev sBox : Stmt := topS 15
theorem scBox : FnScope ["script", "first", "last"] ["script", "first", "last"] (defScope sBox) := ⟨rfl, rfl, rfl, by decide +kernel, rfl, by decide +kernel, by decide +kernel⟩
section
variable {P : Program} {w : World} {K : PySem.W.Frag} {mg : Str → Option Value} {base : Heap}
theorem ok_contents {f fR fT : Addr} {fd dR dT : FuncData} {k n : Nat} (F : Fun K "_law_contents" "_law_contents" sContents f fd)
    (GR : FnOk P w K mg base CX0 k fR dR ["box", "many"] spDrawX) (bR : Binds K dR ["box", "many"] []) (kR : PySem.W.keepIn K (.ref fR) = true) (mR : mg "_law_draw" = some (.ref fR))
    (GT : FnOk P w K mg base CX0 k fT dT ["box", "own", "level", "last", "free"] (spTemplate n)) (bT : Binds K dT ["box", "own", "level", "last", "free"] []) (kT : PySem.W.keepIn K (.ref fT) = true) (mT : mg "_law_template" = some (.ref fT))
    (m_range : mg "range" = none) (m_tuple : mg "tuple" = none) :
    FnOk P w K mg base CX0 (k + 1) f fd ["box", "own", "level", "last", "free"] (spContents n) := by
  refine F.ok scContents (fun vs H Q E h => ?_) (fun cdv A outer s H vs Q E' hr h => ?_)
  · obtain ⟨b, dg, pl, own, level, last, r, free, rfl, _⟩ := h
    rfl
  obtain ⟨b, dg, pl, own, level, last, r, free, rfl, hlr, hrn, bx, q⟩ := h
  have nd := scContents.nd
  refine ⟨_, (pss_cons (ps_set (i := 5) nd rfl (.inl rfl) (pe_lst pa_nil))
  (pss_cons (ps_for PassesOwn.never rfl (pi_range1 (by rfl) m_range (pa_cons (pe_op op_add pe_int (pe_call GR hr rfl mR kR bR .nil pass0 (pa_cons (pv 0) (pa_cons pe_int pa_nil)))) pa_nil)) (pg_name (i := 6) nd rfl (.inl rfl))
  (pss_one (ps_if (pt_cmpR op_gt (pe_ix ix_list (pv 0) pe_int (fun _ _ => rfl)) pe_int (nomark _))
  (pss_one (ps_expr (pe_bm PySem.F.plainAttrs_list PySem.F.slot_list_append PySem.F.type_list_append mt_append (pv 5) (pa_cons (pe_call GT hr rfl mT kT bT .nil pass0 (pa_cons (pv 0) (pa_cons (pv 1) (pa_cons (pv 2) (pa_cons (pv 3) (pa_cons (pv 4) pa_nil)))))) pa_nil))))
  pss_nil)))
  (pss_one (ps_ret (pe_tupleOf (by rfl) m_tuple (pv 5)))))), ?_⟩
  refine ⟨sz, fun p hp => ?_⟩
  have nbp := bx.nb hp
  refine ⟨_, rfl, b, dg, pl, _, rfl, by decide, bx.new hp, fun m H0 l0 u0 bx0 o0 => ⟨_, _, rfl, rfl, ?_⟩⟩
  have npp := bx.npn hp
  have ndp := bx.ndn hp
  refine ⟨_, rfl, by omega, by omega, for_range (lo := 0) (n := (1 + m).toNat)
    (fun i σ H1 => ∃ (x6 : Option V) (ts : List Tp) (vs : List V), σ = [some (.ref b), some (.int (own : Int)), some (.int (level : Int)), some (.int (last : Int)), some (.bl free), some (.ref p), x6] ∧ Bx H1 b dg pl ∧ H1 p = some (.lst vs) ∧ Paired (IsT H1) (Tp.toTs ts) vs ∧
      Tp.deps ts ≤ r ∧ Tp.cnts ts ≤ i * numT r ∧ ts.length ≤ i ∧ Tp.Fines ts ∧ Oth [b, pl, p] H H1)
    ⟨none, [], [], rfl, bx0, bx.lit hp o0, .nil, Nat.zero_le _, Nat.zero_le _, Nat.zero_le _, trivial, (Oth.new hp).trans (o0.mono (by simp))⟩ (fun i σ H1 hi hW => ?_) (fun σ H1 hW => ?_)⟩
  · obtain ⟨x6, ts, vs, rfl, bx1, hp1, pv, d1, c1, l1, f1, o1⟩ := hW
    obtain ⟨a1, m2, m3, m4, hb1⟩ := bx1.get
    have e3 : (i + 1) * numT r = i * numT r + numT r := Nat.succ_mul _ _
    refine ⟨_, rfl, b, _, _, _, rfl, rfl, SqL.of hb1, at2, _, _, rfl, rfl, _, rfl, ite2 (fun c => ?_) (fun c => ?_)⟩
    · refine ⟨_, rfl, .inl ⟨rfl, _, SqL.of hp1⟩, _, rfl, _, rfl, _, rfl, _, rfl, _, rfl, b, dg, pl, own, level, last, r, free, rfl, hlr, hrn, bx1, fun t v H2 d2 c2 f2 t2 bx2 o2 => ?_⟩
      have hp2 := o2.keep p _ (by simp [nbp.symm, npp.symm]) hp1
      have lv : vs.length = ts.length := by rw [(paired_get pv).1, Tp.toTs_map, List.length_map]
      have op : Oth [p] H2 (upd H2 p (.lst (vs ++ [v]))) := Oth.put (by simp) hp2
      refine ⟨p, _, _, rfl, rfl, hp2, Nat.lt_of_le_of_lt (by omega : vs.length ≤ 1000) (by decide), ?_⟩
      refine ⟨_, ts ++ [t], vs ++ [v], rfl, bx2.oth op (by simp [nbp]) (by simp [ndp]) (by simp [npp]), upd_same, ?_, ?_, ?_, by simp; omega, fines_app (b := [t]) ⟨f2, trivial⟩ _ f1, o1.trans ((o2.mono (by simp)).trans (op.mono (by simp)))⟩
      · rw [toTs_app]
        exact paired_app (paired_oth (paired_oth pv o2) op) (.cons (t2.oth op) .nil)
      · rw [deps_app]; simp only [Tp.deps]; omega
      · rw [cnts_app, e3]; simp only [Tp.cnts]; omega
    · exact ⟨_, ts, vs, rfl, bx1, hp1, pv, d1, by omega, by omega, f1, o1⟩
  · obtain ⟨x6, ts, vs, rfl, bx1, hp1, pv, d1, c1, l1, f1, o1⟩ := hW
    have hm : (1 + m).toNat ≤ 3 := by omega
    have hc : Tp.cnts ts ≤ 3 * numT r := Nat.le_trans c1 (Nat.mul_le_mul_right _ hm)
    refine ⟨_, rfl, .inl ⟨p, _, rfl, SqL.of hp1, fun t ht => ?_⟩⟩
    have ot := Oth.new (S := [b, pl]) (o := .tup vs) ht
    refine q ts _ _ d1 hc f1 (.mk upd_same (paired_oth pv ot)) (bx1.new ht) (Oth.trans ?_ ot)
    exact Oth.drop (p := p) (o1.mono (by simp)) hp
theorem ok_actions {f fE fR : Addr} {fd dE dR : FuncData} {k : Nat} (F : Fun K "_law_actions" "_law_actions" sActions f fd)
    (GE : FnOk P w K mg base CX0 k fE dE ["box", "depth"] (spExpr 2)) (bE : Binds K dE ["box", "depth"] []) (kE : PySem.W.keepIn K (.ref fE) = true) (mE : mg "_law_expr" = some (.ref fE))
    (GR : FnOk P w K mg base CX0 k fR dR ["box", "many"] spDrawX) (bR : Binds K dR ["box", "many"] []) (kR : PySem.W.keepIn K (.ref fR) = true) (mR : mg "_law_draw" = some (.ref fR))
    (m_range : mg "range" = none) (m_tuple : mg "tuple" = none) :
    FnOk P w K mg base CX0 (k + 1) f fd ["box"] spActions := by
  refine F.ok scActions (fun vs H Q E h => ?_) (fun cdv A outer s H vs Q E' hr h => ?_)
  · obtain ⟨b, dg, pl, rfl, _⟩ := h
    rfl
  obtain ⟨b, dg, pl, rfl, bx, q⟩ := h
  have nd := scActions.nd
  refine ⟨_, (pss_cons (ps_set (i := 1) nd rfl (.inl rfl) (pe_lst pa_nil))
  (pss_cons (ps_for PassesOwn.never rfl (pi_range1 (by rfl) m_range (pa_cons pe_int pa_nil)) (pg_name (i := 2) nd rfl (.inl rfl))
  (pss_cons (ps_set (i := 3) nd rfl (.inl rfl) (pe_lst pa_nil))
  (pss_cons (ps_for PassesOwn.never rfl (pi_range1 (by rfl) m_range (pa_cons (pe_op op_add pe_int (pe_call GR hr rfl mR kR bR .nil pass0 (pa_cons (pv 0) (pa_cons pe_int pa_nil)))) pa_nil)) (pg_name (i := 4) nd rfl (.inl rfl))
  (pss_cons (ps_set (i := 5) nd rfl (.inl rfl) (pe_call GR hr rfl mR kR bR .nil pass0 (pa_cons (pv 0) (pa_cons pe_int pa_nil))))
  (pss_one (ps_if (pt_cmpR op_lt (pv 5) pe_int (nomark _))
  (pss_one (ps_expr (pe_bm PySem.F.plainAttrs_list PySem.F.slot_list_append PySem.F.type_list_append mt_append (pv 3) (pa_cons (pe_tup (pa_cons pe_str (pa_cons (pe_call GR hr rfl mR kR bR .nil pass0 (pa_cons (pv 0) (pa_cons pe_int pa_nil))) (pa_cons (pe_call GE hr rfl mE kE bE .nil pass0 (pa_cons (pv 0) (pa_cons pe_int pa_nil))) pa_nil)))) pa_nil))))
  (pss_one (ps_if (pt_cmpR op_lt (pv 5) pe_int (nomark _))
  (pss_one (ps_expr (pe_bm PySem.F.plainAttrs_list PySem.F.slot_list_append PySem.F.type_list_append mt_append (pv 3) (pa_cons (pe_tup (pa_cons pe_str (pa_cons (pe_call GR hr rfl mR kR bR .nil pass0 (pa_cons (pv 0) (pa_cons pe_int pa_nil))) (pa_cons (pe_call GE hr rfl mE kE bE .nil pass0 (pa_cons (pv 0) (pa_cons pe_int pa_nil))) pa_nil)))) pa_nil))))
  (pss_one (ps_expr (pe_bm PySem.F.plainAttrs_list PySem.F.slot_list_append PySem.F.type_list_append mt_append (pv 3) (pa_cons (pe_tup (pa_cons pe_str (pa_cons (pe_call GR hr rfl mR kR bR .nil pass0 (pa_cons (pv 0) (pa_cons pe_int pa_nil))) pa_nil))) pa_nil))))))))))
  (pss_one (ps_expr (pe_bm PySem.F.plainAttrs_list PySem.F.slot_list_append PySem.F.type_list_append mt_append (pv 1) (pa_cons (pe_tupleOf (by rfl) m_tuple (pv 3)) pa_nil)))))))
  (pss_one (ps_ret (pe_tupleOf (by rfl) m_tuple (pv 1)))))), ?_⟩
  refine ⟨sz, fun p hp => ?_⟩
  have nbp := bx.nb hp
  have npp := bx.npn hp
  have ndp := bx.ndn hp
  refine ⟨_, rfl, by decide, by decide, for_range (lo := 0) (n := 2)
    (fun i σ H1 => ∃ (x2 x3 x4 x5 : Option V) (vs : List V), σ = [some (.ref b), some (.ref p), x2, x3, x4, x5] ∧ Bx H1 b dg pl ∧ H1 p = some (.lst vs) ∧ vs.length ≤ i ∧ Oth [b, p] H H1)
    ⟨none, none, none, none, [], rfl, bx.new hp, upd_same, Nat.zero_le _, Oth.new hp⟩ (fun i σ H1 hi hW => ?_) (fun σ H1 hW => ?_)⟩
  · obtain ⟨x2, x3, x4, x5, vs, rfl, bx1, hp1, lv, o1⟩ := hW
    refine ⟨sz, fun p2 hp2 => ?_⟩
    have nb2 := bx1.nb hp2
    have np2 := bx1.npn hp2
    have nd2 := bx1.ndn hp2
    have npp2 : p ≠ p2 := ne_of_none hp1 hp2
    refine ⟨_, rfl, b, dg, pl, _, rfl, by decide, bx1.new hp2, fun m H2 l0 u0 bx2 o2 => ⟨_, _, rfl, rfl, ?_⟩⟩
    refine ⟨_, rfl, by omega, by omega, for_range (lo := 0) (n := (1 + m).toNat)
      (fun j σ H3 => ∃ (x4 x5 : Option V) (us : List V), σ = [some (.ref b), some (.ref p), some (.int (0 + (i : Int))), some (.ref p2), x4, x5] ∧ Bx H3 b dg pl ∧ H3 p2 = some (.lst us) ∧ us.length ≤ j ∧ Oth [b, p2] H1 H3)
      ⟨x4, x5, [], rfl, bx2, bx1.lit hp2 o2, Nat.zero_le _, (Oth.new hp2).trans (o2.mono (by simp))⟩ (fun j σ H3 hj hW => ?_) (fun σ H3 hW => ?_)⟩
    · obtain ⟨x4, x5, us, rfl, bx3, hp3, lu, o3⟩ := hW
      have fin : ∀ (v : V) (H4 : Hp), Bx H4 b dg pl → Oth [b] H3 H4 → H4 p2 = some (.lst us) ∧ us.length < sizeLine ∧ Bx (upd H4 p2 (.lst (us ++ [v]))) b dg pl ∧ Oth [b, p2] H1 (upd H4 p2 (.lst (us ++ [v]))) ∧ (us ++ [v]).length ≤ j + 1 := fun v H4 bx4 o4 => by
        have hp4 := o4.keep p2 _ (by simp [nb2.symm]) hp3
        have op : Oth [p2] H4 (upd H4 p2 (.lst (us ++ [v]))) := Oth.put (by simp) hp4
        exact ⟨hp4, Nat.lt_of_le_of_lt (by omega : us.length ≤ 1000) (by decide), bx4.oth op (by simp [nb2]) (by simp [nd2]) (by simp [np2]), o3.trans ((o4.mono (by simp)).trans (op.mono (by simp))), by simp; omega⟩
      refine ⟨_, rfl, b, dg, pl, _, rfl, by decide, bx3, fun kind H4 l4 u4 bx4 o4 => ?_⟩
      have pair : ∀ (s : Str) (r : Int) (v : V) (H5 H6 : Hp) (t : Addr), Bx H6 b dg pl → Oth [b] H4 H6 → H6 t = none → True := fun _ _ _ _ _ _ _ _ _ => trivial
      refine ⟨_, rfl, _, _, rfl, rfl, _, rfl, ite2 (fun c => ?_) (fun c => ⟨_, rfl, _, _, rfl, rfl, _, rfl, ite2 (fun c => ?_) (fun c => ?_)⟩)⟩
      · have hp4 := o4.keep p2 _ (by simp [nb2.symm]) hp3
        refine ⟨_, rfl, .inl ⟨rfl, _, SqL.of hp4⟩, _, rfl, b, dg, pl, _, rfl, by decide, bx4, fun r5 H5 l5 u5 bx5 o5 => ⟨_, rfl, b, dg, pl, 1, rfl, by decide, bx5, fun e v H6 d6 t6 bx6 o6 => ⟨sz, fun t ht => ?_⟩⟩⟩
        obtain ⟨g1, g2, g3, g4, g5⟩ := fin (.ref t) _ (bx6.new (o := .tup [.str "set", .int r5, v]) ht) (o4.trans (o5.trans (o6.trans (Oth.new ht))))
        exact ⟨p2, _, _, rfl, rfl, g1, g2, _, _, _, rfl, g3, upd_same, g5, g4⟩
      · have hp4 := o4.keep p2 _ (by simp [nb2.symm]) hp3
        refine ⟨_, rfl, .inl ⟨rfl, _, SqL.of hp4⟩, _, rfl, b, dg, pl, _, rfl, by decide, bx4, fun r5 H5 l5 u5 bx5 o5 => ⟨_, rfl, b, dg, pl, 1, rfl, by decide, bx5, fun e v H6 d6 t6 bx6 o6 => ⟨sz, fun t ht => ?_⟩⟩⟩
        obtain ⟨g1, g2, g3, g4, g5⟩ := fin (.ref t) _ (bx6.new (o := .tup [.str "put", .int r5, v]) ht) (o4.trans (o5.trans (o6.trans (Oth.new ht))))
        exact ⟨p2, _, _, rfl, rfl, g1, g2, _, _, _, rfl, g3, upd_same, g5, g4⟩
      · have hp4 := o4.keep p2 _ (by simp [nb2.symm]) hp3
        refine ⟨_, rfl, .inl ⟨rfl, _, SqL.of hp4⟩, _, rfl, b, dg, pl, _, rfl, by decide, bx4, fun r5 H5 l5 u5 bx5 o5 => ⟨sz, fun t ht => ?_⟩⟩
        obtain ⟨g1, g2, g3, g4, g5⟩ := fin (.ref t) _ (bx5.new (o := .tup [.str "up", .int r5]) ht) (o4.trans (o5.trans (Oth.new ht)))
        exact ⟨p2, _, _, rfl, rfl, g1, g2, _, _, _, rfl, g3, upd_same, g5, g4⟩
    · obtain ⟨x4, x5, us, rfl, bx3, hp3, lu, o3⟩ := hW
      have o3' := Oth.drop2 o3 hp2
      have hpk := o3'.keep p _ (by simp [nbp.symm]) hp1
      refine ⟨_, rfl, .inl ⟨rfl, _, SqL.of hpk⟩, _, rfl, .inl ⟨p2, _, rfl, SqL.of hp3, fun t ht => ?_⟩⟩
      have ot := Oth.new (S := [b]) (o := .tup us) ht
      have hpt := ot.keep p _ (by simp [nbp.symm]) hpk
      have op : Oth [p] (upd H3 t (.tup us)) (upd (upd H3 t (.tup us)) p (.lst (vs ++ [.ref t]))) := Oth.put (by simp) hpt
      refine ⟨p, _, _, rfl, rfl, hpt, Nat.lt_of_le_of_lt (by omega : vs.length ≤ 1000) (by decide), ?_⟩
      exact ⟨_, _, _, _, vs ++ [.ref t], rfl, (bx3.new ht).oth op (by simp [nbp]) (by simp [ndp]) (by simp [npp]), upd_same, by simp; omega, o1.trans ((o3'.mono (by simp)).trans ((ot.mono (by simp)).trans (op.mono (by simp))))⟩
  · obtain ⟨x2, x3, x4, x5, vs, rfl, bx1, hp1, lv, o1⟩ := hW
    refine ⟨_, rfl, .inl ⟨p, _, rfl, SqL.of hp1, fun t ht => ?_⟩⟩
    exact q _ _ (bx1.new ht) ((Oth.drop2 o1 hp).trans (Oth.new ht))
theorem ok_box {f fD : Addr} {fd dD : FuncData} {k : Nat} (F : Fun K "_law_box" "_law_box" sBox f fd)
    (GD : FnOk P w K mg base CX0 k fD dD ["script", "first", "last"] (spDigits K)) (bD : Binds K dD ["script", "first", "last"] []) (kD : PySem.W.keepIn K (.ref fD) = true) (mD : mg "_law_digits" = some (.ref fD)) :
    FnOk P w K mg base CX0 (k + 1) f fd ["script", "first", "last"] (spBox K) := by
  refine F.ok scBox (fun vs H Q E h => ?_) (fun cdv A outer s H vs Q E' hr h => ?_)
  · obtain ⟨a, ns, i, j, rfl, _⟩ := h
    rfl
  obtain ⟨a, ns, i, j, rfl, hS, hi, hj, q⟩ := h
  have nd := scBox.nd
  refine ⟨_, (pss_one (ps_ret (pe_lst (pa_cons (pe_call GD hr rfl mD kD bD .nil pass0 (pa_cons (pv 0) (pa_cons (pv 1) (pa_cons (pv 2) pa_nil)))) (pa_cons pe_int (pa_cons pe_int (pa_cons pe_int (pa_cons pe_int (pa_cons (pe_lst pa_nil) pa_nil))))))))), ?_⟩
  refine ⟨_, rfl, _, rfl, _, rfl, a, ns, i, j, rfl, hS, hi, hj, fun d H1 ds hd o1 e1 => ⟨sz, fun pl hp => ⟨sz, fun b hb => ?_⟩⟩⟩
  have ndp : d ≠ pl := ne_of_none e1 hp
  have o2 := Oth.new (S := []) (o := .lst []) hp
  have ndb : d ≠ b := ne_of_none (o2.keep d _ (by simp) e1) hb
  have npb : pl ≠ b := ne_of_none (upd_same : (upd H1 pl (.lst [])) pl = _) hb
  have o3 := Oth.new (S := []) (o := .lst [.ref d, .int 0, .int 0, .int 0, .int 0, .ref pl]) hb
  refine q b d pl _ ?_ (o1.trans (o2.trans o3)) ⟨⟨0, 0, 0, ds, 0, upd_same, o3.keep d _ (by simp) (o2.keep d _ (by simp) e1)⟩, ⟨[], o3.keep pl _ (by simp) upd_same, by simp⟩, ndp.symm⟩
  cases e : H b with
  | none => rfl
  | some o => rw [o2.keep b _ (by simp) (o1.keep b _ (by simp) e)] at hb; cases hb
end
end Pw
namespace Pw
open PySem PySem.Spec PyProof.Rows L2
abbrev sProgram : Stmt := topS 14
theorem scProgram : FnScope ["box", "many", "parts", "components", "k", "cells", "contents", "store", "j"] ["box"] (defScope sProgram) := ⟨rfl, rfl, rfl, by decide +kernel, rfl, by decide +kernel, by decide +kernel⟩
section
variable {P : Program} {w : World} {K : PySem.W.Frag} {mg : Str → Option Value} {base : Heap}
theorem ok_program {f fR fN fA : Addr} {fd dR dN dA : FuncData} {k : Nat} (F : Fun K "_law_program" "_law_program" sProgram f fd)
    (GR : FnOk P w K mg base CX0 k fR dR ["box", "many"] spDrawX) (bR : Binds K dR ["box", "many"] []) (kR : PySem.W.keepIn K (.ref fR) = true) (mR : mg "_law_draw" = some (.ref fR))
    (GN : FnOk P w K mg base CX0 k fN dN ["box", "own", "level", "last", "free"] (spContents 4)) (bN : Binds K dN ["box", "own", "level", "last", "free"] []) (kN : PySem.W.keepIn K (.ref fN) = true) (mN : mg "_law_contents" = some (.ref fN))
    (GA : FnOk P w K mg base CX0 k fA dA ["box"] spActions) (bA : Binds K dA ["box"] []) (kA : PySem.W.keepIn K (.ref fA) = true) (mA : mg "_law_actions" = some (.ref fA))
    (m_range : mg "range" = none) (m_tuple : mg "tuple" = none) (m_list : mg "list" = none) (m_len : mg "len" = none) (m_max : mg "max" = none) :
    FnOk P w K mg base CX0 (k + 1) f fd ["box"] spProgram := by
  refine F.ok scProgram (fun vs H Q E h => ?_) (fun cdv A outer s H vs Q E' hr h => ?_)
  · obtain ⟨b, dg, pl, rfl, _⟩ := h
    rfl
  obtain ⟨b, dg, pl, rfl, bx, q⟩ := h
  have nd := scProgram.nd
  refine ⟨_, (pss_cons (ps_set (i := 1) nd rfl (.inl rfl) (pe_op op_add pe_int (pe_call GR hr rfl mR kR bR .nil pass0 (pa_cons (pv 0) (pa_cons pe_int pa_nil)))))
  (pss_cons (ps_setLc (i := 2) (own := [("k", 4)]) (g := gName 4) (tt := tYes) rfl nd rfl rfl (sw_true rfl rfl rfl (by decide +kernel)) (pi_range1 (by rfl) m_range (pa_cons (pe_call GR hr rfl mR kR bR .nil pass0 (pa_cons (pv 0) (pa_cons pe_int pa_nil))) pa_nil)) (blkOk_by (N := ["box", "many", "parts", "components", "k", "cells", "contents", "store", "j"]) (sc := defScope sProgram) (by decide +kernel)) (fun _ _ _ _ _ => (pg_name (i := 4) nd rfl (.inl rfl))) (fun _ _ _ _ _ => pts_nil) (fun _ _ _ _ _ => (pe_op op_add pe_int (pe_call GR hr rfl mR kR bR .nil pass0 (pa_cons (pv 0) (pa_cons pe_int pa_nil))))))
  (pss_cut (ps_if (pt_cmpR op_gt (pe_callB call_len_seq (by rfl) m_len PySem.boot_len (pa_cons (pv 2) pa_nil)) pe_int (nomark _))
  (pss_one (ps_set (i := 1) nd rfl (.inl rfl) (pe_callB (call_max2 rfl) (by rfl) m_max bo_max (pa_cons (pv 1) (pa_cons pe_int pa_nil)))))
  pss_nil)
  (pss_cons (ps_set (i := 3) nd rfl (.inl rfl) (pe_lst pa_nil))
  (pss_cons (ps_for PassesOwn.never rfl (pi_range1 (by rfl) m_range (pa_cons (pv 1) pa_nil)) (pg_name (i := 4) nd rfl (.inl rfl))
  (pss_cons (ps_asg pe_int (pg_sub (pv 0) pe_int set_list))
  (pss_cons (ps_asg pe_int (pg_sub (pv 0) pe_int set_list))
  (pss_cons (ps_asg pe_int (pg_sub (pv 0) pe_int set_list))
  (pss_cons (ps_asg (pe_listRg rfl (by rfl) m_list (prg_1 (by rfl) m_range (pe_callB call_len_seq (by rfl) m_len PySem.boot_len (pa_cons (pv 2) pa_nil)))) (pg_sub (pv 0) pe_int set_list))
  (pss_cut (ps_if (pt_cmpR op_gt (pv 4) pe_int (nomark _))
  (pss_one (ps_asg (pe_lst pa_nil) (pg_sub (pv 0) pe_int set_list)))
  pss_nil)
  (pss_cons (ps_set (i := 5) nd rfl (.inl rfl) (pe_tupleOf (by rfl) m_tuple (pe_lc (own := [("j", 8)]) (g := gName 8) (tt := tYes) rfl nd (pi_range1 (by rfl) m_range (pa_cons (pe_call GR hr rfl mR kR bR .nil pass0 (pa_cons (pv 0) (pa_cons pe_int pa_nil))) pa_nil)) (blkOk_by (N := ["box", "many", "parts", "components", "k", "cells", "contents", "store", "j"]) (sc := defScope sProgram) (by decide +kernel)) (fun _ _ _ _ _ => (pg_name (i := 8) nd rfl (.inl rfl))) (fun _ _ _ _ _ => pts_nil) (fun _ _ _ _ _ => (pe_call GR hr rfl mR kR bR .nil pass0 (pa_cons (pv 0) (pa_cons pe_int pa_nil)))))))
  (pss_cons (ps_set (i := 6) nd rfl (.inl rfl) (pe_op op_catA (pe_call GN hr rfl mN kN bN .nil pass0 (pa_cons (pv 0) (pa_cons (pv 4) (pa_cons pe_int (pa_cons (pe_op op_sub (pv 1) pe_int) (pa_cons pe_bl pa_nil)))))) (pe_call GN hr rfl mN kN bN .nil pass0 (pa_cons (pv 0) (pa_cons (pv 4) (pa_cons pe_int (pa_cons (pe_op op_sub (pv 1) pe_int) (pa_cons pe_bl pa_nil))))))))
  (pss_cons (ps_set (i := 6) nd rfl (.inl rfl) (pe_op op_catA (pv 6) (pe_tupleOf (by rfl) m_tuple (pe_lc (own := [("j", 8)]) (g := gName 8) (tt := tYes) rfl nd (pi_list (pe_ix ix_list (pv 0) pe_int (fun _ _ => rfl))) (blkOk_by (N := ["box", "many", "parts", "components", "k", "cells", "contents", "store", "j"]) (sc := defScope sProgram) (by decide +kernel)) (fun _ _ _ _ _ => (pg_name (i := 8) nd rfl (.inl rfl))) (fun _ _ _ _ _ => pts_nil) (fun _ _ _ _ _ => (pe_tup (pa_cons pe_str (pa_cons (pv 8) pa_nil))))))))
  (pss_one (ps_expr (pe_bm PySem.F.plainAttrs_list PySem.F.slot_list_append PySem.F.type_list_append mt_append (pv 3) (pa_cons (pe_tup (pa_cons pe_str (pa_cons (pv 5) (pa_cons (pv 6) (pa_cons (pe_call GA hr rfl mA kA bA .nil pass0 (pa_cons (pv 0) pa_nil)) pa_nil))))) pa_nil)))))))))))))
  (pss_cons (ps_set (i := 7) nd rfl (.inl rfl) (pe_tupleOf (by rfl) m_tuple (pe_lc (own := [("k", 4)]) (g := gName 4) (tt := tYes) rfl nd (pi_range1 (by rfl) m_range (pa_cons (pe_call GR hr rfl mR kR bR .nil pass0 (pa_cons (pv 0) (pa_cons pe_int pa_nil))) pa_nil)) (blkOk_by (N := ["box", "many", "parts", "components", "k", "cells", "contents", "store", "j"]) (sc := defScope sProgram) (by decide +kernel)) (fun _ _ _ _ _ => (pg_name (i := 4) nd rfl (.inl rfl))) (fun _ _ _ _ _ => pts_nil) (fun _ _ _ _ _ => (pe_call GR hr rfl mR kR bR .nil pass0 (pa_cons (pv 0) (pa_cons pe_int pa_nil)))))))
  (pss_one (ps_ret (pe_tup (pa_cons pe_str (pa_cons (pe_tupleOf (by rfl) m_tuple (pv 3)) (pa_cons (pv 7) (pa_cons (pe_tupleOf (by rfl) m_tuple (pv 2)) pa_nil))))))))))))), ?_⟩
  refine ⟨_, rfl, b, dg, pl, _, rfl, by decide, bx, fun m H0 l0 u0 bx0 o0 => ⟨_, _, rfl, rfl, ?_⟩⟩
  refine ⟨_, rfl, b, dg, pl, _, rfl, by decide, bx0, fun n H1 l1 u1 bx1 o1 => ⟨n, rfl, by omega, by omega, fun D hD => lc_range (lo := 0) (n := n.toNat)
    (fun j H2 => Bx H2 b dg pl ∧ ∃ vs : List V, H2 D = some (.lst vs) ∧ vs.length = j ∧ Oth [b, D] H1 H2)
    ⟨bx1.new hD, [], upd_same, rfl, Oth.new hD⟩ (fun j H2 hj hW => ?_) (fun H2 hW => ?_)⟩⟩
  · obtain ⟨bx2, vs, hD2, lv, o2⟩ := hW
    have nbD : b ≠ D := bx1.nb hD
    refine ⟨rfl, ⟨_, rfl, b, dg, pl, _, rfl, by decide, bx2, fun r H3 l3 u3 bx3 o3 => ⟨_, _, rfl, rfl, ?_⟩⟩⟩
    have hD3 := o3.keep D _ (by simp [nbD.symm]) hD2
    have op : Oth [D] H3 (upd H3 D (.lst (vs ++ [.int (1 + r)]))) := Oth.put (by simp) hD3
    exact ⟨vs, hD3, small1000 (by omega), bx3.oth op (by simp [nbD]) (by simp [bx1.ndn hD]) (by simp [bx1.npn hD]), vs ++ [.int (1 + r)], upd_same, by rw [List.length_append, lv]; rfl, o2.trans ((o3.mono (by simp)).trans (op.mono (by simp)))⟩
  obtain ⟨bx2, pv, hD2, lpv, o2⟩ := hW
  have nbD : b ≠ D := bx1.nb hD
  have o02 : Oth [b] H H2 := o0.trans (o1.trans (Oth.drop2 o2 hD))
  have lp2 : pv.length ≤ 2 := by omega
  refine ⟨fun σ H' => H' = H2 ∧ ∃ mz : Int, 1 ≤ mz ∧ mz ≤ 3 ∧ σ = [some (.ref b), some (.int mz), some (.ref D), none, none, none, none, none, none], ?_, ?_⟩
  · refine ⟨_, rfl, D, pv, rfl, .inl (SqL.of hD2), _, _, rfl, rfl, _, rfl, ite2 (fun c => ?_) (fun c => ?_)⟩
    · refine ⟨_, rfl, _, _, rfl, ?_⟩
      exact ⟨rfl, if (3 : Int) > 1 + m then 3 else 1 + m, by split <;> omega, by split <;> omega, rfl⟩
    · exact ⟨rfl, 1 + m, by omega, by omega, rfl⟩
  rintro σ H' ⟨rfl, mz, z1, z3, rfl⟩
  refine ⟨sz, fun pC hC => ?_⟩
  have nbC := bx2.nb hC
  have ndC := bx2.ndn hC
  have nDC : D ≠ pC := ne_of_none hD2 hC
  refine ⟨_, rfl, mz, rfl, by omega, by omega, for_range (lo := 0) (n := mz.toNat)
    (fun i σ H3 => ∃ (x4 x5 x6 x7 x8 : Option V) (pl' : Addr) (cs : List V), σ = [some (.ref b), some (.int mz), some (.ref D), some (.ref pC), x4, x5, x6, x7, x8] ∧ Bx H3 b dg pl' ∧ pl' ≠ pC ∧ H3 D = some (.lst pv) ∧ H3 pC = some (.lst cs) ∧ (∀ v ∈ cs, CompT H3 v) ∧ cs.length = i ∧ Oth [b, pC] H' H3)
    ⟨none, none, none, none, none, pl, [], rfl, bx2.new hC, bx2.npn hC, by rw [upd_ne nDC]; exact hD2, upd_same, by simp, rfl, Oth.new hC⟩ (fun i σ H3 hi hW => ?_) (fun σ H3 hW => ?_)⟩
  · obtain ⟨x4, x5, x6, x7, x8, pl1, cs, rfl, bx3, np3, hD3, hC3, hcs, lcs, o3⟩ := hW
    obtain ⟨a3, n2, n3, n4, hb3⟩ := bx3.get
    refine ⟨_, rfl, b, _, 2, 2, rfl, rfl, hb3, rfl, ?_⟩
    have bx4 := bx3.put a3 6 n3 n4
    refine ⟨_, rfl, b, _, 3, 3, rfl, rfl, upd_same, rfl, ?_⟩
    have bx5 := bx4.put a3 6 2 n4
    refine ⟨_, rfl, b, _, 4, 4, rfl, rfl, upd_same, rfl, ?_⟩
    have bx6 := bx5.put a3 6 2 1
    have p1 : Oth [b] H3 (upd H3 b (.lst [.ref dg, .int (a3 : Int), .int 6, .int n3, .int n4, .ref pl1])) := Oth.put (by simp) hb3
    have p2 := p1.trans (Oth.put (b := b) (o := .lst [.ref dg, .int (a3 : Int), .int 6, .int 2, .int n4, .ref pl1]) (by simp) upd_same)
    have p3 := p2.trans (Oth.put (b := b) (o := .lst [.ref dg, .int (a3 : Int), .int 6, .int 2, .int 1, .ref pl1]) (by simp) upd_same)
    have hD6 := p3.keep D _ (by simp [nbD.symm]) hD3
    refine ⟨_, rfl, D, pv, rfl, .inl (SqL.of hD6), _, rfl, RgOk.of_le (by decide) (by omega) (by decide) (by omega), fun q5 hq5 => ?_⟩
    have hb6 := (Oth.new (S := []) (o := .lst (rgV 0 (pv.length : Int))) hq5).keep b _ (by simp) upd_same
    refine ⟨_, rfl, b, _, 5, 5, rfl, rfl, hb6, rfl, ?_⟩
    have bx7 := bx6.swap hq5 (List.range pv.length) (by rw [List.length_range]; exact lp2) a3 6 2 1
    rw [← rgV_nat] at bx7
    have p4 := p3.trans ((Oth.new (S := [b]) (o := .lst (rgV 0 (pv.length : Int))) hq5).trans (Oth.put (b := b) (o := .lst [.ref dg, .int (a3 : Int), .int 6, .int 2, .int 1, .ref q5]) (by simp) hb6))
    have f5 := bx6.fresh p3 hq5
    refine ⟨fun σ H' => σ = [some (.ref b), some (.int mz), some (.ref D), some (.ref pC), some (.int (0 + (i : Int))), x5, x6, x7, x8] ∧ ∃ pl2, H3 pl2 = none ∧ Bx H' b dg pl2 ∧ Oth [b] H3 H', ?_, ?_⟩
    · refine ⟨_, rfl, _, _, rfl, rfl, _, rfl, ite2 (fun c => ?_) (fun c => ?_)⟩
      · refine ⟨sz, fun q6 hq6 => ?_⟩
        have hb7 := (Oth.new (S := []) (o := .lst []) hq6).keep b _ (by simp) upd_same
        refine ⟨_, rfl, b, _, 5, 5, rfl, rfl, hb7, rfl, ?_⟩
        have bx8 := bx7.swap hq6 [] (by simp) a3 6 2 1
        exact ⟨rfl, q6, bx7.fresh p4 hq6, bx8, p4.trans ((Oth.new (S := [b]) (o := .lst []) hq6).trans (Oth.put (b := b) (by simp) hb7))⟩
      · exact ⟨rfl, q5, f5, bx7, p4⟩
    rintro σ H8 ⟨rfl, pl2, f2, bx8, o8⟩
    -- cells
    refine ⟨_, rfl, b, dg, pl2, _, rfl, by decide, bx8, fun n9 H9 l9 u9 bx9 o9 => ⟨n9, rfl, by omega, by omega, fun D1 hD1 => lc_range (lo := 0) (n := n9.toNat)
      (fun j H2 => Bx H2 b dg pl2 ∧ ∃ vs : List V, H2 D1 = some (.lst vs) ∧ vs.length = j ∧ Oth [b, D1] H9 H2)
      ⟨bx9.new hD1, [], upd_same, rfl, Oth.new hD1⟩ (fun j H2 hj hW => ?_) (fun H10 hW => ?_)⟩⟩
    · obtain ⟨bx2, vs, hD2, lv, o2⟩ := hW
      have nbD1 : b ≠ D1 := bx9.nb hD1
      refine ⟨rfl, ⟨_, rfl, b, dg, pl2, _, rfl, by decide, bx2, fun r H3 l3 u3 bx3 o3 => ?_⟩⟩
      have hD3 := o3.keep D1 _ (by simp [nbD1.symm]) hD2
      have op : Oth [D1] H3 (upd H3 D1 (.lst (vs ++ [.int r]))) := Oth.put (by simp) hD3
      exact ⟨vs, hD3, small1000 (by omega), bx3.oth op (by simp [nbD1]) (by simp [bx9.ndn hD1]) (by simp [bx9.npn hD1]), vs ++ [.int r], upd_same, by rw [List.length_append, lv]; rfl, o2.trans ((o3.mono (by simp)).trans (op.mono (by simp)))⟩
    obtain ⟨bx10, cv, hD10, lcv, o10⟩ := hW
    have o10' := Oth.drop2 o10 hD1
    refine .inl ⟨D1, _, rfl, SqL.of hD10, fun tc htc => ?_⟩
    have oc := Oth.new (S := [b]) (o := .tup cv) htc
    -- contents
    obtain ⟨mn, rfl⟩ : ∃ mn : Nat, mz = ((mn : Nat) : Int) + 1 := ⟨(mz - 1).toNat, by omega⟩
    have hi3 : i < 3 := by omega
    have ea : ([V.ref b, V.int (0 + (i : Int)), V.int 0, V.int ((mn : Int) + 1 - 1), V.bl true] : List V) = [V.ref b, V.int (i : Int), V.int ((0 : Nat) : Int), V.int (mn : Int), V.bl true] := by
      rw [show (0 : Int) + (i : Int) = (i : Int) by omega, show (mn : Int) + 1 - 1 = (mn : Int) by omega]
      rfl
    refine ⟨_, rfl, _, rfl, _, rfl, _, _, rfl, rfl, b, dg, pl2, i, 0, mn, 3, true, ea, rfl, by decide, bx10.new htc, fun ts1 v1 H11 d1 c1 f1 t1 bx11 o11 => ?_⟩
    refine ⟨_, rfl, _, rfl, _, rfl, _, _, rfl, rfl, b, dg, pl2, i, 0, mn, 3, true, ea, rfl, by decide, bx11, fun ts2 v2 H12 d2 c2 f2' t2 bx12 o12 => ?_⟩
    have c1' : Tp.cnts ts1 ≤ 777 := c1
    have c2' : Tp.cnts ts2 ≤ 777 := c2
    have n1 := Tp.cnts_len ts1
    have n2 := Tp.cnts_len ts2
    obtain ⟨a1, xs1, rfl, e1, q1⟩ := (t1.oth o12).inv
    obtain ⟨a2, xs2, rfl, e2, q2⟩ := t2.inv
    have x1 : xs1.length ≤ 777 := by rw [(paired_get q1).1, Tp.toTs_map, List.length_map]; omega
    have x2' : xs2.length ≤ 777 := by rw [(paired_get q2).1, Tp.toTs_map, List.length_map]; omega
    refine cat_t e1 e2 (by omega) fun a12 H13 o13 e13 => ?_
    have q12 : Paired (IsT H13) (Tp.toTs (ts1 ++ ts2)) (xs1 ++ xs2) := by
      rw [toTs_app]
      exact paired_app (paired_oth q1 o13) (paired_oth q2 o13)
    -- the parts that are left
    have bx13 := bx12.oth o13 (by simp) (by simp) (by simp)
    obtain ⟨a13, w2, w3, w4, hb13⟩ := bx13.get
    obtain ⟨ps, hp13, lps⟩ := bx13.parts
    refine ⟨_, rfl, _, rfl, b, _, _, _, rfl, rfl, SqL.of hb13, at5, pl2, rfl, ⟨_, SqL.of hp13⟩, fun D2 hD2' => lc_list (xs := ps.map natV)
      (fun j H2 => H2 pl2 = some (.lst (ps.map natV)) ∧ ∃ (us : List Nat) (vs : List V), H2 D2 = some (.lst vs) ∧ Paired (IsT H2) (Tp.toTs (us.map Tp.part)) vs ∧ us.length = j ∧ Oth [D2] H13 H2)
      ⟨(Oth.new (S := []) hD2').keep _ _ (by simp) hp13, [], [], upd_same, .nil, rfl, Oth.new hD2'⟩ (fun j H2 _ hW => SqL.of hW.1) (fun j x H2 hx hW => ?_) (fun H14 hW => ?_)⟩
    · obtain ⟨h2, us, vs, hv, pq, lu, o2⟩ := hW
      have npD : pl2 ≠ D2 := bx13.npn hD2'
      rw [List.getElem?_map] at hx
      obtain ⟨u, gu, rfl⟩ : ∃ u, ps[j]? = some u ∧ natV u = x := by
        cases g : ps[j]? with
        | none => rw [g] at hx; cases hx
        | some u => rw [g] at hx; exact ⟨u, rfl, Option.some.inj hx⟩
      have lj : j < ps.length := (List.getElem?_eq_some_iff.mp gu).1
      refine ⟨rfl, ⟨_, rfl, sz, fun t ht => ?_⟩⟩
      have ot := Oth.new (S := [D2]) (o := .tup [.str "part", natV u]) ht
      have hv2 := (Oth.new (S := []) (o := .tup [.str "part", natV u]) ht).keep D2 _ (by simp) hv
      have op : Oth [D2] (upd H2 t (.tup [.str "part", natV u])) (upd (upd H2 t (.tup [.str "part", natV u])) D2 (.lst (vs ++ [.ref t]))) := Oth.put (by simp) hv2
      have lv : vs.length = us.length := by rw [(paired_get pq).1, Tp.toTs_map, List.length_map, List.length_map]
      refine ⟨vs, hv2, small1000 (by omega), (ot.trans op).keep pl2 _ (by simp [npD]) h2, us ++ [u], vs ++ [.ref t], upd_same, ?_, by rw [List.length_append, lu]; rfl, o2.trans (ot.trans op)⟩
      rw [List.map_append, toTs_app]
      exact paired_app (paired_oth (paired_oth pq ot) op) (.cons (.mk2 (op.tup _ _ upd_same) (.str _) (.int _)) .nil)
    obtain ⟨h14, us, vs, hv14, pq14, lu, o14⟩ := hW
    have o14' : Oth [] H13 H14 := Oth.drop o14 hD2'
    have lu2 : us.length ≤ 2 := by rw [lu, List.length_map]; exact lps
    have lv : vs.length = us.length := by rw [(paired_get pq14).1, Tp.toTs_map, List.length_map, List.length_map]
    refine .inl ⟨D2, _, rfl, SqL.of hv14, fun t2 ht2 => ?_⟩
    have o15 := Oth.new (S := []) (o := .tup vs) ht2
    refine cat_t (o15.tup _ _ (o14'.tup _ _ e13)) upd_same (by rw [List.length_append]; omega) fun a3' H16 o16 e16 => ?_
    have q16 : Paired (IsT H16) (Tp.toTs (ts1 ++ ts2 ++ us.map Tp.part)) (xs1 ++ xs2 ++ vs) := by
      rw [toTs_app]
      exact paired_app (paired_oth (paired_oth (paired_oth q12 o14') o15) o16) (paired_oth (paired_oth pq14 o15) o16)
    have o13_16 := o13.trans (o14'.trans (o15.trans o16))
    have bx16 := bx12.oth o13_16 (by simp) (by simp) (by simp)
    have o3_16 : Oth [b] H3 H16 := by
      have z : Oth [b, pl2] H3 H16 := (o8.trans (o9.trans (o10'.trans oc))).two.trans (o11.trans (o12.trans (o13_16.mono (by simp))))
      exact Oth.drop2 z f2
    have hC16 := o3_16.keep pC _ (by simp [nbC.symm]) hC3
    -- the component
    refine ⟨_, rfl, .inl ⟨rfl, _, SqL.of hC16⟩, _, rfl, _, rfl, _, rfl, b, dg, pl2, rfl, bx16, fun va H17 bx17 o17 => ⟨sz, fun tp htp => ?_⟩⟩
    have on := Oth.new (S := [b]) (o := .tup [.str "component", .ref tc, .ref a3', va]) htp
    have o3_18 := o3_16.trans (o17.trans on)
    have hC18 := o3_18.keep pC _ (by simp [nbC.symm]) hC3
    refine ⟨pC, _, _, rfl, rfl, hC18, small1000 (by omega), ?_⟩
    have op : Oth [pC] _ (upd (upd H17 tp (.tup [.str "component", .ref tc, .ref a3', va])) pC (.lst (cs ++ [.ref tp]))) := Oth.put (by simp) hC18
    have np2 : pl2 ≠ pC := fun z => by rw [z, hC3] at f2; cases f2
    refine ⟨_, _, _, _, _, pl2, cs ++ [.ref tp], rfl, (bx17.new htp).oth op (by simp [nbC]) (by simp [ndC]) (by simp [np2]), np2, ?_, upd_same, ?_, by rw [List.length_append, lcs]; rfl, o3.trans ((o3_18.mono (by simp)).trans (op.mono (by simp)))⟩
    · exact op.keep D _ (by simp [nDC]) (o3_18.keep D _ (by simp [nbD.symm]) hD3)
    · intro v hv
      rcases List.mem_append.mp hv with h | h
      · exact ((hcs v h).oth o3_18).oth op
      · rw [List.mem_singleton.mp h]
        refine ⟨tp, _, _, _, ts1 ++ ts2 ++ us.map Tp.part, rfl, op.tup _ _ upd_same, .mk (op.tup _ _ (on.tup _ _ (o17.tup _ _ e16))) (paired_oth (paired_oth (paired_oth q16 o17) on) op), ?_, ?_, ?_⟩
        · rw [deps_app, deps_app, deps_parts]; omega
        · rw [cnts_app, cnts_app, cnts_parts]; omega
        · exact fines_app (fines_parts us) _ (fines_app f2' _ f1)
  · obtain ⟨x4, x5, x6, x7, x8, pl1, cs, rfl, bx3, np3, hD3, hC3, hcs, lcs, o3⟩ := hW
    refine ⟨_, rfl, b, dg, pl1, _, rfl, by decide, bx3, fun n9 H9 l9 u9 bx9 o9 => ⟨n9, rfl, by omega, by omega, fun D1 hD1 => lc_range (lo := 0) (n := n9.toNat)
      (fun j H2 => Bx H2 b dg pl1 ∧ ∃ vs : List V, H2 D1 = some (.lst vs) ∧ vs.length = j ∧ Oth [b, D1] H9 H2)
      ⟨bx9.new hD1, [], upd_same, rfl, Oth.new hD1⟩ (fun j H2 hj hW => ?_) (fun H10 hW => ?_)⟩⟩
    · obtain ⟨bx2, vs, hD2, lv, o2⟩ := hW
      have nbD1 : b ≠ D1 := bx9.nb hD1
      refine ⟨rfl, ⟨_, rfl, b, dg, pl1, _, rfl, by decide, bx2, fun r H3 l3 u3 bx3 o3 => ?_⟩⟩
      have hD3 := o3.keep D1 _ (by simp [nbD1.symm]) hD2
      have op : Oth [D1] H3 (upd H3 D1 (.lst (vs ++ [.int r]))) := Oth.put (by simp) hD3
      exact ⟨vs, hD3, small1000 (by omega), bx3.oth op (by simp [nbD1]) (by simp [bx9.ndn hD1]) (by simp [bx9.npn hD1]), vs ++ [.int r], upd_same, by rw [List.length_append, lv]; rfl, o2.trans ((o3.mono (by simp)).trans (op.mono (by simp)))⟩
    obtain ⟨bx10, cv, hD10, lcv, o10⟩ := hW
    have o10' := Oth.drop2 o10 hD1
    have o3_10 := o9.trans o10'
    refine .inl ⟨D1, _, rfl, SqL.of hD10, fun ts hts => ?_⟩
    have o11 := Oth.new (S := [b]) (o := .tup cv) hts
    have hC11 := (o3_10.trans o11).keep pC _ (by simp [nbC.symm]) hC3
    refine ⟨_, rfl, .inl ⟨pC, _, rfl, SqL.of hC11, fun tC htC => ⟨_, rfl, ?_⟩⟩⟩
    have o12 := Oth.new (S := [b]) (o := .tup cs) htC
    have hD12 := (o3_10.trans (o11.trans o12)).keep D _ (by simp [nbD.symm]) hD3
    refine ⟨_, rfl, .inl ⟨D, _, rfl, SqL.of hD12, fun tD htD => ⟨sz, fun tP htP => ?_⟩⟩⟩
    have o13 := Oth.new (S := [b]) (o := .tup pv) htD
    have o14 := Oth.new (S := [b]) (o := .tup [.str "program", .ref tC, .ref ts, .ref tD]) htP
    have o3_14 := o3_10.trans (o11.trans (o12.trans (o13.trans o14)))
    refine q tP tC _ _ cs _ upd_same ((o13.trans o14).tup _ _ upd_same) (fun v hv => (hcs v hv).oth o3_14) (o02.trans ((Oth.drop2 o3 hC).trans o3_14))
end
end Pw
namespace Pw
open PySem PySem.Spec PyProof.Rows L2
abbrev sListed : Stmt := topS 16
theorem scListed : FnScope ["contents", "before", "around", "rows", "k", "row", "place"] ["contents", "before", "around"] (defScope sListed) := ⟨rfl, rfl, rfl, by decide +kernel, rfl, by decide +kernel, by decide +kernel⟩
section
variable {P : Program} {w : World} {K : PySem.W.Frag} {mg : Str → Option Value} {base : Heap}
theorem ok_listed {f : Addr} {fd : FuncData} {k n : Nat} (F : Fun K "_law_listed" "_law_listed" sListed f fd)
    (GL : FnOk P w K mg base CX0 k f fd ["contents", "before", "around"] (spListed n)) (bL : Binds K fd ["contents", "before", "around"] []) (kL : PySem.W.keepIn K (.ref f) = true) (mL : mg "_law_listed" = some (.ref f))
    (m_range : mg "range" = none) (m_len : mg "len" = none) :
    FnOk P w K mg base CX0 (k + 1) f fd ["contents", "before", "around"] (spListed (n + 1)) := by
  refine F.ok scListed (fun vs H Q E h => ?_) (fun cdv A outer s H vs Q E' hr h => ?_)
  · obtain ⟨ts, pl, ar, vc, vb, aa, as, rfl, _⟩ := h
    rfl
  obtain ⟨ts, pl, ar, vc, vb, aa, as, rfl, hc, hb, ha, hd, hz, hpl, has, q⟩ := h
  have nd := scListed.nd
  refine ⟨_, (pss_cons (ps_set (i := 3) nd rfl (.inl rfl) (pe_lst pa_nil))
  (pss_cons (ps_for PassesOwn.never rfl (pi_range1 (by rfl) m_range (pa_cons (pe_callB call_len_seq (by rfl) m_len PySem.boot_len (pa_cons (pv 0) pa_nil)) pa_nil)) (pg_name (i := 4) nd rfl (.inl rfl))
  (pss_cons (ps_set (i := 5) nd rfl (.inl rfl) (pe_ix ix_tup (pv 0) (pv 4) (fun _ _ => rfl)))
  (pss_cons (ps_set (i := 6) nd rfl (.inl rfl) (pe_op op_catA (pv 1) (pe_tup (pa_cons (pv 4) pa_nil))))
  (pss_cons (ps_expr (pe_bm PySem.F.plainAttrs_list PySem.F.slot_list_append PySem.F.type_list_append mt_append (pv 3) (pa_cons (pe_lst (pa_cons (pv 6) (pa_cons (pv 5) (pa_cons (pv 2) pa_nil)))) pa_nil)))
  (pss_one (ps_if (pt_cmpR op_eq (pe_ix ix_tup (pv 5) pe_int (fun _ _ => rfl)) pe_str (nomark _))
  (pss_one (ps_set (i := 3) nd rfl (.inl rfl) (pe_op op_cat (pv 3) (pe_call GL hr rfl mL kL bL .nil pass0 (pa_cons (pe_ix ix_tup (pv 5) pe_int (fun _ _ => rfl)) (pa_cons (pv 6) (pa_cons (pe_op op_cat (pv 2) (pe_lst (pa_cons pe_str pa_nil))) pa_nil)))))))
  (pss_one (ps_if (pt_cmpR op_eq (pe_ix ix_tup (pv 5) pe_int (fun _ _ => rfl)) pe_str (nomark _))
  (pss_one (ps_set (i := 3) nd rfl (.inl rfl) (pe_op op_cat (pv 3) (pe_call GL hr rfl mL kL bL .nil pass0 (pa_cons (pe_ix ix_tup (pv 5) pe_int (fun _ _ => rfl)) (pa_cons (pv 6) (pa_cons (pe_op op_cat (pv 2) (pe_lst (pa_cons pe_str pa_nil))) pa_nil)))))))
  (pss_one (ps_if (pt_cmpR op_eq (pe_ix ix_tup (pv 5) pe_int (fun _ _ => rfl)) pe_str (nomark _))
  (pss_cons (ps_set (i := 3) nd rfl (.inl rfl) (pe_op op_cat (pv 3) (pe_call GL hr rfl mL kL bL .nil pass0 (pa_cons (pe_ix ix_tup (pv 5) pe_int (fun _ _ => rfl)) (pa_cons (pe_op op_catA (pv 6) (pe_tup (pa_cons pe_int pa_nil))) (pa_cons (pe_op op_cat (pv 2) (pe_lst (pa_cons pe_str pa_nil))) pa_nil))))))
  (pss_one (ps_set (i := 3) nd rfl (.inl rfl) (pe_op op_cat (pv 3) (pe_call GL hr rfl mL kL bL .nil pass0 (pa_cons (pe_ix ix_tup (pv 5) pe_int (fun _ _ => rfl)) (pa_cons (pe_op op_catA (pv 6) (pe_tup (pa_cons pe_int pa_nil))) (pa_cons (pe_op op_cat (pv 2) (pe_lst (pa_cons pe_str pa_nil))) pa_nil))))))))
  pss_nil))))))))))
  (pss_one (ps_ret (pv 3))))), ?_⟩
  obtain ⟨ac, xs, rfl, ec, pc⟩ := hc.inv
  obtain ⟨ab, rfl, eb⟩ := hb.ints
  have lxs := (paired_get pc).1
  rw [Tp.toTs_map, List.length_map] at lxs
  have lts := Tp.cnts_len ts
  refine ⟨sz, fun p hp => ?_⟩
  refine ⟨_, rfl, ac, xs, rfl, .inr (SqT.of ((Oth.new (S := []) hp).tup _ _ ec)), _, rfl, by omega, by omega, for_range (lo := 0) (n := ((xs.length : Nat) : Int).toNat)
    (fun i σ H1 => ∃ (x4 x5 x6 : Option V) (p : Addr) (rs : List V), σ = [some (.ref ac), some (.ref ab), some (.ref aa), some (.ref p), x4, x5, x6] ∧ LSt H H1 p (Tp.lst pl 0 ar (ts.take i)) rs)
    ⟨none, none, none, p, [], rfl, hp, Oth.new hp, upd_same, .nil, by simp⟩ (fun i σ H1 hi hW => ?_) (fun σ H1 hW => ?_)⟩
  · obtain ⟨x4, x5, x6, p, rs, rfl, st⟩ := hW
    have hi' : i < xs.length := by omega
    have hit : i < ts.length := by omega
    obtain ⟨t, gt⟩ : ∃ t, ts[i]? = some t := ⟨ts[i], List.getElem?_eq_getElem hit⟩
    obtain ⟨xi, gx⟩ : ∃ x, xs[i]? = some x := ⟨xs[i], List.getElem?_eq_getElem hi'⟩
    have ht : IsT H t.toT xi := (paired_get pc).2 i _ _ (by rw [Tp.toTs_map, List.getElem?_map, gt]; rfl) gx
    have all := cnts_take gt
    have tdep := deps_get gt
    rw [show (0 : Int) + (i : Int) = (i : Int) from Int.zero_add _]
    refine ⟨_, rfl, _, rfl, ac, _, _, _, rfl, rfl, SqT.of (st.oth.tup _ _ ec), atI_nat gx, ?_⟩
    refine ⟨_, rfl, _, rfl, sz, fun q1 hq1 => cat_t ((st.oth.trans (Oth.new hq1)).tup _ _ eb) upd_same (by simp; omega) fun a2 H2 o2 e2 => ?_⟩
    have st2 := st.go ((Oth.new (o := .tup [.int (i : Int)]) hq1).trans o2)
    have e2' : H2 a2 = some (.tup ((pl ++ [(i : Int)]).map V.int)) := by rw [e2, List.map_append]; rfl
    refine ⟨_, rfl, .inl ⟨rfl, _, SqL.of st2.at_⟩, _, rfl, _, rfl, _, rfl, sz, fun q3 hq3 => ?_⟩
    have st3 := st2.push (z := .ref aa) (r := ⟨pl ++ [(i : Int)], t, ar⟩) hq3 (.mkInts e2') (ht.oth st2.oth)
    have lrs : rs.length ≤ 5000 := by rw [st.rows.len, Tp.lst_len]; omega
    have hpq := (st2.go (Oth.new (o := .lst [.ref a2, xi, .ref aa]) hq3)).at_
    refine ⟨p, _, _, rfl, rfl, hpq, Nat.lt_of_le_of_lt lrs (by decide), ?_⟩
    have eqT : Tp.lst pl 0 ar (ts.take (i + 1)) = Tp.lst pl 0 ar (ts.take i) ++ [⟨pl ++ [(i : Int)], t, ar⟩] ++ t.under (pl ++ [(i : Int)]) ar := by
      have hl : (ts.take i).length = i := by rw [List.length_take]; omega
      rw [take_succ gt, Tp.lst_app]
      simp only [Tp.lst, List.append_nil, hl, Nat.zero_add, List.append_assoc, List.cons_append, List.nil_append]
    have lrs3 : (rs ++ [V.ref q3]).length ≤ 5001 := by simp; omega
    have hx4 := ht.oth st3.oth
    have ha4 := st3.oth.keep aa _ (by simp) ha
    have o24 : Oth [p] H2 (upd (upd H2 q3 (.lst [.ref a2, xi, .ref aa])) p (.lst (rs ++ [.ref q3]))) := (Oth.new hq3).trans (Oth.put (by simp) hpq)
    have pl4 := o24.tup _ _ e2'
    generalize upd (upd H2 q3 (.lst [.ref a2, xi, .ref aa])) p (.lst (rs ++ [.ref q3])) = H4 at st3 o24 hx4 ha4 pl4 ⊢
    generalize rs ++ [V.ref q3] = rs4 at st3 lrs3 ⊢
    clear st2 hpq st o2 e2 e2' hq3 lrs
    cases t with
    | box tag key act cs =>
      obtain ⟨at', _, v1, v2, v3, v4, rfl, hat, p0, p1, p2, p3, p4⟩ := IsT.inv5 hx4
      obtain rfl := p0.of_str
      simp only [Tp.dep] at tdep
      simp only [Tp.cnt] at all
      refine ⟨_, rfl, at', _, _, _, rfl, rfl, SqT.of hat, at0, rfl, _, rfl, iteTd rfl ?_⟩
      refine ⟨_, rfl, _, rfl, at', _, _, _, rfl, rfl, SqT.of hat, at4, _, rfl, _, rfl, sz, fun l hl => ⟨aa, l, _, _, rfl, rfl, (Oth.new (S := []) hl).keep aa _ (by simp) ha4, upd_same, Nat.le_trans (by simp; omega : as.length + [V.str "box"].length ≤ 100000) (by decide), fun l2 hl2 => ?_⟩⟩
      have o5 := (Oth.new (S := []) (o := .lst [.str "box"]) hl).trans (Oth.new (o := .lst (as ++ [.str "box"])) hl2)
      refine ⟨cs, pl ++ [(i : Int)], ar ++ [("box" : Str)], _, _, l2, _, rfl, p4.oth o5, .mkInts (o5.tup _ _ pl4), upd_same, by omega, by omega, by simp; omega, by simp; omega, fun p3 H5 rs5 st5 => ?_⟩
      have o45 := o5.trans st5.oth
      have l5 : rs5.length ≤ 5000 := by rw [st5.rows.len, Tp.lst_len]; omega
      refine ⟨p, p3, _, _, rfl, rfl, (st3.go o45).at_, st5.at_, Nat.le_trans (by omega : rs4.length + rs5.length ≤ 100000) (by decide), fun p4 hp4 => ?_⟩
      exact ⟨_, _, _, p4, _, rfl, by rw [eqT]; exact st3.cat o45 st5.rows hp4⟩
    | each e cs =>
      obtain ⟨at', _, v1, v4, rfl, hat, p0, p1, p4⟩ := IsT.inv3 hx4
      obtain rfl := p0.of_str
      simp only [Tp.dep] at tdep
      simp only [Tp.cnt] at all
      refine ⟨_, rfl, at', _, _, _, rfl, rfl, SqT.of hat, at0, rfl, _, rfl, iteFd (by decide) ⟨_, rfl, at', _, _, _, rfl, rfl, SqT.of hat, at0, rfl, _, rfl, iteTd rfl ?_⟩⟩
      refine ⟨_, rfl, _, rfl, at', _, _, _, rfl, rfl, SqT.of hat, at2, _, rfl, _, rfl, sz, fun l hl => ⟨aa, l, _, _, rfl, rfl, (Oth.new (S := []) hl).keep aa _ (by simp) ha4, upd_same, Nat.le_trans (by simp; omega : as.length + [V.str "each"].length ≤ 100000) (by decide), fun l2 hl2 => ?_⟩⟩
      have o5 := (Oth.new (S := []) (o := .lst [.str "each"]) hl).trans (Oth.new (o := .lst (as ++ [.str "each"])) hl2)
      refine ⟨cs, pl ++ [(i : Int)], ar ++ [("each" : Str)], _, _, l2, _, rfl, p4.oth o5, .mkInts (o5.tup _ _ pl4), upd_same, by omega, by omega, by simp; omega, by simp; omega, fun p3 H5 rs5 st5 => ?_⟩
      have o45 := o5.trans st5.oth
      have l5 : rs5.length ≤ 5000 := by rw [st5.rows.len, Tp.lst_len]; omega
      refine ⟨p, p3, _, _, rfl, rfl, (st3.go o45).at_, st5.at_, Nat.le_trans (by omega : rs4.length + rs5.length ≤ 100000) (by decide), fun p4 hp4 => ?_⟩
      exact ⟨_, _, _, p4, _, rfl, by rw [eqT]; exact st3.cat o45 st5.rows hp4⟩
    | when e cs os =>
      obtain ⟨at', _, v1, v4, v5, rfl, hat, p0, p1, p4, p5⟩ := IsT.inv4 hx4
      obtain rfl := p0.of_str
      simp only [Tp.dep] at tdep
      simp only [Tp.cnt] at all
      refine ⟨_, rfl, at', _, _, _, rfl, rfl, SqT.of hat, at0, rfl, _, rfl, iteFd (by decide) ⟨_, rfl, at', _, _, _, rfl, rfl, SqT.of hat, at0, rfl, _, rfl, iteFd (by decide) ⟨_, rfl, at', _, _, _, rfl, rfl, SqT.of hat, at0, rfl, _, rfl, iteTd rfl ?_⟩⟩⟩
      refine ⟨_, rfl, _, rfl, at', _, _, _, rfl, rfl, SqT.of hat, at2, _, rfl, sz, fun t1 ht1 => cat_t ((Oth.new (S := []) ht1).tup _ _ pl4) upd_same (by simp; omega) fun b1 H6 o6 e6 => ?_⟩
      have o46 := (Oth.new (S := []) (o := .tup [.int 0]) ht1).trans o6
      have e6' : H6 b1 = some (.tup ((pl ++ [(i : Int)] ++ [0]).map V.int)) := by rw [e6, List.map_append (l₁ := pl ++ [(i : Int)])]; rfl
      refine ⟨_, rfl, sz, fun l hl => ⟨aa, l, _, _, rfl, rfl, (o46.trans (Oth.new (S := []) hl)).keep aa _ (by simp) ha4, upd_same, Nat.le_trans (by simp; omega : as.length + [V.str "when"].length ≤ 100000) (by decide), fun l2 hl2 => ?_⟩⟩
      have o67 := (Oth.new (S := []) (o := .lst [.str "when"]) hl).trans (Oth.new (o := .lst (as ++ [.str "when"])) hl2)
      have o47 := o46.trans o67
      refine ⟨cs, pl ++ [(i : Int)] ++ [0], ar ++ [("when" : Str)], _, _, l2, _, rfl, p4.oth o47, .mkInts (o67.tup _ _ e6'), upd_same, by omega, by omega, by simp; omega, by simp; omega, fun p3 H5 rs5 st5 => ?_⟩
      have o45 := o47.trans st5.oth
      have l5 : rs5.length ≤ 5000 := by rw [st5.rows.len, Tp.lst_len]; omega
      refine ⟨p, p3, _, _, rfl, rfl, (st3.go o45).at_, st5.at_, Nat.le_trans (by omega : rs4.length + rs5.length ≤ 100000) (by decide), fun p8 hp8 => ?_⟩
      have st8 := st3.cat o45 st5.rows hp8
      have o48 := o45.trans (Oth.new (o := .lst (rs4 ++ rs5)) hp8)
      have ha8 := o48.keep aa _ (by simp) ha4
      refine ⟨_, rfl, _, rfl, at', _, _, _, rfl, rfl, SqT.of (o48.tup _ _ hat), at3, _, rfl, sz, fun t1 ht1 => cat_t ((o48.trans (Oth.new ht1)).tup _ _ pl4) upd_same (by simp; omega) fun b1 H9 o9 e9 => ?_⟩
      have o89 := (Oth.new (S := []) (o := .tup [.int 1]) ht1).trans o9
      have e9' : H9 b1 = some (.tup ((pl ++ [(i : Int)] ++ [1]).map V.int)) := by rw [e9, List.map_append (l₁ := pl ++ [(i : Int)])]; rfl
      refine ⟨_, rfl, sz, fun l hl => ⟨aa, l, _, _, rfl, rfl, (o89.trans (Oth.new (S := []) hl)).keep aa _ (by simp) ha8, upd_same, Nat.le_trans (by simp; omega : as.length + [V.str "when"].length ≤ 100000) (by decide), fun l2 hl2 => ?_⟩⟩
      have o9x := (Oth.new (S := []) (o := .lst [.str "when"]) hl).trans (Oth.new (o := .lst (as ++ [.str "when"])) hl2)
      have o8x := o89.trans o9x
      refine ⟨os, pl ++ [(i : Int)] ++ [1], ar ++ [("when" : Str)], _, _, l2, _, rfl, (p5.oth o48).oth o8x, .mkInts (o9x.tup _ _ e9'), upd_same, by omega, by omega, by simp; omega, by simp; omega, fun p9 H10 rs10 st10 => ?_⟩
      have o8y := o8x.trans st10.oth
      have l10 : rs10.length ≤ 5000 := by rw [st10.rows.len, Tp.lst_len]; omega
      refine ⟨p8, p9, _, _, rfl, rfl, (st8.go o8y).at_, st10.at_, Nat.le_trans (by simp; omega : (rs4 ++ rs5).length + rs10.length ≤ 100000) (by decide), fun p11 hp11 => ?_⟩
      have st11 := st8.cat o8y st10.rows hp11
      exact ⟨_, _, _, p11, _, rfl, by rw [eqT]; simpa only [Tp.under, List.append_assoc] using st11⟩
    | _ =>
      obtain ⟨at', r', rfl, hat⟩ := Tp.kindAt _ hx4
      refine ⟨_, rfl, at', _, _, _, rfl, rfl, SqT.of hat, at0, rfl, _, rfl, iteFd (by simp only [Tp.kind]; decide) ⟨_, rfl, at', _, _, _, rfl, rfl, SqT.of hat, at0, rfl, _, rfl, iteFd (by simp only [Tp.kind]; decide) ⟨_, rfl, at', _, _, _, rfl, rfl, SqT.of hat, at0, rfl, _, rfl, iteFd (by simp only [Tp.kind]; decide) ?_⟩⟩⟩
      exact ⟨_, _, _, p, _, rfl, by rw [eqT]; simpa only [Tp.under, List.append_nil] using st3⟩
  · obtain ⟨x4, x5, x6, p, rs, rfl, st⟩ := hW
    rw [show ((xs.length : Nat) : Int).toNat = ts.length by omega, List.take_length] at st
    exact ⟨_, rfl, q p H1 rs st⟩
end
end Pw
namespace Pw
open PySem PySem.Spec PyProof.Rows L2
abbrev sLaw : Stmt := topS 17
theorem scLaw : FnScope ["script", "box", "program", "component", "due", "item", "row"] ["script"] (defScope sLaw) := ⟨rfl, rfl, rfl, by decide +kernel, rfl, by decide +kernel, by decide +kernel⟩
section
variable {P : Program} {w : World} {K : PySem.W.Frag} {mg : Str → Option Value} {base : Heap}
theorem ok_law {T f fB fP fL fS fM : Addr} {fd dB dP dL dS dM : FuncData} {k : Nat} (F : Fun K "law" "law" sLaw f fd)
    (GB : FnOk P w K mg base CX0 k fB dB ["script", "first", "last"] (spBox K)) (bB : Binds K dB ["script", "first", "last"] []) (kB : PySem.W.keepIn K (.ref fB) = true) (mB : mg "_law_box" = some (.ref fB))
    (GP : FnOk P w K mg base CX0 k fP dP ["box"] spProgram) (bP : Binds K dP ["box"] []) (kP : PySem.W.keepIn K (.ref fP) = true) (mP : mg "_law_program" = some (.ref fP))
    (GL : FnOk P w K mg base CX0 k fL dL ["contents", "before", "around"] (spListed 4)) (bL : Binds K dL ["contents", "before", "around"] []) (kL : PySem.W.keepIn K (.ref fL) = true) (mL : mg "_law_listed" = some (.ref fL))
    (GS : FnOk P w K mg base CX0 k fS dS ["actual", "expected"] (spSame 16)) (bS : Binds K dS ["actual", "expected"] []) (kS : PySem.W.keepIn K (.ref fS) = true) (mS : mg "_law_same" = some (.ref fS))
    (GM : FnOk P w K mg base CX0 k fM dM ["contents"] (spTemplates T)) (bM : Binds K dM ["contents"] []) (kM : PySem.W.keepIn K (.ref fM) = true) (mM : mg "templates" = some (.ref fM))
    (m_tuple : mg "tuple" = none) : FnOk P w K mg base CX0 (k + 1) f fd ["script"] (spLawK T K) := by
  refine F.ok scLaw (fun vs H Q E h => ?_) (fun cdv A outer s H vs Q E' hr h => ?_)
  · obtain ⟨a, ns, rfl, _⟩ := h
    rfl
  obtain ⟨a, ns, rfl, hS, h63, htg, q⟩ := h
  have nd := scLaw.nd
  refine ⟨_, (pss_cons (ps_set (i := 1) nd rfl (.inl rfl) (pe_call GB hr rfl mB kB bB .nil pass0 (pa_cons (pv 0) (pa_cons pe_int (pa_cons pe_int pa_nil)))))
  (pss_cons (ps_set (i := 2) nd rfl (.inl rfl) (pe_call GP hr rfl mP kP bP .nil pass0 (pa_cons (pv 1) pa_nil)))
  (pss_cons (ps_for PassesOwn.never rfl (pi_tup (pe_ix ix_tup (pv 2) pe_int (fun _ _ => rfl))) (pg_name (i := 3) nd rfl (.inl rfl))
  (pss_cons (ps_set (i := 4) nd rfl (.inl rfl) (pe_tupleOf (by rfl) m_tuple (pe_lc (own := [("row", 6)]) (g := gName 6) (tt := tYes) rfl nd (pi_list (pe_call GL hr rfl mL kL bL .nil pass0 (pa_cons (pe_ix ix_tup (pv 3) pe_int (fun _ _ => rfl)) (pa_cons (pe_tup pa_nil) (pa_cons (pe_lst pa_nil) pa_nil))))) (blkOk_by (N := ["script", "box", "program", "component", "due", "item", "row"]) (sc := defScope sLaw) (by decide +kernel)) (fun _ _ _ _ _ => (pg_name (i := 6) nd rfl (.inl rfl))) (fun _ _ _ _ _ => pts_nil) (fun _ _ _ _ _ => (pe_tup (pa_cons (pe_ix (r := rIxL K) ix_list (pv 6) pe_int (fun _ _ => rfl)) (pa_cons (pe_ix (r := rIxL K) ix_list (pv 6) pe_int (fun _ _ => rfl)) pa_nil)))))))
  (pss_cons (ps_if (pt_not (pt_val (pe_call GS hr rfl mS kS bS .nil pass0 (pa_cons (pe_call GM hr rfl mM kM bM .nil pass0 (pa_cons (pe_ix ix_tup (pv 3) pe_int (fun _ _ => rfl)) pa_nil)) (pa_cons (pv 4) pa_nil)))))
  (pss_one (ps_ret pe_bl))
  pss_nil)
  (pss_one (ps_for PassesOwn.never rfl (pi_tup (pv 4)) (pg_name (i := 5) nd rfl (.inl rfl))
  (pss_one (ps_if (pt_not (pt_val (pe_call GS hr rfl mS kS bS .nil pass0 (pa_cons (pe_ix ix_tup (pe_call GM hr rfl mM kM bM .nil pass0 (pa_cons (pe_tup (pa_cons (pe_ix ix_tup (pv 5) pe_int (fun _ _ => rfl)) pa_nil)) pa_nil)) pe_int (fun _ _ => rfl)) (pa_cons (pe_tup (pa_cons (pe_tup (pa_cons pe_int pa_nil)) (pa_cons (pe_ix ix_tup (pv 5) pe_int (fun _ _ => rfl)) pa_nil))) pa_nil)))))
  (pss_one (ps_ret pe_bl))
  pss_nil)))))))
  (pss_one (ps_ret pe_bl))))), ?_⟩
  obtain ⟨tb, etb, ttb⟩ := htg
  refine ⟨_, rfl, a, ns, 0, 63, rfl, hS, by omega, by omega, fun b d pl H1 hb o1 bx => ?_⟩
  have nTb : T ≠ b := ne_of_none etb hb
  refine ⟨_, rfl, b, d, pl, rfl, bx, fun pa pc px py cs H2 e2 ec hcs o2 => ?_⟩
  have tg2 : GxR.TabG H2 T := ⟨tb, o2.keep T _ (by simp [nTb]) (o1.keep T _ (by simp) etb), ttb⟩
  refine ⟨_, rfl, pa, _, _, _, rfl, rfl, SqT.of e2, at1, pc, rfl, ⟨cs, SqT.of ec⟩, for_tup (xs := cs)
    (fun i σ H3 => ∃ (x3 x4 x5 x6 : Option V), σ = [some (.ref a), some (.ref b), some (.ref pa), x3, x4, x5, x6] ∧ H3 pc = some (.tup cs) ∧ (∀ v ∈ cs, CompT H3 v) ∧ GxR.TabG H3 T)
    ⟨none, none, none, none, rfl, ec, hcs, tg2⟩ (fun i σ H3 _ hW => ?_) (fun i y σ H3 hy hW => ?_) (fun σ H3 hW => ?_)⟩
  · obtain ⟨_, _, _, _, _, e, _⟩ := hW
    exact SqT.of e
  · obtain ⟨x3, x4, x5, x6, rfl, ec3, hcs3, tg3⟩ := hW
    obtain ⟨ai, w1, w2, w3, ts, rfl, ei, it, hd, hc, hf⟩ := hcs3 y (List.mem_of_getElem? hy)
    have lcs : Tp.cnts ts ≤ 5000 := by omega
    -- what is due
    refine ⟨_, rfl, ai, _, _, _, rfl, rfl, SqT.of ei, at2, sz, fun p0 hp0 => ⟨sz, fun p1 hp1 => ?_⟩⟩
    have o01 := (Oth.new (S := []) (o := .tup []) hp0).trans (Oth.new (o := .lst []) hp1)
    refine ⟨ts, [], [], _, _, p1, [], rfl, it.oth o01, .mk ((Oth.new (S := []) (o := .lst []) hp1).tup _ _ upd_same) .nil, upd_same, by omega, lcs, by simp, by simp, fun p H4 rs st => ?_⟩
    have o34 := o01.trans st.oth
    have lR : rs.length = (Tp.lst [] 0 [] ts).length := st.rows.len
    have lR2 : rs.length ≤ 5000 := by rw [lR, Tp.lst_len]; exact lcs
    refine ⟨p, rfl, ⟨rs, SqL.of st.at_⟩, fun D hD => lc_list (xs := rs)
      (fun j H5 => H5 p = some (.lst rs) ∧ LRows H5 (Tp.lst [] 0 [] ts) rs ∧ ∃ vs : List V, H5 D = some (.lst vs) ∧ vs.length = j ∧ Paired (IsT H5) (((Tp.lst [] 0 [] ts).take j).map pairT') vs ∧ Oth [D] H4 H5)
      ⟨(Oth.new (S := []) hD).keep p _ (by simp) st.at_, st.rows.oth (Oth.new (S := []) hD) (by simp), [], upd_same, rfl, .nil, Oth.new hD⟩ (fun j H5 _ hW => SqL.of hW.1) (fun j x H5 hx hW => ?_) (fun H5 hW => ?_)⟩
    · obtain ⟨hp5, lr5, vs, hv, lv, pq, o5⟩ := hW
      obtain ⟨r, gr, ar, rx, ry, rz, rfl, er, t1, t2⟩ := lrows_get lr5 hx
      have hj : j < rs.length := (List.getElem?_eq_some_iff.mp hx).1
      have npD : p ≠ D := ne_of_none st.at_ hD
      refine ⟨rfl, ⟨_, rfl, ar, _, _, _, rfl, rfl, SqL.of er, at0, _, rfl, ar, _, _, _, rfl, rfl, SqL.of er, at1, sz, fun t ht => ?_⟩⟩
      have ot := Oth.new (S := [D]) (o := .tup [rx, ry]) ht
      have hv2 := (Oth.new (S := []) (o := .tup [rx, ry]) ht).keep D _ (by simp) hv
      have op : Oth [D] (upd H5 t (.tup [rx, ry])) (upd (upd H5 t (.tup [rx, ry])) D (.lst (vs ++ [.ref t]))) := Oth.put (by simp) hv2
      refine ⟨vs, hv2, Nat.lt_of_le_of_lt (by omega : vs.length ≤ 5000) (by decide), (ot.trans op).keep p _ (by simp [npD]) hp5, lr5.oth (ot.trans op) (fun v hv b hb => by rw [List.mem_singleton.mp hb]; exact LRows.ne hD st.rows v hv), vs ++ [.ref t], upd_same, by rw [List.length_append, lv]; rfl, ?_, o5.trans (ot.trans op)⟩
      rw [take_succ gr, List.map_append]
      exact paired_app (paired_oth (paired_oth pq ot) op) (.cons (.mk2 (op.tup _ _ upd_same) ((t1.oth ot).oth op) ((t2.oth ot).oth op)) .nil)
    obtain ⟨hp5, lr5, vs, hv, lv, pq, o5⟩ := hW
    rw [lR, List.take_length] at pq
    have o35 := o34.trans (Oth.drop o5 hD)
    refine .inl ⟨D, _, rfl, SqL.of hv, fun td htd => ?_⟩
    have o6 := Oth.new (S := []) (o := .tup vs) htd
    have o36 := o35.trans o6
    have due : IsT _ (pairsT (Tp.lst [] 0 [] ts)) (.ref td) := .mk upd_same (paired_oth pq o6)
    -- templates of it
    refine ⟨_, rfl, ai, _, _, _, rfl, rfl, SqT.of (o36.tup _ _ ei), at2, ts, _, rfl, it.oth o36, by omega, lcs, TabG.oth tg3 o36 (by simp), fun r H7 it7 o7 tg7 => ⟨_, rfl, pairsT (Tp.lst [] 0 [] ts), _, _, rfl, it7, due.oth o7, pairs_dep hd lcs hf, _, rfl, iteF ?_⟩⟩
    have o37 := (o36.mono (by simp)).trans o7
    refine ⟨_, rfl, td, rfl, ⟨vs, SqT.of (o7.tup _ _ upd_same)⟩, for_tup (xs := vs)
      (fun j σ H8 => ∃ (x5 x6 : Option V), σ = [some (.ref a), some (.ref b), some (.ref pa), some (.ref ai), some (.ref td), x5, x6] ∧ H8 td = some (.tup vs) ∧ Oth [T] H3 H8 ∧ Paired (IsT H8) ((Tp.lst [] 0 [] ts).map pairT') vs ∧ GxR.TabG H8 T)
      ⟨x5, x6, rfl, o7.tup _ _ upd_same, o37, paired_oth (paired_oth pq o6) o7, tg7⟩ (fun j σ H8 _ hW => ?_) (fun j x σ H8 hx hW => ?_) (fun σ H8 hW => ?_)⟩
    · obtain ⟨_, _, _, e, _⟩ := hW
      exact SqT.of e
    · obtain ⟨y5, y6, rfl, e8, o38, pq8, tg8⟩ := hW
      obtain ⟨l8, g8⟩ := paired_get pq8
      have hj : j < (Tp.lst [] 0 [] ts).length := by
        have := (List.getElem?_eq_some_iff.mp hx).1
        rw [l8, List.length_map] at this
        exact this
      have gr : (Tp.lst [] 0 [] ts)[j]? = some (Tp.lst [] 0 [] ts)[j] := List.getElem?_eq_getElem hj
      generalize (Tp.lst [] 0 [] ts)[j] = rw at gr
      obtain ⟨md, mc, mf, mp⟩ := lst_mem ts [] 0 [] rw (List.mem_of_getElem? gr)
      have ix := g8 j _ x (by rw [List.getElem?_map, gr]; rfl) hx
      obtain ⟨ax, z1, z2, rfl, ex, i1, i2⟩ := IsT.inv2 ix
      refine ⟨_, rfl, ax, _, _, _, rfl, rfl, SqT.of ex, at1, sz, fun s1 hs1 => ?_⟩
      have q1 := Oth.new (S := []) (o := .tup [z2]) hs1
      refine ⟨[rw.tp], _, rfl, .mk1 upd_same (i2.oth q1), by simp only [Tp.deps]; omega, by simp only [Tp.cnts]; omega, TabG.oth tg8 q1 (by simp), fun r9 H9 it9 o9 tg9 => ?_⟩
      obtain ⟨a9, xs9, rfl, e9, p9⟩ := it9.inv
      cases p9 with
      | cons h9 p9 =>
        rename_i v9 vs9
        have o89 := (q1.mono (by simp)).trans o9
        refine ⟨a9, _, _, _, rfl, rfl, SqT.of e9, at0, sz, fun s2 hs2 => ⟨_, rfl, ax, _, _, _, rfl, rfl, SqT.of ((o89.trans (Oth.new hs2)).tup _ _ ex), at1, sz, fun s3 hs3 => ?_⟩⟩
        have q2 := Oth.new (S := [T]) (o := .tup [.int 0]) hs2
        have q3 := Oth.new (S := [T]) (o := .tup [.ref s2, z2]) hs3
        refine ⟨.tup [.tup ([((0 : Nat) : Int)].map .int), rw.tp.toT], _, _, rfl, (h9.oth q2).oth q3, .mk2 upd_same (.mkInts (q3.tup _ _ upd_same)) (((i2.oth o89).oth q2).oth q3), row_dep (r := ⟨[((0 : Nat) : Int)], rw.tp, []⟩) (by show rw.tp.dep ≤ 3; omega) (by show rw.tp.cnt ≤ 5000; omega) (mf hf) (by simp) |>.mono (by decide), _, rfl, iteF ?_⟩
        have q13 := o89.trans (q2.trans q3)
        exact ⟨_, _, rfl, q13.tup _ _ e8, o38.trans q13, paired_oth pq8 q13, TabG.oth tg9 (((Oth.new (S := []) (o := .tup [.int 0]) hs2)).trans (Oth.new (o := .tup [.ref s2, z2]) hs3)) (by simp)⟩
    · obtain ⟨y5, y6, rfl, e8, o38, pq8, tg8⟩ := hW
      exact ⟨_, _, _, _, rfl, o38.tup _ _ ec3, fun v hv => (hcs3 v hv).oth o38, tg8⟩
  · obtain ⟨_, _, _, _, rfl, _⟩ := hW
    exact q _
end
end Pw
namespace Pw
open PySem PySem.Spec PyProof.Rows L2
theorem fn_none {P : Program} {w : World} {K : PySem.W.Frag} {mg : Str → Option Value} {base : Heap} {f : Addr} {fd : FuncData} {ps : List Str} {k : Nat} {sp : Sp} (len : ∀ vs H Q E, sp vs H Q E → vs.length = ps.length) (no : ∀ vs H Q E, ¬ sp vs H Q E) : FnOk P w K mg base CX0 k f fd ps sp :=
  ⟨len, fun A outer s H args us vs Q E _ _ _ _ h => absurd h (no vs H Q E)⟩
section
variable {P : Program} {w : World} {K : PySem.W.Frag} {mg : Str → Option Value} {base : Heap}
theorem all_same {f : Addr} {fd : FuncData} (F : Fun K "_law_same" "_law_same" sSame f fd) (bS : Binds K fd ["actual", "expected"] []) (kS : PySem.W.keepIn K (.ref f) = true) (mS : mg "_law_same" = some (.ref f))
    (m_isinstance : mg "isinstance" = none) (m_tuple : mg "tuple" = none) (m_len : mg "len" = none) (m_range : mg "range" = none) (m_bool : mg "bool" = none) (m_int : mg "int" = none) (m_str : mg "str" = none) :
    ∀ n : Nat, FnOk P w K mg base CX0 n f fd ["actual", "expected"] (spSame n)
  | 0 => fn_none (fun vs H Q E h => by obtain ⟨t, v, u, rfl, _⟩ := h; rfl) fun vs H Q E h => by obtain ⟨t, v, u, _, _, _, h, _⟩ := h; cases h
  | n + 1 => ok_same F (all_same F bS kS mS m_isinstance m_tuple m_len m_range m_bool m_int m_str n) bS kS mS m_isinstance m_tuple m_len m_range m_bool m_int m_str
theorem all_walk {f g : Addr} {fd gd : FuncData} (F : Fun K "_walk" "_walk" sWalk f fd) (bW : Binds K fd ["contents", "before", "around"] []) (kW : PySem.W.keepIn K (.ref f) = true) (mW : mg "_walk" = some (.ref f))
    (GI : FnOk P w K mg base CX0 1 g gd ["template"] spWithin) (bI : Binds K gd ["template"] []) (kI : PySem.W.keepIn K (.ref g) = true) (mI : mg "_rows_within" = some (.ref g)) (m_enumerate : mg "enumerate" = none) :
    ∀ n : Nat, FnOk P w K mg base CX0 (n + 1) f fd ["contents", "before", "around"] (spWalk n)
  | 0 => fn_none (fun vs H Q E h => by obtain ⟨ts, pl, ar, vc, vb, va, rfl, _⟩ := h; rfl) fun vs H Q E h => by obtain ⟨ts, pl, ar, vc, vb, va, _, _, _, _, h, _⟩ := h; omega
  | n + 1 => ok_walk (k := n + 1) F (all_walk F bW kW mW GI bI kI mI m_enumerate n) bW kW mW (GI.mono (by omega)) bI kI mI m_enumerate
theorem all_expr {f g : Addr} {fd gd : FuncData} (F : Fun K "_law_expr" "_law_expr" sExpr f fd) (bE : Binds K fd ["box", "depth"] []) (kE : PySem.W.keepIn K (.ref f) = true) (mE : mg "_law_expr" = some (.ref f))
    (GR : FnOk P w K mg base CX0 1 g gd ["box", "many"] spDrawX) (bR : Binds K gd ["box", "many"] []) (kR : PySem.W.keepIn K (.ref g) = true) (mR : mg "_law_draw" = some (.ref g)) (m_int : mg "int" = none) :
    ∀ n : Nat, FnOk P w K mg base CX0 (n + 1) f fd ["box", "depth"] (spExpr n)
  | 0 => fn_none (fun vs H Q E h => by obtain ⟨b, dg, pl, d, rfl, _⟩ := h; rfl) fun vs H Q E h => by obtain ⟨b, dg, pl, d, _, h, _⟩ := h; omega
  | n + 1 => ok_expr (k := n + 1) F (all_expr F bE kE mE GR bR kR mR m_int n) bE kE mE (GR.mono (by omega)) bR kR mR m_int
theorem all_tpl {fT fN fE fR fK : Addr} {dT dN dE dR dK : FuncData} (FT : Fun K "_law_template" "_law_template" sTemplate fT dT) (FN : Fun K "_law_contents" "_law_contents" sContents fN dN)
    (GE : FnOk P w K mg base CX0 3 fE dE ["box", "depth"] (spExpr 2)) (bE : Binds K dE ["box", "depth"] []) (kE : PySem.W.keepIn K (.ref fE) = true) (mE : mg "_law_expr" = some (.ref fE))
    (GR : FnOk P w K mg base CX0 1 fR dR ["box", "many"] spDrawX) (bR : Binds K dR ["box", "many"] []) (kR : PySem.W.keepIn K (.ref fR) = true) (mR : mg "_law_draw" = some (.ref fR))
    (GK : FnOk P w K mg base CX0 4 fK dK ["box"] spKey) (bK : Binds K dK ["box"] []) (kK : PySem.W.keepIn K (.ref fK) = true) (mK : mg "_law_key" = some (.ref fK))
    (bT : Binds K dT ["box", "own", "level", "last", "free"] []) (kT : PySem.W.keepIn K (.ref fT) = true) (mT : mg "_law_template" = some (.ref fT))
    (bN : Binds K dN ["box", "own", "level", "last", "free"] []) (kN : PySem.W.keepIn K (.ref fN) = true) (mN : mg "_law_contents" = some (.ref fN))
    (m_int : mg "int" = none) (m_len : mg "len" = none) (m_range : mg "range" = none) (m_tuple : mg "tuple" = none) :
    ∀ n : Nat, FnOk P w K mg base CX0 (4 + 2 * n) fT dT ["box", "own", "level", "last", "free"] (spTemplate n) ∧ FnOk P w K mg base CX0 (5 + 2 * n) fN dN ["box", "own", "level", "last", "free"] (spContents n)
  | 0 => by
    have t0 : FnOk P w K mg base CX0 4 fT dT ["box", "own", "level", "last", "free"] (spTemplate 0) := fn_none (fun vs H Q E h => by obtain ⟨b, dg, pl, own, level, last, r, free, rfl, _⟩ := h; rfl) fun vs H Q E h => by obtain ⟨b, dg, pl, own, level, last, r, free, _, _, h, _⟩ := h; omega
    exact ⟨t0, ok_contents (k := 4) FN (GR.mono (by omega)) bR kR mR t0 bT kT mT m_range m_tuple⟩
  | n + 1 => by
    obtain ⟨_, c⟩ := all_tpl FT FN GE bE kE mE GR bR kR mR GK bK kK mK bT kT mT bN kN mN m_int m_len m_range m_tuple n
    have t1 := ok_template (k := 5 + 2 * n) FT (GE.mono (by omega)) bE kE mE (GR.mono (by omega)) bR kR mR (GK.mono (by omega)) bK kK mK c bN kN mN m_int m_len m_range m_tuple
    have t2 : FnOk P w K mg base CX0 (4 + 2 * (n + 1)) fT dT ["box", "own", "level", "last", "free"] (spTemplate (n + 1)) := t1.mono (by omega)
    exact ⟨t2, (ok_contents (k := 4 + 2 * (n + 1)) FN (GR.mono (by omega)) bR kR mR t2 bT kT mT m_range m_tuple).mono (by omega)⟩
theorem all_listed {f : Addr} {fd : FuncData} (F : Fun K "_law_listed" "_law_listed" sListed f fd) (bL : Binds K fd ["contents", "before", "around"] []) (kL : PySem.W.keepIn K (.ref f) = true) (mL : mg "_law_listed" = some (.ref f))
    (m_range : mg "range" = none) (m_len : mg "len" = none) :
    ∀ n : Nat, FnOk P w K mg base CX0 n f fd ["contents", "before", "around"] (spListed n)
  | 0 => fn_none (fun vs H Q E h => by obtain ⟨ts, pl, ar, vc, vb, aa, as, rfl, _⟩ := h; rfl) fun vs H Q E h => by obtain ⟨ts, pl, ar, vc, vb, aa, as, _, _, _, _, h, _⟩ := h; omega
  | n + 1 => ok_listed (k := n) F (all_listed F bL kL mL m_range m_len n) bL kL mL m_range m_len
end
theorem all_mk {l : PySem.W.OpenLaw} {w : World} {K : PySem.W.Frag} {h : Heap} {mg : Str → Option Value} {fa fm fM fW fI fC fD fR fS fE fK fT fN fA fP fB fL fZ cM tM : Addr} (X : K.In h) (G : h.Ns mainGlobals mg) (hfa : mg "law" = some (.ref fa)) (hfm : mg "templates" = some (.ref fm)) (tab : TabAt K fm h)
    {odM anM odW anW odI anI odC anC odD anD odR anR odS anS odE anE odK anK odT anT odN anN odA anA odP anP odB anB odL anL odZ anZ ddM : Option Addr} {slM slW slI slC slD slR slS slE slK slT slN slA slP slB slL slZ slM2 : Array (Option Value)} {ocW kVW dcW pmW cdW ctW ocI kVI dcI pmI cdI ctI ocC kVC dcC pmC cdC ctC ocD kVD dcD pmD cdD ctD ocR kVR dcR pmR cdR ctR ocS kVS dcS pmS cdS ctS ocE kVE dcE pmE cdE ctE ocK kVK dcK pmK cdK ctK ocT kVT dcT pmT cdT ctT ocN kVN dcN pmN cdN ctN ocA kVA dcA pmA cdA ctA ocP kVP dcP pmP cdP ctP ocB kVB dcB pmB cdB ctB ocL kVL dcL pmL cdL ctL ocZ kVZ dcZ pmZ cdZ ctZ ocM kVM dcM pmM ctM ceM : Value} {vsM : Array Value}
    (aM : PySem.W.nsIn K mainGlobals "templates" = some (some (.ref fM))) (lM : K.lookup fM = some ⟨ocM, odM, .func (PySem.W.fnOf "templates" "templates" (defArgs sTemplates) (defBody sTemplates) (defScope sTemplates) .none kVM dcM pmM anM (.ref cM) ctM), slM⟩) (hcM : PySem.W.codeIn K (.ref cM) "templates" = true) (kM : PySem.W.keepIn K (.ref fM) = true)
    (aW : PySem.W.nsIn K mainGlobals "_walk" = some (some (.ref fW))) (lW : K.lookup fW = some ⟨ocW, odW, .func (PySem.W.fnOf "_walk" "_walk" (defArgs sWalk) (defBody sWalk) (defScope sWalk) .none kVW dcW pmW anW cdW ctW), slW⟩) (hcW : PySem.W.codeIn K cdW "_walk" = true) (kW : PySem.W.keepIn K (.ref fW) = true)
    (aI : PySem.W.nsIn K mainGlobals "_rows_within" = some (some (.ref fI))) (lI : K.lookup fI = some ⟨ocI, odI, .func (PySem.W.fnOf "_rows_within" "_rows_within" (defArgs sWithin) (defBody sWithin) (defScope sWithin) .none kVI dcI pmI anI cdI ctI), slI⟩) (hcI : PySem.W.codeIn K cdI "_rows_within" = true) (kI : PySem.W.keepIn K (.ref fI) = true)
    (aC : PySem.W.nsIn K mainGlobals "_law_cell" = some (some (.ref fC))) (lC : K.lookup fC = some ⟨ocC, odC, .func (PySem.W.fnOf "_law_cell" "_law_cell" (defArgs sCell) (defBody sCell) (defScope sCell) .none kVC dcC pmC anC cdC ctC), slC⟩) (hcC : PySem.W.codeIn K cdC "_law_cell" = true) (kC : PySem.W.keepIn K (.ref fC) = true)
    (aD : PySem.W.nsIn K mainGlobals "_law_digits" = some (some (.ref fD))) (lD : K.lookup fD = some ⟨ocD, odD, .func (PySem.W.fnOf "_law_digits" "_law_digits" (defArgs sDigits) (defBody sDigits) (defScope sDigits) .none kVD dcD pmD anD cdD ctD), slD⟩) (hcD : PySem.W.codeIn K cdD "_law_digits" = true) (kD : PySem.W.keepIn K (.ref fD) = true)
    (aR : PySem.W.nsIn K mainGlobals "_law_draw" = some (some (.ref fR))) (lR : K.lookup fR = some ⟨ocR, odR, .func (PySem.W.fnOf "_law_draw" "_law_draw" (defArgs sDraw) (defBody sDraw) (defScope sDraw) .none kVR dcR pmR anR cdR ctR), slR⟩) (hcR : PySem.W.codeIn K cdR "_law_draw" = true) (kR : PySem.W.keepIn K (.ref fR) = true)
    (aS : PySem.W.nsIn K mainGlobals "_law_same" = some (some (.ref fS))) (lS : K.lookup fS = some ⟨ocS, odS, .func (PySem.W.fnOf "_law_same" "_law_same" (defArgs sSame) (defBody sSame) (defScope sSame) .none kVS dcS pmS anS cdS ctS), slS⟩) (hcS : PySem.W.codeIn K cdS "_law_same" = true) (kS : PySem.W.keepIn K (.ref fS) = true)
    (aE : PySem.W.nsIn K mainGlobals "_law_expr" = some (some (.ref fE))) (lE : K.lookup fE = some ⟨ocE, odE, .func (PySem.W.fnOf "_law_expr" "_law_expr" (defArgs sExpr) (defBody sExpr) (defScope sExpr) .none kVE dcE pmE anE cdE ctE), slE⟩) (hcE : PySem.W.codeIn K cdE "_law_expr" = true) (kE : PySem.W.keepIn K (.ref fE) = true)
    (aK : PySem.W.nsIn K mainGlobals "_law_key" = some (some (.ref fK))) (lK : K.lookup fK = some ⟨ocK, odK, .func (PySem.W.fnOf "_law_key" "_law_key" (defArgs sKey) (defBody sKey) (defScope sKey) .none kVK dcK pmK anK cdK ctK), slK⟩) (hcK : PySem.W.codeIn K cdK "_law_key" = true) (kK : PySem.W.keepIn K (.ref fK) = true)
    (aT : PySem.W.nsIn K mainGlobals "_law_template" = some (some (.ref fT))) (lT : K.lookup fT = some ⟨ocT, odT, .func (PySem.W.fnOf "_law_template" "_law_template" (defArgs sTemplate) (defBody sTemplate) (defScope sTemplate) .none kVT dcT pmT anT cdT ctT), slT⟩) (hcT : PySem.W.codeIn K cdT "_law_template" = true) (kT : PySem.W.keepIn K (.ref fT) = true)
    (aN : PySem.W.nsIn K mainGlobals "_law_contents" = some (some (.ref fN))) (lN : K.lookup fN = some ⟨ocN, odN, .func (PySem.W.fnOf "_law_contents" "_law_contents" (defArgs sContents) (defBody sContents) (defScope sContents) .none kVN dcN pmN anN cdN ctN), slN⟩) (hcN : PySem.W.codeIn K cdN "_law_contents" = true) (kN : PySem.W.keepIn K (.ref fN) = true)
    (aA : PySem.W.nsIn K mainGlobals "_law_actions" = some (some (.ref fA))) (lA : K.lookup fA = some ⟨ocA, odA, .func (PySem.W.fnOf "_law_actions" "_law_actions" (defArgs sActions) (defBody sActions) (defScope sActions) .none kVA dcA pmA anA cdA ctA), slA⟩) (hcA : PySem.W.codeIn K cdA "_law_actions" = true) (kA : PySem.W.keepIn K (.ref fA) = true)
    (aP : PySem.W.nsIn K mainGlobals "_law_program" = some (some (.ref fP))) (lP : K.lookup fP = some ⟨ocP, odP, .func (PySem.W.fnOf "_law_program" "_law_program" (defArgs sProgram) (defBody sProgram) (defScope sProgram) .none kVP dcP pmP anP cdP ctP), slP⟩) (hcP : PySem.W.codeIn K cdP "_law_program" = true) (kP : PySem.W.keepIn K (.ref fP) = true)
    (aB : PySem.W.nsIn K mainGlobals "_law_box" = some (some (.ref fB))) (lB : K.lookup fB = some ⟨ocB, odB, .func (PySem.W.fnOf "_law_box" "_law_box" (defArgs sBox) (defBody sBox) (defScope sBox) .none kVB dcB pmB anB cdB ctB), slB⟩) (hcB : PySem.W.codeIn K cdB "_law_box" = true) (kB : PySem.W.keepIn K (.ref fB) = true)
    (aL : PySem.W.nsIn K mainGlobals "_law_listed" = some (some (.ref fL))) (lL : K.lookup fL = some ⟨ocL, odL, .func (PySem.W.fnOf "_law_listed" "_law_listed" (defArgs sListed) (defBody sListed) (defScope sListed) .none kVL dcL pmL anL cdL ctL), slL⟩) (hcL : PySem.W.codeIn K cdL "_law_listed" = true) (kL : PySem.W.keepIn K (.ref fL) = true)
    (aZ : PySem.W.nsIn K mainGlobals "law" = some (some (.ref fZ))) (lZ : K.lookup fZ = some ⟨ocZ, odZ, .func (PySem.W.fnOf "law" "law" (defArgs sLaw) (defBody sLaw) (defScope sLaw) .none kVZ dcZ pmZ anZ cdZ ctZ), slZ⟩) (hcZ : PySem.W.codeIn K cdZ "law" = true) (kZ : PySem.W.keepIn K (.ref fZ) = true)
    (dM : K.lookup cM = some ⟨ceM, ddM, .fields vsM, slM2⟩) (eM : vsM[11]? = some (.ref tM)) (nM : K.lookup tM = none)
    (z_len : PySem.W.nsIn K mainGlobals "len" = some none)
    (z_range : PySem.W.nsIn K mainGlobals "range" = some none)
    (z_int : PySem.W.nsIn K mainGlobals "int" = some none)
    (z_isinstance : PySem.W.nsIn K mainGlobals "isinstance" = some none)
    (z_tuple : PySem.W.nsIn K mainGlobals "tuple" = some none)
    (z_bool : PySem.W.nsIn K mainGlobals "bool" = some none)
    (z_str : PySem.W.nsIn K mainGlobals "str" = some none)
    (z_list : PySem.W.nsIn K mainGlobals "list" = some none)
    (z_max : PySem.W.nsIn K mainGlobals "max" = some none)
    (z_enumerate : PySem.W.nsIn K mainGlobals "enumerate" = some none) :
    LamX.LawAtS l w K CX0 17 63 "script" mg fa h := by
  have e := hfa.symm.trans (PySem.W.mg_of X G aZ)
  cases e
  have e' := hfm.symm.trans (PySem.W.mg_of X G aM)
  cases e'
  have FM := fun_mk (st := sTemplates) lM hcM kM
  have mM := PySem.W.mg_of X G aM
  have bM := FM.binds (ps := ["contents"]) fun _ _ _ _ _ _ us hl => match us, hl with | [_], _ => rfl
  have FW := fun_mk (st := sWalk) lW hcW kW
  have mW := PySem.W.mg_of X G aW
  have bW := FW.binds (ps := ["contents", "before", "around"]) fun _ _ _ _ _ _ us hl => match us, hl with | [_, _, _], _ => rfl
  have FI := fun_mk (st := sWithin) lI hcI kI
  have mI := PySem.W.mg_of X G aI
  have bI := FI.binds (ps := ["template"]) fun _ _ _ _ _ _ us hl => match us, hl with | [_], _ => rfl
  have FC := fun_mk (st := sCell) lC hcC kC
  have mC := PySem.W.mg_of X G aC
  have bC := FC.binds (ps := ["script", "k"]) fun _ _ _ _ _ _ us hl => match us, hl with | [_, _], _ => rfl
  have FD := fun_mk (st := sDigits) lD hcD kD
  have mD := PySem.W.mg_of X G aD
  have bD := FD.binds (ps := ["script", "first", "last"]) fun _ _ _ _ _ _ us hl => match us, hl with | [_, _, _], _ => rfl
  have FR := fun_mk (st := sDraw) lR hcR kR
  have mR := PySem.W.mg_of X G aR
  have bR := FR.binds (ps := ["box", "many"]) fun _ _ _ _ _ _ us hl => match us, hl with | [_, _], _ => rfl
  have FS := fun_mk (st := sSame) lS hcS kS
  have mS := PySem.W.mg_of X G aS
  have bS := FS.binds (ps := ["actual", "expected"]) fun _ _ _ _ _ _ us hl => match us, hl with | [_, _], _ => rfl
  have FE := fun_mk (st := sExpr) lE hcE kE
  have mE := PySem.W.mg_of X G aE
  have bE := FE.binds (ps := ["box", "depth"]) fun _ _ _ _ _ _ us hl => match us, hl with | [_, _], _ => rfl
  have FK := fun_mk (st := sKey) lK hcK kK
  have mK := PySem.W.mg_of X G aK
  have bK := FK.binds (ps := ["box"]) fun _ _ _ _ _ _ us hl => match us, hl with | [_], _ => rfl
  have FT := fun_mk (st := sTemplate) lT hcT kT
  have mT := PySem.W.mg_of X G aT
  have bT := FT.binds (ps := ["box", "own", "level", "last", "free"]) fun _ _ _ _ _ _ us hl => match us, hl with | [_, _, _, _, _], _ => rfl
  have FN := fun_mk (st := sContents) lN hcN kN
  have mN := PySem.W.mg_of X G aN
  have bN := FN.binds (ps := ["box", "own", "level", "last", "free"]) fun _ _ _ _ _ _ us hl => match us, hl with | [_, _, _, _, _], _ => rfl
  have FA := fun_mk (st := sActions) lA hcA kA
  have mA := PySem.W.mg_of X G aA
  have bA := FA.binds (ps := ["box"]) fun _ _ _ _ _ _ us hl => match us, hl with | [_], _ => rfl
  have FP := fun_mk (st := sProgram) lP hcP kP
  have mP := PySem.W.mg_of X G aP
  have bP := FP.binds (ps := ["box"]) fun _ _ _ _ _ _ us hl => match us, hl with | [_], _ => rfl
  have FB := fun_mk (st := sBox) lB hcB kB
  have mB := PySem.W.mg_of X G aB
  have bB := FB.binds (ps := ["script", "first", "last"]) fun _ _ _ _ _ _ us hl => match us, hl with | [_, _, _], _ => rfl
  have FL := fun_mk (st := sListed) lL hcL kL
  have mL := PySem.W.mg_of X G aL
  have bL := FL.binds (ps := ["contents", "before", "around"]) fun _ _ _ _ _ _ us hl => match us, hl with | [_, _, _], _ => rfl
  have FZ := fun_mk (st := sLaw) lZ hcZ kZ
  have mZ := PySem.W.mg_of X G aZ
  have m_len := PySem.W.mg_none_of X G z_len
  have m_range := PySem.W.mg_none_of X G z_range
  have m_int := PySem.W.mg_none_of X G z_int
  have m_isinstance := PySem.W.mg_none_of X G z_isinstance
  have m_tuple := PySem.W.mg_none_of X G z_tuple
  have m_bool := PySem.W.mg_none_of X G z_bool
  have m_str := PySem.W.mg_none_of X G z_str
  have m_list := PySem.W.mg_none_of X G z_list
  have m_max := PySem.W.mg_none_of X G z_max
  have m_enumerate := PySem.W.mg_none_of X G z_enumerate
  have CM' : CodeAt K "templates" sTemplates _ _ cM := ⟨_, _, _, _, _, _, _, _, rfl, lM, hcM, kM⟩
  obtain ⟨hT, hC⟩ := tab cM tM _ _ _ _ _ _ lM rfl rfl dM eM
  refine ⟨PySem.W.fnOf "law" "law" (defArgs sLaw) (defBody sLaw) (defScope sLaw) .none kVZ dcZ pmZ anZ cdZ ctZ, [(cM, tM)], spLawK tM K, ?_, ?_, ?_, fun s v => .of_eq rfl, fun H a ns hl _ hH hS => ⟨a, ns, rfl, hS, hl, ⟨#[], hH _ List.mem_cons_self, by simp [TriplesOk]⟩, fun _ => rfl⟩, fun base _ _ tb => ?_⟩
  · intro p hp; rw [List.mem_singleton.mp hp]; exact hT
  · intro p hp; rw [List.mem_singleton.mp hp]; exact nM
  · intro p hp; rw [List.mem_singleton.mp hp]; exact hC
  have TB : GxR.TabB base mg cM tM := ⟨(tb _ List.mem_cons_self).code, (tb _ List.mem_cons_self).bm, (tb _ List.mem_cons_self).gP⟩
  have gC := ok_cell (P := l.prog) (w := w) (base := base) (k := 0) FC m_len
  have gD := ok_digits (k := 1) FD gC bC kC mC m_range m_int
  have gR := FnOk.weak (ok_draw (P := l.prog) (w := w) (base := base) (k := 0) FR m_len m_int) (sp' := spDrawX) fun vs H Q E h => draw_x h
  have gS := all_same (P := l.prog) (w := w) (base := base) FS bS kS mS m_isinstance m_tuple m_len m_range m_bool m_int m_str 16
  have gI := ok_within (P := l.prog) (w := w) (mg := mg) (base := base) (k := 0) FI
  have gW := all_walk FW bW kW mW gI bI kI mI m_enumerate 4
  have gM := ok_templates (k := 5) CM' TB gW bW kW mW m_tuple
  have gE := all_expr FE bE kE mE gR bR kR mR m_int 2
  have gK := ok_key (k := 3) FK gE bE kE mE (gR.mono (by decide)) bR kR mR
  have gN := (all_tpl FT FN gE bE kE mE gR bR kR mR gK bK kK mK bT kT mT bN kN mN m_int m_len m_range m_tuple 4).2
  have gA := ok_actions (k := 3) FA gE bE kE mE (gR.mono (by decide)) bR kR mR m_range m_tuple
  have gP := ok_program (k := 13) FP (gR.mono (by decide)) bR kR mR (gN.mono (by decide)) bN kN mN (gA.mono (by decide)) bA kA mA m_range m_tuple m_list m_len m_max
  have gB := ok_box (k := 2) FB gD bD kD mD
  have gL := all_listed (P := l.prog) (w := w) (base := base) FL bL kL mL m_range m_len 4
  exact ok_law (k := 16) FZ (gB.mono (by decide)) bB kB mB (gP.mono (by decide)) bP kP mP (gL.mono (by decide)) bL kL mL (gS.mono (by decide)) bS kS mS (gM.mono (by decide)) bM kM mM m_tuple
end Pw
open PySem PySem.W PyProof.Rows
set_option maxRecDepth 100000 in
set_option maxHeartbeats 0 in
theorem PySem.Challenge.cw_pagewake_k00_templates_in_order_holds : PySem.Challenge.rw_pagewake_k00_templates_in_order.Holds := by
  w_on; o_law; k_head; (case hw => w_witness2)
  k_fill
  refine Pw.walk_tab (l := PySem.Challenge.rw_pagewake_k00_templates_in_order) (n := 63) (k := 17) (x := "script") (nm := "templates") rfl (by decide) rfl ⟨rfl, by decide, by decide⟩ ?R (fun w h Y => PySem.W.kIn_of Y) ?F
  case R => first | rfl | decide +kernel
  case F =>
    intro w mg fa fm h KX G hmg hmt tab
    refine' Pw.all_mk KX G hmg hmt tab ?qaM ?qlM ?qhcM ?qkM ?qaW ?qlW ?qhcW ?qkW ?qaI ?qlI ?qhcI ?qkI ?qaC ?qlC ?qhcC ?qkC ?qaD ?qlD ?qhcD ?qkD ?qaR ?qlR ?qhcR ?qkR ?qaS ?qlS ?qhcS ?qkS ?qaE ?qlE ?qhcE ?qkE ?qaK ?qlK ?qhcK ?qkK ?qaT ?qlT ?qhcT ?qkT ?qaN ?qlN ?qhcN ?qkN ?qaA ?qlA ?qhcA ?qkA ?qaP ?qlP ?qhcP ?qkP ?qaB ?qlB ?qhcB ?qkB ?qaL ?qlL ?qhcL ?qkL ?qaZ ?qlZ ?qhcZ ?qkZ ?qdM ?qeM ?qnM ?qz_len ?qz_range ?qz_int ?qz_isinstance ?qz_tuple ?qz_bool ?qz_str ?qz_list ?qz_max ?qz_enumerate
    (case qaM => k_is)
    (case qlM => k_is)
    (case qhcM => k_is)
    (case qkM => k_is)
    (case qaW => k_is)
    (case qlW => k_is)
    (case qhcW => k_is)
    (case qkW => k_is)
    (case qaI => k_is)
    (case qlI => k_is)
    (case qhcI => k_is)
    (case qkI => k_is)
    (case qaC => k_is)
    (case qlC => k_is)
    (case qhcC => k_is)
    (case qkC => k_is)
    (case qaD => k_is)
    (case qlD => k_is)
    (case qhcD => k_is)
    (case qkD => k_is)
    (case qaR => k_is)
    (case qlR => k_is)
    (case qhcR => k_is)
    (case qkR => k_is)
    (case qaS => k_is)
    (case qlS => k_is)
    (case qhcS => k_is)
    (case qkS => k_is)
    (case qaE => k_is)
    (case qlE => k_is)
    (case qhcE => k_is)
    (case qkE => k_is)
    (case qaK => k_is)
    (case qlK => k_is)
    (case qhcK => k_is)
    (case qkK => k_is)
    (case qaT => k_is)
    (case qlT => k_is)
    (case qhcT => k_is)
    (case qkT => k_is)
    (case qaN => k_is)
    (case qlN => k_is)
    (case qhcN => k_is)
    (case qkN => k_is)
    (case qaA => k_is)
    (case qlA => k_is)
    (case qhcA => k_is)
    (case qkA => k_is)
    (case qaP => k_is)
    (case qlP => k_is)
    (case qhcP => k_is)
    (case qkP => k_is)
    (case qaB => k_is)
    (case qlB => k_is)
    (case qhcB => k_is)
    (case qkB => k_is)
    (case qaL => k_is)
    (case qlL => k_is)
    (case qhcL => k_is)
    (case qkL => k_is)
    (case qaZ => k_is)
    (case qlZ => k_is)
    (case qhcZ => k_is)
    (case qkZ => k_is)
    (case qdM => k_is)
    (case qeM => rfl)
    (case qnM => first | kernel_rfl | rfl | decide +kernel)
    (case qz_len => k_is)
    (case qz_range => k_is)
    (case qz_int => k_is)
    (case qz_isinstance => k_is)
    (case qz_tuple => k_is)
    (case qz_bool => k_is)
    (case qz_str => k_is)
    (case qz_list => k_is)
    (case qz_max => k_is)
    (case qz_enumerate => k_is)
